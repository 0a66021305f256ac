/- UtfdecCuts (3.2) answers true at every two rows of bytes, and turns nothing. No conditions. -/
import Derived.Test.YtgdknabpdjohgaaUtfdecW
import Derived.Test.YtgdknabpdjohgaaFrame
import Derived.Test.YtgdknabpdjohgaaRows
import Derived.ProofKit
namespace Go.Proofs.Ytgdknabpdjohgaa.lawUtfdecCuts
open Go.ChangeShapes Go.WideShapes Go.ChangeAt Go.RowKit
theorem in_bytes {xs : List Int} (h : ∀ x ∈ xs, (Lit.int .u8 x).wf = true) : ∀ x ∈ xs, 0 ≤ x ∧ x ≤ 255 := fun x hx => by have := bounds_u8 (h x hx); omega
theorem Try.info5b : (Try.prog.info? 5).map (fun i => (i.zero, i.size, i.bytes)) = some (some (.int .u8 0), 1, 1) := by kernel_rfl
theorem own_new (w : World) (t : TypeId) (k : IntKind) (B : Nat) (hB : B ≤ w.heap.size) : (w.alloc (.cells #[] t)).ownsRow B t 1 (.slice (some ⟨w.heap.size, 0, none⟩) 0 0) 0 (([] : List Int).map (Value.int k)) :=
  ⟨rfl, .inr ⟨w.heap.size, 0, #[], rfl, hB, heap_alloc_new w _, Nat.le_refl _, by unfold maxLen; omega, rfl, rfl⟩⟩
set_option maxRecDepth 100000 in
set_option maxHeartbeats 1000000 in
theorem walk (w : World) (va : Value) (a : List Int) (hva : Held .u8 w va a) (hpa : ∀ x ∈ a, (Lit.int .u8 x).wf = true) (vb : Value) (b : List Int) (hvb : Held .u8 w vb b) (hpb : ∀ x ∈ b, (Lit.int .u8 x).wf = true) :
    Calls Try.prog 8 #[va, vb] w (Yes w) := by
  have HPA := Lib.hid (in_bytes hpa)
  have HPB := Lib.hid (in_bytes hpb)
  have HVA := Lib.hid hva
  have HVB := Lib.hid hvb
  obtain ⟨ao, ca, rfl⟩ := hva.len
  obtain ⟨bo, cb, rfl⟩ := hvb.len
  clear hpa hpb hva hvb
  rcases (by omega : 2000 < a.length ∨ (a.length ≤ 2000 ∧ 2000 < b.length) ∨ (a.length ≤ 2000 ∧ b.length ≤ 2000)) with hl | ⟨hla, hl⟩ | ⟨hla, hlb⟩
  · go_enter Try.func8, Try.ntmps8
    go_wp2_with fail
    refine (works3_any _).mono ?_
    rintro e w1 ⟨rfl, b1⟩
    go_wp2_with fail
    refine (works3_any _).mono ?_
    rintro e w2 ⟨rfl, b2⟩
    go_wp2
    go_ret
    exact ⟨(ret_eq (by first | rfl | (simp <;> omega))), b1.trans (b2.mono b1.size)⟩
  · go_enter Try.func8, Try.ntmps8
    go_wp2_with fail
    refine (works3_any _).mono ?_
    rintro e w1 ⟨rfl, b1⟩
    go_wp2_with fail
    refine (works3_any _).mono ?_
    rintro e w2 ⟨rfl, b2⟩
    go_wp2
    go_ret
    exact ⟨(ret_eq (by first | rfl | (simp <;> omega))), b1.trans (b2.mono b1.size)⟩
  · go_enter Try.func8, Try.ntmps8
    go_wp2_with fail
    refine (works3_any _).mono ?_
    rintro e w1 ⟨rfl, b1⟩
    go_wp2_with fail
    obtain ⟨W1, hW1⟩ : ∃ W, W = (w1.alloc (.cells [Value.int .u8 0, .int .i32 0, .int .i64 0].toArray 33)).alloc (.cells [Value.int .u8 0, .int .i32 0, .int .i64 0].toArray 33) := ⟨_, rfl⟩
    have hd0 : DecAt W1 w1.heap.size 0 0 0 := by rw [hW1]; exact (Has.new w1 _ _).alloc _
    have he0 : DecAt W1 (w1.heap.size + 1) 0 0 0 := by
      rw [hW1]
      have := Has.new (w1.alloc (.cells [Value.int .u8 0, .int .i32 0, .int .i64 0].toArray 33)) [Value.int .u8 0, .int .i32 0, .int .i64 0] 33
      simpa [DecAt] using this
    have hbW1 : Below w.heap.size w W1 := by rw [hW1]; exact (b1.alloc b1.size _).alloc (by have := b1.size; simp; omega) _
    have hzW1 : W1.heap.size = w1.heap.size + 2 := by rw [hW1]; simp
    have hw1 : w.heap.size ≤ w1.heap.size := b1.size
    have E1 : ((w1.alloc (.cells #[Value.int .u8 0, .int .i32 0, .int .i64 0] 33)).alloc (.cells #[Value.int .u8 0, .int .i32 0, .int .i64 0] 33)) = W1 := hW1.symm
    rw [E1]
    clear E1 hW1 b1
    generalize hg : w1.heap.size = g at *
    clear hg
    have HZ1 := Lib.hid hzW1
    clear hzW1
    refine (feed_new g (0, 0, 0) _ a _ hd0 wfS_zero (HVA.out.below hbW1) (arg_ne HVA.out hw1) HPA.out (by omega)).mono ?_
    rintro e w2 ⟨v2, rfl, hh2, hd2, hb2, hf2⟩
    have he2 : DecAt w2 (g + 1) 0 0 0 := he0.but hb2 (by have := HZ1.out; omega) (by omega)
    have hbw2 : Below w.heap.size w w2 := hbW1.trans (hb2.below hbW1.size hw1)
    have hz2 : g + 2 ≤ w2.heap.size := by have := hb2.size; have := HZ1.out; omega
    have hf2' : Fresh (g + 2) v2 := hf2.mono (by have := HZ1.out; omega)
    have hwA : wfS (feedSt (0, 0, 0) a) := wfS_feed _ _ wfS_zero HPA.out
    obtain ⟨sA, hsA⟩ : ∃ s, s = feedSt (0, 0, 0) a := ⟨_, rfl⟩
    rw [← hsA] at hd2 hwA
    have HSA := Lib.hid hsA
    have HWA := Lib.hid hwA
    have HD2 := Lib.hid hd2
    have c0 := hd2.cell 0 _ rfl
    have c1 := hd2.cell 1 _ rfl
    have c2 := hd2.cell 2 _ rfl
    have fr0 := hd2.free 0
    clear hd0 he0 hbW1 hb2 HZ1 hf2 hsA hwA hd2
    go_wp2_with fail
    obtain ⟨W3, hW3⟩ : ∃ W, W = w2.alloc (.cells [Value.int .u8 sA.1, .int .i32 sA.2.1, .int .i64 sA.2.2].toArray 33) := ⟨_, rfl⟩
    have hd3 : DecAt W3 g sA.1 sA.2.1 sA.2.2 := by rw [hW3]; exact HD2.out.alloc _
    have he3 : DecAt W3 (g + 1) 0 0 0 := by rw [hW3]; exact he2.alloc _
    have hc3 : DecAt W3 w2.heap.size sA.1 sA.2.1 sA.2.2 := by rw [hW3]; exact Has.new w2 _ _
    have hh3 : Held .i32 W3 v2 (feedTo (0, 0, 0) a) := by rw [hW3]; exact hh2.alloc _
    have hbw3 : Below w.heap.size w W3 := by rw [hW3]; exact hbw2.alloc hbw2.size _
    have hz3 : W3.heap.size = w2.heap.size + 1 := by rw [hW3]; simp
    have hne3 := arg_ne hh2 (Nat.le_refl w2.heap.size)
    have E3 : (w2.alloc (.cells #[Value.int .u8 sA.1, .int .i32 sA.2.1, .int .i64 sA.2.2] 33)) = W3 := hW3.symm
    rw [E3]
    clear E3 hW3 HD2 c0 c1 c2 fr0 hh2 he2 hbw2
    generalize hgc : w2.heap.size = gc at *
    clear hgc
    have HZ3 := Lib.hid hz3
    have HN3 := Lib.hid hne3
    clear hz3 hne3
    have hg3 : g + 2 ≤ gc := hz2
    refine (feed_new g sA _ b _ hd3 HWA.out (HVB.out.below hbw3) (arg_ne HVB.out hw1) HPB.out (by omega)).mono ?_
    rintro e w4 ⟨v4, rfl, hh4, hd4, hb4, hf4⟩
    have hs4 : gc + 1 ≤ w4.heap.size := by have := hb4.size; have := HZ3.out; omega
    have he4 : DecAt w4 (g + 1) 0 0 0 := he3.but hb4 (by have := HZ3.out; omega) (by omega)
    have hc4 : DecAt w4 gc sA.1 sA.2.1 sA.2.2 := hc3.but hb4 (by have := HZ3.out; omega) (by omega)
    have hx4 : Held .i32 w4 v2 (feedTo (0, 0, 0) a) := hh3.past hb4 (fresh_ne hf2' (by omega))
    have hbw4 : Below w.heap.size w w4 := hbw3.trans (hb4.below hbw3.size hw1)
    have hf4' : Fresh (gc + 1) v4 := hf4.mono (by have := HZ3.out; omega)
    have hva4 := HVA.out.below hbw4
    have hvb4 := HVB.out.below hbw4
    have hsB : feedSt (0, 0, 0) (a ++ b) = feedSt sA b := by rw [feedSt_append, HSA.out]
    have hTo : feedTo (0, 0, 0) (a ++ b) = feedTo (0, 0, 0) a ++ feedTo sA b := by rw [feedTo_append, HSA.out]
    have HSB := Lib.hid hsB
    have HTO := Lib.hid hTo
    have HX4 := Lib.hid hx4
    have HH4 := Lib.hid hh4
    have HD4 := Lib.hid hd4
    have HE4 := Lib.hid he4
    have HC4 := Lib.hid hc4
    clear hd3 he3 hc3 hh3 hbw3 hb4 HZ3 hsB hTo hx4 hh4 hd4 he4 hc4 hf4
    -- the two rows put together
    have hva4' := hva4.alloc (.cells #[] 5)
    go_wp2_with (at_builtin; refine wpList_append_held (w4.alloc (.cells #[] 5)) rfl (.tmp 31) (.tmp 32) 28 rfl w4.heap.size 5 (.int .u8 0) 1 Try.underlying28 Try.info5b rfl .u8 _ 0 [] rfl (own_new w4 5 .u8 _ (Nat.le_refl _)) _ a rfl hva4' (by omega) (by omega) (by simp) ?_)
    intro v5 w5 ho5 hb5
    have bw5 : Below w4.heap.size w4 w5 := ((Below.refl _ _).alloc (Nat.le_refl _) _).trans hb5
    have hvb5 := hvb4.below bw5
    clear hva4 hva4' hb5
    go_wp2_with (at_builtin; refine wpList_append_held w5 rfl (.tmp 33) (.tmp 34) 28 rfl w4.heap.size 5 (.int .u8 0) 1 Try.underlying28 Try.info5b rfl .u8 _ a.length a rfl ho5 _ b rfl hvb5 (by omega) (by omega) bw5.size ?_)
    intro v6 w6 ho6 hb6
    have bw6 : Below w4.heap.size w4 w6 := bw5.trans hb6
    have hv6 : Held .u8 w6 v6 (a ++ b) := held_of_owns (n := a.length + b.length) (by rw [List.map_append]; exact ho6)
    have fr6 : Fresh w4.heap.size v6 := Fresh.ofOwn ho6
    have hd6 := HD4.out.below bw6 (by omega)
    have he6 := HE4.out.below bw6 (by omega)
    have hc6 := HC4.out.below bw6 (by omega)
    have hX6 := HX4.out.below bw6
    have hH6 := HH4.out.below bw6
    have hbw6 := hbw4.trans (bw6.mono hbw4.size)
    have hs6 : gc + 1 ≤ w6.heap.size := by have := bw6.size; omega
    clear ho5 ho6 hb6 bw5 bw6 hvb5 hvb4 hbw4 HD4 HE4 HC4 HX4 HH4
    go_wp2_with fail
    refine (feed_new (g + 1) (0, 0, 0) _ (a ++ b) _ he6 wfS_zero hv6 (fresh_ne fr6 (by omega)) (fun x hx => (List.mem_append.1 hx).elim (HPA.out x) (HPB.out x)) (by simp; omega)).mono ?_
    rintro e w7 ⟨v7, rfl, hh7, he7, hb7, hf7⟩
    rw [HTO.out] at hh7
    rw [HSB.out] at he7
    have hd7 := hd6.but hb7 (by omega) (by omega)
    have hc7 := hc6.but hb7 (by omega) (by omega)
    have hX7 := hX6.past hb7 (fresh_ne hf2' (by omega))
    have hH7 := hH6.past hb7 (fresh_ne hf4' (by omega))
    have hbw7 : Below w.heap.size w w7 := hbw6.trans (hb7.below hbw6.size (by omega))
    have hs7 : gc + 1 ≤ w7.heap.size := by have := hb7.size; omega
    have hf7' : Fresh (gc + 1) v7 := hf7.mono hs6
    clear hd6 he6 hc6 hX6 hH6 hb7 hbw6 fr6 hv6 HTO HSB hs6 hf7
    go_wp2_with fail
    refine (feed_new gc sA _ b _ hc7 HWA.out (HVB.out.below hbw7) (arg_ne HVB.out (by omega)) HPB.out (by omega)).mono ?_
    rintro e w8 ⟨v8, rfl, hh8, hc8, hb8, hf8⟩
    have hd8 := hd7.but hb8 (by omega) (by omega)
    have he8 := he7.but hb8 (by omega) (by omega)
    have hX8 := hX7.past hb8 HN3.out
    have hH8 := hH7.past hb8 (fresh_ne hf4' (by omega))
    have hZ8 := hh7.past hb8 (fresh_ne hf7' (by omega))
    have hbw8 : Below w.heap.size w w8 := hbw7.trans (hb8.below hbw7.size (by omega))
    have hs8 : gc + 1 ≤ w8.heap.size := by have := hb8.size; omega
    have lX := feedTo_len (0, 0, 0) a
    have lH := feedTo_len sA b
    generalize feedTo (0, 0, 0) a = X at *
    generalize feedTo sA b = Y at *
    have hX8' := hX8.alloc (.cells #[] 21)
    have HZ8 := Lib.hid hZ8
    have HH8 := Lib.hid hh8
    clear hd7 he7 hc7 hX7 hH7 hh7 hb8 hbw7 hf8 hZ8 hh8 HN3
    go_wp2_with (at_builtin; refine wpList_append_held (w8.alloc (.cells #[] 21)) rfl (.tmp 39) (.tmp 40) 35 rfl w8.heap.size 21 (.int .i32 0) 4 Try.underlying35 Try.info21 rfl .i32 _ 0 [] rfl (own_new w8 21 .i32 _ (Nat.le_refl _)) _ X rfl hX8' (by omega) (by omega) (by simp) ?_)
    intro v9 w9 ho9 hb9
    have bw9 : Below w8.heap.size w8 w9 := ((Below.refl _ _).alloc (Nat.le_refl _) _).trans hb9
    have hH9 := hH8.below bw9
    clear hX8 hX8' hb9
    go_wp2_with (at_builtin; refine wpList_append_held w9 rfl (.tmp 41) (.tmp 42) 35 rfl w8.heap.size 21 (.int .i32 0) 4 Try.underlying35 Try.info21 rfl .i32 _ X.length X rfl ho9 _ Y rfl hH9 (by omega) (by omega) bw9.size ?_)
    intro v10 w10 ho10 hb10
    have bw10 : Below w8.heap.size w8 w10 := bw9.trans hb10
    have hv10 : Held .i32 w10 v10 (X ++ Y) := held_of_owns (n := X.length + Y.length) (by rw [List.map_append]; exact ho10)
    have hd10 := hd8.below bw10 (by omega)
    have he10 := he8.below bw10 (by omega)
    have hc10 := hc8.below bw10 (by omega)
    have hH10 := hH8.below bw10
    have hZ10 := HZ8.out.below bw10
    have hW10 := HH8.out.below bw10
    have hbw10 := hbw8.trans (bw10.mono hbw8.size)
    have hs10 : gc + 1 ≤ w10.heap.size := by have := bw10.size; omega
    clear ho9 ho10 hb10 bw9 bw10 hH9 hH8 hd8 he8 hc8 HZ8 HH8 hbw8
    have hs1 := same_any _ _ (X ++ Y) (X ++ Y) _ hv10 hZ10 (by simp; omega)
    rw [sameB_self] at hs1
    have HS1 := Lib.hid hs1
    clear hs1 hv10 hZ10
    go_wp2_with fail
    refine HS1.out.mono ?_
    rintro e w11 ⟨rfl, hb11⟩
    have hd11 := hd10.below hb11 (by omega)
    have he11 := he10.below hb11 (by omega)
    have hc11 := hc10.below hb11 (by omega)
    have hs2 := same_any _ _ Y Y _ (hH10.below hb11) (hW10.below hb11) (by omega)
    rw [sameB_self] at hs2
    have HS2 := Lib.hid hs2
    have hbw11 := hbw10.trans (hb11.mono hbw10.size)
    have hs11 : gc + 1 ≤ w11.heap.size := by have := hb11.size; omega
    clear hs2 hd10 he10 hc10 hH10 hW10 hb11 hbw10 HS1
    go_wp2_with fail
    refine HS2.out.mono ?_
    rintro e w12 ⟨rfl, hb12⟩
    have hd12 := hd11.below hb12 (by omega)
    have he12 := he11.below hb12 (by omega)
    have hc12 := hc11.below hb12 (by omega)
    have hbw12 := hbw11.trans (hb12.mono hbw11.size)
    clear hd11 he11 hc11 hb12 hbw11 HS2
    go_wp2_with fail
    refine (held_any g _ _ _ _ hd12).mono ?_
    rintro e w' ⟨rfl, rfl⟩
    go_wp2_with fail
    refine (held_any (g + 1) _ _ _ _ he12).mono ?_
    rintro e w' ⟨rfl, rfl⟩
    go_wp2_with fail
    refine (held_any gc _ _ _ _ hc12).mono ?_
    rintro e w' ⟨rfl, rfl⟩
    go_wp2_with fail
    refine (held_any g _ _ _ _ hd12).mono ?_
    rintro e w' ⟨rfl, rfl⟩
    go_wp2
    go_ret
    exact ⟨(ret_eq (by first | rfl | (simp <;> omega))), hbw12⟩

set_option maxRecDepth 100000 in
theorem lifted (os : Os) (started : os.Started) (H : Type) (enc : TypeId × Value → H) :
    ReturnsInHanded {} Try.checked os 8 .any (Rows.utfdecCutsSpec.pre6 enc Try.prog Try.f8 Rows.utfdecCutsRow.domain false) (Rows.utfdecCutsSpec.post enc Try.prog Try.f8 false true false false) := by
  refine law_frame_plain (C := Try.checked) (tb := 4) (by kernel_rfl) started (by kernel_rfl) Try.func8 (by kernel_rfl) (by kernel_rfl) Try.underlying4 rfl
    (by rw [Try.params8]; intro t ht; simp at ht; subst ht <;> exact ⟨by kernel_rfl, of_decide_eq_true (by kernel_rfl)⟩)
    (by rw [Try.params8]; intro ds hd; match ds, hd with | [_, _], _ => rfl)
    (ChangeSpec.witness6 (enc := enc) (C := Try.checked) false ⟨#[], #[.slice none 0 0, .slice none 0 0], []⟩ 8 (by kernel_rfl) (by kernel_rfl) (by kernel_rfl) (by kernel_rfl)) ?_
  intro W base args ds before hval hA
  rw [Try.params8] at hA hval
  obtain ⟨v0, vs0, d0, ds0, p0, q0, hargs, rfl, rfl, h0, r0⟩ := trodAll_cons hA
  obtain ⟨v1, vs1, d1, ds1, p1, q1, rfl, rfl, rfl, h1, r1⟩ := trodAll_cons r0
  obtain ⟨rfl, rfl, rfl⟩ := trodAll_nil r1
  obtain rfl : args = #[v0, v1] := by cases args; simp_all
  obtain ⟨x0, hx0, wx0⟩ := held_arg Try.underlying28 Try.underlying5 (by kernel_rfl) (hval 0 28 v0 rfl rfl) h0
  obtain ⟨x1, hx1, wx1⟩ := held_arg Try.underlying28 Try.underlying5 (by kernel_rfl) (hval 1 28 v1 rfl rfl) h1
  exact walk W v0 x0 hx0 wx0 v1 x1 hx1 wx1

theorem proved : Rows.UtfdecCutsSaid :=
  OpenClaim.holds_of_wide 8 Try.f8 rfl rfl rfl rfl rfl rfl rfl ⟨rfl, rfl, rfl, rfl, rfl⟩ rfl rfl rfl rfl rfl (by kernel_rfl) Try.func8 (by kernel_rfl)
    (of_decide_eq_true (by kernel_rfl)) (by unfold Func.isWrapper; first | (rw [if_pos (by decide +kernel)]; kernel_rfl) | (rw [if_neg (by decide +kernel)]; exact ⟨rfl, rfl⟩))
    (fun os started H enc _ => lifted os started H enc)
#print axioms proved

end Go.Proofs.Ytgdknabpdjohgaa.lawUtfdecCuts
