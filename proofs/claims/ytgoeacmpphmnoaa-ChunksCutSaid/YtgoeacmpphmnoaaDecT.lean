/- The reference's Step of layer 3. -/
import Derived.Test.YtgoeacmpphmnoaaDecS
namespace Go.Proofs.Ytgoeacmpphmnoaa
open Go.RowKit Go.ChangeShapes Go.WideShapes
def GivesStep (w : World) (r : List Int × List Int) (e : Ending) (w' : World) : Prop := ∃ vt vh, e = .returned (.tuple #[vt, vh]) ∧ Held .i32 w' vt r.1 ∧ Held .u8 w' vh r.2 ∧ Below w.heap.size w w' ∧ Fresh w.heap.size vh ∧ Fresh w.heap.size vt
theorem own_lit (w : World) (t : TypeId) (k : IntKind) (B : Nat) (hB : B ≤ w.heap.size) (xs : List Int) (n : Nat) (hn : xs.length = n) (hm : n ≤ 1000000) : (w.alloc (.cells (xs.map (Value.int k)).toArray t)).ownsRow B t 1 (.slice (some ⟨w.heap.size, 0, none⟩) n n) n (xs.map (Value.int k)) := by
  subst hn
  refine ⟨by simp, .inr ⟨w.heap.size, xs.length, _, rfl, hB, heap_alloc_new w _, Nat.le_refl _, by unfold maxLen; omega, by simp, by simp [List.take_of_length_le]⟩⟩
theorem info_u8 : (Try.prog.info? 5).map (fun i => (i.zero, i.size, i.bytes)) = some (some (.int .u8 0), 1, 1) := by kernel_rfl
theorem info_i32 : (Try.prog.info? 21).map (fun i => (i.zero, i.size, i.bytes)) = some (some (.int .i32 0), 1, 4) := by kernel_rfl
theorem refS_cases (H : List Int) (x n : Int) (hn : begB (H ++ [x]) = n) :
    (decide (0 < n) = true ∧ decide (((H ++ [x]).length : Int) < n) = true ∧ refS H x = ([], H ++ [x])) ∨ (decide (0 < n) = true ∧ decide (((H ++ [x]).length : Int) < n) = false ∧ refS H x = ([wholeV (H ++ [x])], []))
    ∨ (decide (0 < n) = false ∧ H = [] ∧ refS H x = ([65533], [])) ∨ (decide (0 < n) = false ∧ 0 < H.length ∧ refS H x = (65533 :: (refE x).1, (refE x).2)) := by
  cases H with
  | nil =>
    have hn' : begB [x] = n := hn
    unfold refS
    rw [if_pos rfl]
    unfold refE
    rw [hn']
    show (_ ∧ decide ((1 : Int) < n) = true ∧ _) ∨ (_ ∧ decide ((1 : Int) < n) = false ∧ _) ∨ _
    by_cases h0 : 0 < n
    · by_cases h1 : 1 < n
      · exact .inl ⟨decide_eq_true h0, decide_eq_true h1, by rw [if_pos h1]; rfl⟩
      · exact .inr (.inl ⟨decide_eq_true h0, decide_eq_false h1, by rw [if_neg h1, if_pos h0]; rfl⟩)
    · exact .inr (.inr (.inl ⟨decide_eq_false h0, rfl, by rw [if_neg (by omega), if_neg h0]⟩))
  | cons a H =>
    unfold refS
    rw [if_neg (by simp), hn]
    by_cases h0 : 0 < n
    · by_cases h1 : (((a :: H) ++ [x]).length : Int) < n
      · exact .inl ⟨decide_eq_true h0, decide_eq_true h1, by rw [if_pos h1]⟩
      · exact .inr (.inl ⟨decide_eq_true h0, decide_eq_false h1, by rw [if_neg h1, if_pos h0]⟩)
    · exact .inr (.inr (.inr ⟨decide_eq_false h0, by simp, by rw [if_neg (by have : 0 ≤ (((a :: H) ++ [x]).length : Int) := Int.natCast_nonneg _; omega), if_neg h0]⟩))
theorem rlen_bd (x : Int) : (refE x).1.length ≤ 2 := by unfold refE; split <;> (try split) <;> simp
set_option maxRecDepth 100000 in
set_option maxHeartbeats 1000000 in
theorem rstep_gen (H : List Int) (hE : 0 < H.length → ∀ (x : Int) (w : World), 0 ≤ x → x ≤ 255 → Calls Try.prog 70 #[.slice none 0 0, .int .u8 x] w (GivesStep w (refE x)))
    (x : Int) (v : Value) (w : World) (hv : Held .u8 w v H) (hl : H.length ≤ 3) (hr : ∀ i, i < H.length → 0 ≤ H.getD i 0 ∧ H.getD i 0 ≤ 255) (x0 : 0 ≤ x) (x1 : x ≤ 255) :
    Calls Try.prog 70 #[v, .int .u8 x] w (GivesStep w (refS H x)) := by
  obtain ⟨ao, ca, rfl⟩ := hv.len
  have hva := hv.below ((Below.refl w.heap.size w).alloc (Nat.le_refl _) (.cells #[] 5))
  obtain ⟨n, hn⟩ : ∃ n, begB (H ++ [x]) = n := ⟨_, rfl⟩
  have hcs := refS_cases H x n hn
  have HN := Lib.hid hn
  clear hn
  have hrW : ∀ i, i < (H ++ [x]).length → 0 ≤ (H ++ [x]).getD i 0 ∧ (H ++ [x]).getD i 0 ≤ 255 := by
    intro i hi
    rcases Nat.lt_or_ge i H.length with h | h
    · have := hr i h
      simpa [List.getD, List.getElem?_append, h] using this
    · have : i = H.length := by simp at hi; omega
      subst this
      simp [List.getD, List.getElem?_append]
      omega
  have HRW := Lib.hid hrW
  have HCS := Lib.hid hcs
  have HE := Lib.hid hE
  clear hv hrW hcs hr hE
  have HVA := Lib.hid hva
  clear hva
  go_enter Try.func70, Try.ntmps70
  go_wp2_with (at_builtin; refine wpList_append_held (w.alloc (.cells #[] 5)) rfl (.tmp 10) (.tmp 11) 34 rfl w.heap.size 5 (.int .u8 0) 1 Try.underlying34 info_u8 rfl .u8 _ 0 [] rfl (own_lit w 5 .u8 _ (Nat.le_refl _) [] 0 rfl (by decide)) _ H rfl HVA.out (by omega) (by omega) (by simp) ?_)
  intro v1 w1 ho1 hb1
  have hb1' : Below w.heap.size w w1 := ((Below.refl w.heap.size w).alloc (Nat.le_refl _) (.cells #[] 5)).trans hb1
  clear hb1
  go_wp2_with (at_builtin; refine wpList_append_new w1 rfl (.tmp 12) (.tmp 14) 34 rfl w.heap.size 5 (.int .u8 0) 1 Try.underlying34 info_u8 rfl v1 H.length (H.map (Value.int .u8)) rfl ho1 [.int .u8 x] 1 1 rfl rfl (by intro u hu; simp at hu; rcases hu with rfl <;> rfl) (by omega) (by omega) hb1'.size ?_)
  intro v2 w2 ho2 hb2
  have hb2' := hb1'.trans hb2
  have hW : Held .u8 w2 v2 (H ++ [x]) := held_of_owns (n := H.length + 1) (by rw [List.map_append]; simpa using ho2)
  have hFr : Fresh w.heap.size v2 := Fresh.ofOwn ho2
  obtain ⟨L, hL⟩ : ∃ L, L = H ++ [x] := ⟨_, rfl⟩
  have hLl : L.length = H.length + 1 := by rw [hL]; simp
  rw [← hL] at hW HRW HCS HN
  obtain ⟨lo, lc, rfl⟩ := hW.len
  have HLL := Lib.hid hLl
  have HW := Lib.hid hW
  have HF := Lib.hid hFr
  clear hLl hW hFr ho1 ho2 hb1' hb2 hL
  go_wp2_with fail
  refine (begins_any _ L _ HW.out (by have := HLL.out; omega) (by have := HLL.out; omega) HRW.out).mono ?_
  rintro e w3 ⟨rfl, b3⟩
  have hb3 := hb2'.trans (b3.mono hb2'.size)
  have hcs := HCS.out
  rw [HN.out]
  clear HCS
  rcases hcs with ⟨d1, d2, hs⟩ | ⟨d1, d2, hs⟩ | ⟨d1, h0, hs⟩ | ⟨d1, hpos, hs⟩
  · have HS := Lib.hid hs
    clear hs
    go_wp2
    go_ret2
    exact ⟨_, _, rfl, by rw [HS.out]; exact Held.nil .i32 _, by rw [HS.out]; exact HW.out.below b3, hb3, HF.out, Fresh.nil _ _ _⟩
  · have HS := Lib.hid hs
    clear hs
    go_wp2_with fail
    refine (wholeK_any _ L _ (HW.out.below b3) (by have := HLL.out; omega) (by have := HLL.out; omega) HRW.out).mono ?_
    rintro e w4 ⟨rfl, b4⟩
    have hb4 := hb3.trans (b4.mono hb3.size)
    go_wp2
    go_ret2
    exact ⟨_, _, rfl, by rw [HS.out]; exact held_new .i32 w4 [.int .i32 (wholeV L)] 21 1 1 [wholeV L] rfl rfl, by rw [HS.out]; exact Held.nil .u8 _, hb4.alloc hb4.size _, Fresh.nil _ _ _, Fresh.at_ _ _ _ _ _ hb4.size⟩
  · subst h0
    have HS := Lib.hid hs
    clear hs
    go_wp2
    go_ret2
    exact ⟨_, _, rfl, by rw [HS.out]; exact held_new .i32 w3 [.int .i32 65533] 21 1 1 [65533] rfl rfl, by rw [HS.out]; exact Held.nil .u8 _, hb3.alloc hb3.size _, Fresh.nil _ _ _, Fresh.at_ _ _ _ _ _ hb3.size⟩
  · have HS := Lib.hid hs
    have d3 : ((H.length : Int) == 0) = false := beq_eq_false_iff_ne.2 (by omega)
    clear hs
    go_wp2_with fail
    refine (HE.out hpos x _ x0 x1).mono ?_
    rintro e w4 ⟨vt, vh, rfl, ht, hh, b4, hf, _⟩
    have hb4 := hb3.trans (b4.mono hb3.size)
    have hte := rlen_bd x
    obtain ⟨T, hT⟩ : ∃ T, T = (refE x).1 := ⟨_, rfl⟩
    rw [← hT] at ht hte HS
    have ht2 := ht.below ((Below.refl w4.heap.size w4).alloc (Nat.le_refl _) (.cells #[.int .i32 65533] 21))
    have HH := Lib.hid hh
    have HFR := Lib.hid (hf.mono hb3.size)
    obtain ⟨to', tc, rfl⟩ := ht2.len
    have HT := Lib.hid ht2
    clear hh hf ht ht2 hT
    go_wp2_with (at_builtin; refine wpList_append_held (w4.alloc (.cells #[.int .i32 65533] 21)) rfl (.tmp 41) (.tmp 42) 29 rfl w4.heap.size 21 (.int .i32 0) 4 Try.underlying29 info_i32 rfl .i32 _ 1 [65533] rfl (own_lit w4 21 .i32 _ (Nat.le_refl _) [65533] 1 rfl (by decide)) _ T rfl HT.out (by omega) (by omega) (by simp) ?_)
    intro v5 w5 ho5 hb5
    have hT5 : Held .i32 w5 v5 (65533 :: T) := held_of_owns (n := 1 + T.length) (by simpa using ho5)
    have hal := ((Below.refl w4.heap.size w4).alloc (Nat.le_refl _) (.cells #[.int .i32 65533] 21)).trans hb5
    have hb5' : Below w.heap.size w w5 := hb4.trans (hal.mono hb4.size)
    have hHH := HH.out.below hal
    have HF5 := Lib.hid ((Fresh.ofOwn ho5).mono hb4.size)
    clear ho5 hb5
    go_wp2
    go_ret2
    exact ⟨_, _, rfl, by rw [HS.out]; exact hT5, by rw [HS.out]; exact hHH, hb5', HFR.out, HF5.out⟩
theorem rstepE (x : Int) (w : World) (x0 : 0 ≤ x) (x1 : x ≤ 255) : Calls Try.prog 70 #[.slice none 0 0, .int .u8 x] w (GivesStep w (refE x)) := by
  have := rstep_gen [] (fun h => absurd h (by simp)) x (.slice none 0 0) w (Held.nil .u8 w) (by simp) (fun i hi => absurd hi (by simp)) x0 x1
  unfold refS at this
  rw [if_pos rfl] at this
  exact this
theorem rstep_any (H : List Int) (x : Int) (v : Value) (w : World) (hv : Held .u8 w v H) (hl : H.length ≤ 3) (hr : ∀ i, i < H.length → 0 ≤ H.getD i 0 ∧ H.getD i 0 ≤ 255) (x0 : 0 ≤ x) (x1 : x ≤ 255) :
    Calls Try.prog 70 #[v, .int .u8 x] w (GivesStep w (refS H x)) :=
  rstep_gen H (fun _ y u y0 y1 => rstepE y u y0 y1) x v w hv hl hr x0 x1
end Go.Proofs.Ytgoeacmpphmnoaa
