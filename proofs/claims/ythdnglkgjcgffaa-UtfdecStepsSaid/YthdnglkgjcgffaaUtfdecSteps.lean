/- UtfdecSteps (3.1) answers true at every row of bytes, and turns nothing. No conditions. -/
import Derived.Test.YthdnglkgjcgffaaDecT
import Derived.Test.YthdnglkgjcgffaaUtfdecW
import Derived.Test.YthdnglkgjcgffaaFrame
import Derived.Test.YthdnglkgjcgffaaRows
import Derived.ProofKit
namespace Go.Proofs.Ythdnglkgjcgffaa.lawUtfdecSteps
open Go.ChangeShapes Go.WideShapes Go.ChangeAt Go.RowKit
theorem rel_wf {H : List Int} {s : St} (hr : Rel H s) : wfS s := by
  unfold wfS wfD
  cases hr with
  | none => exact .inl ⟨rfl, rfl, rfl⟩
  | one l h h0 h1 =>
    have hle := lead_le l
    refine .inr ⟨h0, h1, by show (1 : Int) ≤ 1; omega, by show (1 : Int) < leadI l; omega, ?_⟩
    show 0 ≤ bitsI l ∧ bitsI l < mxD (leadI l) 1
    unfold bitsI mxD
    unfold leadI at *
    omega
  | two l y h h0 h1 hy0 hy1 =>
    have hle := lead_le l
    have hyy := lo_hi_in (by omega) hy0 hy1
    refine .inr ⟨h0, h1, by show (1 : Int) ≤ 2; omega, by show (2 : Int) < leadI l; omega, ?_⟩
    show 0 ≤ bitsI l * 64 + y % 64 ∧ bitsI l * 64 + y % 64 < mxD (leadI l) 2
    unfold bitsI mxD
    unfold leadI at *
    unfold lo2 at hy0
    unfold hi2 at hy1
    omega
  | three l y z h h0 h1 hy0 hy1 hz0 hz1 =>
    have hle := lead_le l
    have hyy := lo_hi_in (by omega) hy0 hy1
    refine .inr ⟨h0, h1, by show (1 : Int) ≤ 3; omega, by show (3 : Int) < leadI l; omega, ?_⟩
    show 0 ≤ (bitsI l * 64 + y % 64) * 64 + z % 64 ∧ (bitsI l * 64 + y % 64) * 64 + z % 64 < mxD (leadI l) 3
    unfold bitsI mxD
    unfold leadI at *
    unfold lo2 at hy0
    unfold hi2 at hy1
    omega
def NeG (H : List Int) (v : Value) (g : Nat) : Prop := ∀ a n c, 0 < H.length → v = .slice (some a) n c → a.block ≠ g
theorem rflush_some (ao : Option Addr) (n cap : Nat) (w : World) (hn : 0 < n) : Calls Try.prog 22 #[.slice ao n cap] w fun e w' => e = .returned (.slice (some ⟨w.heap.size, 0, none⟩) 1 1) ∧ w' = w.alloc (.cells [Value.int .i32 65533].toArray 21) := by
  have d0 : ((n : Int) == 0) = false := beq_eq_false_iff_ne.2 (by omega)
  go_enter Try.func22, Try.ntmps22
  go_wp2
  go_ret
  exact ⟨rfl, rfl⟩
theorem rflush_none (ao : Option Addr) (cap : Nat) (w : World) : Calls Try.prog 22 #[.slice ao 0 cap] w fun e w' => e = .returned (.slice none 0 0) ∧ w = w' := by
  go_enter Try.func22, Try.ntmps22
  go_wp2
  go_ret
  exact ⟨rfl, rfl⟩
set_option maxRecDepth 100000 in
set_option maxHeartbeats 1000000 in
theorem walk (w : World) (v : Value) (xs : List Int) (hv : Held .u8 w v xs) (hp : ∀ x ∈ xs, (Lit.int .u8 x).wf = true) : Calls Try.prog 6 #[v] w (Yes w) := by
  have hr1 : ∀ j, j < xs.length → 0 ≤ xs.getD j 0 ∧ xs.getD j 0 ≤ 255 := by
    intro j hj
    have := bounds_u8 (hp (xs.getD j 0) (by simp [List.getD, List.getElem?_eq_getElem hj]))
    omega
  have HR := Lib.hid hr1
  clear hp hr1
  obtain ⟨ao, cap, rfl, hc⟩ := hv.view
  have HC := Lib.hid hc
  clear hc hv
  by_cases hl : 3000 < xs.length
  · go_enter Try.func6, Try.ntmps6
    go_wp2_with fail
    refine (works3_any _).mono ?_
    rintro e w1 ⟨rfl, b1⟩
    go_wp2_with fail
    refine (works3_any _).mono ?_
    rintro e w2 ⟨rfl, b2⟩
    go_wp2
    go_ret
    exact ⟨(ret_eq (by first | rfl | (simp <;> omega))), b1.trans (b2.mono b1.size)⟩
  · go_enter Try.func6, Try.ntmps6
    go_wp2_with fail
    refine (works3_any _).mono ?_
    rintro e w1 ⟨rfl, b1⟩
    go_wp2
    go_loopw [4, 5] (fun vh i wr => ∃ (k : Nat) (H : List Int) (s : St), k ≤ xs.length ∧ i = .int .i64 k ∧ Held .u8 wr vh H ∧ Rel H s ∧ NeG H vh w1.heap.size ∧ DecAt wr w1.heap.size s.1 s.2.1 s.2.2 ∧ Below w.heap.size w wr) (fun _ i _ => xs.length - (intOf i).toNat)
    case atStart => exact ⟨0, [], (0, 0, 0), Nat.zero_le _, rfl, Held.nil .u8 _, Rel.none, (fun _ _ _ h => absurd h (by simp)), Has.new w1 _ _, b1.alloc b1.size _⟩
    case round =>
      obtain ⟨k, H, s, hk, rfl, hh, hrel, hne, hd, hbw⟩ := hrel
      have hg := hd.lt
      have hb1 := b1.size
      by_cases hlt : k < xs.length
      · obtain ⟨b, off, rfl, hb, hcx⟩ := HC.out k hlt
        have hcx1 := (hbw.cell (p := ⟨b, off + k, none⟩) hb).trans hcx
        obtain ⟨x0, x1⟩ := HR.out k hlt
        obtain ⟨x, hx⟩ : ∃ x, x = xs.getD k 0 := ⟨_, rfl⟩
        rw [← hx] at hcx1 x0 x1
        have hst := rstep_any H x _ wr hh (rel_len hrel).2 (rel_bytes hrel) x0 x1
        obtain ⟨hq1, hq2⟩ := rel_step hrel x x0 x1
        have hto : (stepTo s x).length ≤ 2 := tellT_len _ _ _ _
        obtain ⟨R, hR⟩ : ∃ R, R = refS H x := ⟨_, rfl⟩
        rw [← hR] at hst hq1 hq2
        obtain ⟨T, H2⟩ := R
        have hr1 : T = stepTo s x := hq1
        have hr2 : Rel H2 (stepSt s x) := hq2
        have hst2 : Calls Try.prog 17 _ wr (GivesStep wr (T, H2)) := hst
        have HST := Lib.hid hst2
        have HTO := Lib.hid hr1
        have HREL := Lib.hid hr2
        have HWF := Lib.hid (rel_wf hrel)
        have HD := Lib.hid hd
        clear hx hst hst2 hr1 hr2 hq1 hq2 hR hcx hh hrel hne hd
        go_wp2_with fail
        refine HST.out.mono ?_
        rintro e w2 ⟨vt, vh, rfl, ht, hh, b2, hf, hft⟩
        have hb2 := hbw.trans (b2.mono hbw.size)
        have hcx2 := (b2.cell (p := ⟨b, off + k, none⟩) (by simp; have := hbw.size; omega)).trans hcx1
        have hd2 := HD.out.below b2 hg
        have hsz2 := b2.size
        have HT := Lib.hid ht
        have HHH := Lib.hid hh
        have HF := Lib.hid hf
        have HFT := Lib.hid hft
        obtain ⟨to', tc, rfl⟩ := ht.len
        obtain ⟨ho', hc', rfl⟩ := hh.len
        clear HST HD b2 hcx1 ht hh hf hft
        go_wp2_with fail
        refine (step_any w1.heap.size _ _ _ x _ hd2 HWF.out x0 x1).mono ?_
        rintro e w3 ⟨v3, rfl, hh3, hd3, hb3⟩
        have hh3' : Held .i32 w3 v3 T := by rw [HTO.out]; exact hh3
        have hd3' : DecAt w3 w1.heap.size (stepSt s x).1 (stepSt s x).2.1 (H2.length : Int) := by rw [(rel_len HREL.out).1]; exact hd3
        have ht3 := HT.out.past hb3 (fresh_ne HFT.out (by omega))
        have hH3 := HHH.out.past hb3 (fresh_ne HF.out (by omega))
        have hTl : T.length ≤ 1000000000 := by rw [HTO.out]; omega
        have hb3' : Below w.heap.size w w3 := hb2.trans (hb3.below hb2.size hb1)
        have hs := same_any _ _ T T _ hh3' ht3 hTl
        rw [sameB_self] at hs
        have HS := Lib.hid hs
        have HH3 := Lib.hid hH3
        have hlt3 := hd3'.lt
        clear hs hh3 hh3' hd3 ht3 hH3 hd2 hb2 hb3 HT HHH hcx2 HTO hTl
        go_wp2_with fail
        refine HS.out.mono ?_
        rintro e w4 ⟨rfl, b4⟩
        have hd4 := hd3'.below b4 hlt3
        have hb4 := hb3'.trans (b4.mono hb3'.size)
        have hH4 := HH3.out.below b4
        have HH4 := Lib.hid hH4
        have HD4 := Lib.hid hd4
        clear hd3' hb3' b4 HS HH3 hH4
        go_wp2_with fail
        refine (held_any w1.heap.size _ _ _ _ hd4).mono ?_
        rintro e w' ⟨rfl, rfl⟩
        go_wp2
        go_roundw
        case rel => exact ⟨k + 1, H2, stepSt s x, by omega, by go_num, HH4.out, HREL.out, fresh_ne HF.out (by omega), by rw [← (rel_len HREL.out).1]; exact HD4.out, hb4⟩
        case measure => simp [intOf] <;> omega
      · obtain ⟨ho, hcp, rfl⟩ := hh.len
        have hln := (rel_len hrel).1
        rw [← hln] at hd
        clear hln
        by_cases h0 : 0 < H.length
        · have d0 : ((H.length : Int) == 0) = false := beq_eq_false_iff_ne.2 (by omega)
          go_wp2_with fail
          refine (flush_some w1.heap.size _ _ _ wr hd (by omega)).mono ?_
          rintro e w2 ⟨v2, rfl, hv2, hd2, hbut⟩
          have hb2 := hbw.trans (hbut.below hbw.size hb1)
          clear hbut
          have hs := same_any _ _ [65533] [65533] _ (hv2.alloc (.cells [Value.int .i32 65533].toArray 21)) (held_new .i32 w2 [.int .i32 65533] 21 1 1 [65533] rfl rfl) (by simp)
          rw [sameB_self] at hs
          have HS := Lib.hid hs
          have hd3 := hd2.alloc (.cells [Value.int .i32 65533].toArray 21)
          have hlt2 := hd2.lt
          clear hs hv2
          go_wp2_with fail
          refine (rflush_some ho H.length hcp _ h0).mono ?_
          rintro e w' ⟨rfl, rfl⟩
          go_wp2_with fail
          refine HS.out.mono ?_
          rintro e w3 ⟨rfl, b3⟩
          have hd4 := hd3.below b3 (by simp; omega)
          have hb3 : Below w.heap.size w w3 := (hb2.alloc hb2.size _).trans (b3.mono (by have := hb2.size; simp; omega))
          clear hd3 b3 hd2 hb2 HS
          go_wp2_with fail
          refine (held_any w1.heap.size 0 0 0 _ hd4).mono ?_
          rintro e w' ⟨rfl, rfl⟩
          go_wp2_with fail
          refine (flush_none w1.heap.size 0 0 _ hd4).mono ?_
          rintro e w' ⟨rfl, rfl⟩
          go_wp2
          go_ret
          exact ⟨(ret_eq (by first | rfl | (simp <;> omega))), hb3⟩
        · have e0 : H = [] := List.length_eq_zero_iff.1 (by omega)
          subst e0
          have hd0 : DecAt wr w1.heap.size s.1 s.2.1 0 := hd
          clear hd
          go_wp2_with fail
          refine (flush_none w1.heap.size _ _ _ hd0).mono ?_
          rintro e w' ⟨rfl, rfl⟩
          have hs := same_any _ _ [] [] wr (Held.nil .i32 wr) (Held.nil .i32 wr) (by simp)
          rw [sameB_self] at hs
          have HS := Lib.hid hs
          clear hs
          go_wp2_with fail
          refine (rflush_none ho hcp _).mono ?_
          rintro e w' ⟨rfl, rfl⟩
          go_wp2_with fail
          refine HS.out.mono ?_
          rintro e w3 ⟨rfl, b3⟩
          have hd4 := hd0.below b3 hg
          have hb3 := hbw.trans (b3.mono hbw.size)
          clear hd0 b3 HS
          go_wp2_with fail
          refine (held_any w1.heap.size _ _ 0 _ hd4).mono ?_
          rintro e w' ⟨rfl, rfl⟩
          go_wp2_with fail
          refine (flush_none w1.heap.size _ _ _ hd4).mono ?_
          rintro e w' ⟨rfl, rfl⟩
          go_wp2
          go_ret
          exact ⟨(ret_eq (by first | rfl | (simp <;> omega))), hb3⟩

set_option maxRecDepth 100000 in
theorem lifted (os : Os) (started : os.Started) (H : Type) (enc : TypeId × Value → H) :
    ReturnsInHanded {} Try.checked os 6 .any (Rows.utfdecStepsSpec.pre6 enc Try.prog Try.f6 Rows.utfdecStepsRow.domain false) (Rows.utfdecStepsSpec.post enc Try.prog Try.f6 false true false false) := by
  refine law_frame_plain (C := Try.checked) (tb := 4) (by kernel_rfl) started (by kernel_rfl) Try.func6 (by kernel_rfl) (by kernel_rfl) Try.underlying4 rfl
    (by rw [Try.params6]; intro t ht; simp at ht; subst ht <;> exact ⟨by kernel_rfl, of_decide_eq_true (by kernel_rfl)⟩)
    (by rw [Try.params6]; intro ds hd; match ds, hd with | [_], _ => rfl)
    (ChangeSpec.witness6 (enc := enc) (C := Try.checked) false ⟨#[], #[.slice none 0 0], []⟩ 8 (by kernel_rfl) (by kernel_rfl) (by kernel_rfl) (by kernel_rfl)) ?_
  intro W base args ds before hval hA
  rw [Try.params6] at hA hval
  obtain ⟨v0, vs0, d0, ds0, p0, q0, hargs, rfl, rfl, h0, r0⟩ := trodAll_cons hA
  obtain ⟨rfl, rfl, rfl⟩ := trodAll_nil r0
  obtain rfl : args = #[v0] := by cases args; simp_all
  obtain ⟨x0, hx0, wx0⟩ := held_arg Try.underlying36 Try.underlying5 (by kernel_rfl) (hval 0 36 v0 rfl rfl) h0
  exact walk W v0 x0 hx0 wx0

theorem proved : Rows.UtfdecStepsSaid :=
  OpenClaim.holds_of_wide 6 Try.f6 rfl rfl rfl rfl rfl rfl rfl ⟨rfl, rfl, rfl, rfl, rfl⟩ rfl rfl rfl rfl rfl (by kernel_rfl) Try.func6 (by kernel_rfl)
    (of_decide_eq_true (by kernel_rfl)) (by unfold Func.isWrapper; first | (rw [if_pos (by decide +kernel)]; kernel_rfl) | (rw [if_neg (by decide +kernel)]; exact ⟨rfl, rfl⟩))
    (fun os started H enc _ => lifted os started H enc)
#print axioms proved

end Go.Proofs.Ythdnglkgjcgffaa.lawUtfdecSteps
