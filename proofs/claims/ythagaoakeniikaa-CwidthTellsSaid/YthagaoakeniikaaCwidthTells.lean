/- CwidthTells (19.1) answers true at every row of numbers, and turns nothing. No conditions. -/
import Derived.Test.YthagaoakeniikaaCwidC
import Derived.Test.YthagaoakeniikaaFrame
import Derived.Test.YthagaoakeniikaaRows
import Derived.ProofKit
namespace Go.Proofs.Ythagaoakeniikaa.lawCwidthTells
open Go.ChangeShapes Go.WideShapes Go.ChangeAt Go.RowKit
set_option maxRecDepth 100000 in
theorem walk (w : World) (v : Value) (xs : List Int) (hv : Held .i32 w v xs) (hp : ∀ x ∈ xs, (Lit.int .i32 x).wf = true) : Calls Try.prog 10 #[v] w (Yes w) := by
  have HR := Lib.hid (show ∀ i, i < xs.length → -2147483648 ≤ xs.getD i 0 ∧ xs.getD i 0 ≤ 2147483647 from fun i hi => bounds_i32 (hp _ (by simp [List.getD, List.getElem?_eq_getElem hi])))
  obtain ⟨ao, ca, rfl, _⟩ := hv.view
  have HV := Lib.hid hv
  clear hv hp
  by_cases hl : 1000 < xs.length
  · go_enter Try.func10, Try.ntmps10
    go_wp2_with fail
    refine (works19_any _).mono ?_
    rintro e w1 ⟨rfl, b1⟩
    go_wp2
    go_ret
    exact ⟨(ret_eq (by first | rfl | (simp <;> omega))), b1⟩
  · go_enter Try.func10, Try.ntmps10
    go_wp2_with fail
    refine (cof_any _ xs _ HV.out (by omega)).mono ?_
    rintro e w1 ⟨rfl, b1⟩
    go_wp2_with fail
    refine (rof19_any _ xs _ (HV.out.below b1) (by omega) HR.out).mono ?_
    rintro e w2 ⟨rfl, b2⟩
    have b2 := b1.trans (b2.mono b1.size)
    go_wp2_with fail
    refine (works19_any _).mono ?_
    rintro e w3 ⟨rfl, b3⟩
    have b3 := b2.trans (b3.mono b2.size)
    go_wp2
    go_ret
    exact ⟨(ret_eq (by first | rfl | (simp <;> omega))), b3⟩

set_option maxRecDepth 100000 in
theorem lifted (os : Os) (started : os.Started) (H : Type) (enc : TypeId × Value → H) :
    ReturnsInHanded {} Try.checked os 10 .any (Rows.cwidthTellsSpec.pre6 enc Try.prog Try.f10 Rows.cwidthTellsRow.domain false) (Rows.cwidthTellsSpec.post enc Try.prog Try.f10 false true false false) := by
  refine law_frame_plain (C := Try.checked) (tb := 4) (by kernel_rfl) started (by kernel_rfl) Try.func10 (by kernel_rfl) (by kernel_rfl) Try.underlying4 rfl
    (by rw [Try.params10]; intro t ht; simp at ht; subst ht <;> exact ⟨by kernel_rfl, of_decide_eq_true (by kernel_rfl)⟩)
    (by rw [Try.params10]; intro ds hd; match ds, hd with | [_], _ => rfl)
    (ChangeSpec.witness6 (enc := enc) (C := Try.checked) false ⟨#[], #[.slice none 0 0], []⟩ 8 (by kernel_rfl) (by kernel_rfl) (by kernel_rfl) (by kernel_rfl)) ?_
  intro W base args ds before hval hA
  rw [Try.params10] at hA hval
  obtain ⟨v0, vs0, d0, ds0, p0, q0, hargs, rfl, rfl, h0, r0⟩ := trodAll_cons hA
  obtain ⟨rfl, rfl, rfl⟩ := trodAll_nil r0
  obtain rfl : args = #[v0] := by cases args; simp_all
  obtain ⟨x0, hx0, wx0⟩ := held_arg Try.underlying32 Try.underlying21 (by kernel_rfl) (hval 0 32 v0 rfl rfl) h0
  exact walk W v0 x0 hx0 wx0

theorem proved : Rows.CwidthTellsSaid :=
  OpenClaim.holds_of_wide 10 Try.f10 rfl rfl rfl rfl rfl rfl rfl ⟨rfl, rfl, rfl, rfl, rfl⟩ rfl rfl rfl rfl rfl (by kernel_rfl) Try.func10 (by kernel_rfl)
    (of_decide_eq_true (by kernel_rfl)) (by unfold Func.isWrapper; first | (rw [if_pos (by decide +kernel)]; kernel_rfl) | (rw [if_neg (by decide +kernel)]; exact ⟨rfl, rfl⟩))
    (fun os started H enc _ => lifted os started H enc)
#print axioms proved

end Go.Proofs.Ythagaoakeniikaa.lawCwidthTells
