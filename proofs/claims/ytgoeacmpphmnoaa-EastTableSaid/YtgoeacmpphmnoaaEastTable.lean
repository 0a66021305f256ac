/- EastTable (12.1) answers true at every number, and turns nothing. No conditions. -/
import Derived.Test.YtgoeacmpphmnoaaPinV
import Derived.Test.YtgoeacmpphmnoaaTabW
import Derived.Test.YtgoeacmpphmnoaaMany
import Derived.Test.YtgoeacmpphmnoaaFrame
import Derived.Test.YtgoeacmpphmnoaaRows
import Derived.ProofKit
namespace Go.Proofs.Ytgoeacmpphmnoaa.lawEastTable
open Go.ChangeShapes Go.WideShapes Go.ChangeAt Go.RowKit
theorem facts (r : Int) : ∃ F, F = fewestS s12 ∧ rightN F F.length = true ∧ fewP F ∧ cntN F F.length = manyI tabs12 ∧ F.length ≤ 1000000 ∧ findS F r = ofI tabs12 1 r 0 := by
  obtain ⟨_, f1, f2, _, f3, f4, f5⟩ := fewest_is s12_right
  refine ⟨_, rfl, f1, f2, f4.trans s12_many, Nat.le_trans f5 (by decide +kernel), ?_⟩
  rw [f3 r]
  rcases tab_find (sortS_perm (tabSpans tabs12 1)) s12_right r with ⟨h1, h2, _⟩ | ⟨k, hk, h1, h2, h3⟩
  · exact h1.trans (h2 0).symm
  · exact h2.trans (h3 0).symm
set_option maxRecDepth 100000 in
set_option maxHeartbeats 1000000 in
theorem walk (r : Int) (wr : (Lit.int .i32 r).wf = true) (w : World) : Calls Try.prog 9 #[.int .i32 r] w (Yes w) := by
  obtain ⟨r0, r1⟩ := bounds_i32 wr
  clear wr
  obtain ⟨F, hF, f1, f2, f3, f4, f5⟩ := facts r
  have HF := Lib.hid hF
  have HR := Lib.hid f1
  have HP := Lib.hid f2
  have HC := Lib.hid f3
  have HE := Lib.hid f5
  clear hF f1 f2 f3 f5
  go_enter Try.func9, Try.ntmps9
  go_wp2_with fail
  refine (espans_any _).mono ?_
  rintro e w1 ⟨v1, rfl, h1, b1⟩
  rw [← HF.out] at h1
  obtain ⟨so, sc, rfl⟩ := id h1.len
  have H1 := Lib.hid h1
  clear h1
  go_wp2_with fail
  refine (works12_any _).mono ?_
  rintro e w2 ⟨rfl, b2⟩
  have hx2 := b2
  have hb2 := b1.trans (b2.mono b1.size)
  have HRA := Lib.hid (HR.out ▸ refright_any _ F w2 (H1.out.below hx2) f4)
  clear b2
  go_wp2_with fail
  refine HRA.out.mono ?_
  rintro e w3 ⟨rfl, b3⟩
  have hx3 := hx2.trans (b3.mono hx2.size)
  have hb3 := hb2.trans (b3.mono hb2.size)
  clear b3 hx2 hb2
  go_wp2_with fail
  refine (few_any _ F _ (H1.out.below hx3) f4 HR.out HP.out).mono ?_
  rintro e w4 ⟨rfl, b4⟩
  have hx4 := hx3.trans (b4.mono hx3.size)
  have hb4 := hb3.trans (b4.mono hb3.size)
  clear b4 hx3 hb3
  go_wp2_with fail
  refine (count_any _ F _ (H1.out.below hx4) f4).mono ?_
  rintro e w5 ⟨rfl, b5⟩
  have hx5 := hx4.trans (b5.mono hx4.size)
  have hb5 := hb4.trans (b5.mono hb4.size)
  rw [HR.out, if_pos rfl, HC.out]
  clear b5 hx4 hb4
  go_wp2_with fail
  refine (many12_any _).mono ?_
  rintro e w6 ⟨rfl, b6⟩
  have hx6 := hx5.trans (b6.mono hx5.size)
  have hb6 := hb5.trans (b6.mono hb5.size)
  clear b6 hx5 hb5
  generalize manyI tabs12 = M
  have HFI := Lib.hid (reffind_any _ F r _ (H1.out.below hx6) f4)
  go_wp2_with fail
  refine HFI.out.mono ?_
  rintro e w7 ⟨rfl, b7⟩
  have hb7 := hb6.trans (b7.mono hb6.size)
  rw [HE.out]
  clear b7
  go_wp2_with fail
  refine (rof12_any r _ r0 r1).mono ?_
  rintro e w8 ⟨rfl, b8⟩
  have hb8 := hb7.trans (b8.mono hb7.size)
  generalize ofI tabs12 1 r 0 = c
  go_wp2
  go_ret
  exact ⟨(ret_eq (by first | rfl | (simp <;> omega))), hb8⟩

set_option maxRecDepth 100000 in
theorem lifted (os : Os) (started : os.Started) (H : Type) (enc : TypeId × Value → H) :
    ReturnsInHanded {} Try.checked os 9 .any (Rows.eastTableSpec.pre6 enc Try.prog Try.f9 Rows.eastTableRow.domain false) (Rows.eastTableSpec.post enc Try.prog Try.f9 false true false false) := by
  refine law_frame_plain (C := Try.checked) (tb := 4) (by kernel_rfl) started (by kernel_rfl) Try.func9 (by kernel_rfl) (by kernel_rfl) Try.underlying4 rfl
    (by rw [Try.params9]; intro t ht; simp at ht; subst ht <;> exact ⟨by kernel_rfl, of_decide_eq_true (by kernel_rfl)⟩)
    (by rw [Try.params9]; intro ds hd; match ds, hd with | [_], _ => rfl)
    (ChangeSpec.witness6 (enc := enc) (C := Try.checked) false ⟨#[], #[.int .i32 0], []⟩ 8 (by kernel_rfl) (by kernel_rfl) (by kernel_rfl) (by kernel_rfl)) ?_
  intro W base args ds before hval hA
  rw [Try.params9] at hA hval
  obtain ⟨v0, vs0, d0, ds0, p0, q0, hargs, rfl, rfl, h0, r0⟩ := trodAll_cons hA
  obtain ⟨rfl, rfl, rfl⟩ := trodAll_nil r0
  obtain rfl : args = #[v0] := by cases args; simp_all
  obtain ⟨x0, rfl, rfl, rfl, wx0⟩ := open_int Try.underlying21 (hval 0 21 v0 rfl rfl) h0
  exact walk x0 wx0 W

theorem proved : Rows.EastTableSaid :=
  OpenClaim.holds_of_wide 9 Try.f9 rfl rfl rfl rfl rfl rfl rfl ⟨rfl, rfl, rfl, rfl, rfl⟩ rfl rfl rfl rfl rfl (by kernel_rfl) Try.func9 (by kernel_rfl)
    (of_decide_eq_true (by kernel_rfl)) (by unfold Func.isWrapper; first | (rw [if_pos (by decide +kernel)]; kernel_rfl) | (rw [if_neg (by decide +kernel)]; exact ⟨rfl, rfl⟩))
    (fun os started H enc _ => lifted os started H enc)
#print axioms proved

end Go.Proofs.Ytgoeacmpphmnoaa.lawEastTable
