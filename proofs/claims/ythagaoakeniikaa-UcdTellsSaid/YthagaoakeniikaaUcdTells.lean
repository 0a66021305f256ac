/- UcdTells (13.1) answers true at every number, and turns nothing. No conditions. -/
import Derived.Test.YthagaoakeniikaaUcdD
import Derived.Test.YthagaoakeniikaaFrame
import Derived.Test.YthagaoakeniikaaRows
import Derived.ProofKit
namespace Go.Proofs.Ythagaoakeniikaa.lawUcdTells
open Go.ChangeShapes Go.WideShapes Go.ChangeAt Go.RowKit
set_option maxRecDepth 100000 in
theorem walk (r : Int) (wr : (Lit.int .i32 r).wf = true) (w : World) : Calls Try.prog 7 #[.int .i32 r] w (Yes w) := by
  obtain ⟨r0, r1⟩ := bounds_i32 wr
  clear wr
  have q1 := prop_eql
  have q2 := propEq_self
  have hk : knownV r = .agg #[.int .i64 (gcbI r), .bool (inTab tPict r), .int .i64 (conjO r), .int .i64 (eastI r)] := rfl
  go_enter Try.func7, Try.ntmps7
  go_wp2_with fail
  refine (ucdof_any r _).mono ?_
  rintro e w1 ⟨rfl, b1⟩
  go_wp2_with fail
  refine (rucdof_any r _ r0 r1).mono ?_
  rintro e w2 ⟨rfl, b2⟩
  have b2 := b1.trans (b2.mono b1.size)
  rw [hk]
  clear hk
  go_wp2_with fail
  refine (works13_any _).mono ?_
  rintro e w3 ⟨rfl, b3⟩
  have b3 := b2.trans (b3.mono b2.size)
  go_wp2
  go_ret
  exact ⟨(ret_eq (by first | rfl | (simp <;> omega))), b3⟩

set_option maxRecDepth 100000 in
theorem lifted (os : Os) (started : os.Started) (H : Type) (enc : TypeId × Value → H) :
    ReturnsInHanded {} Try.checked os 7 .any (Rows.ucdTellsSpec.pre6 enc Try.prog Try.f7 Rows.ucdTellsRow.domain false) (Rows.ucdTellsSpec.post enc Try.prog Try.f7 false true false false) := by
  refine law_frame_plain (C := Try.checked) (tb := 4) (by kernel_rfl) started (by kernel_rfl) Try.func7 (by kernel_rfl) (by kernel_rfl) Try.underlying4 rfl
    (by rw [Try.params7]; intro t ht; simp at ht; subst ht <;> exact ⟨by kernel_rfl, of_decide_eq_true (by kernel_rfl)⟩)
    (by rw [Try.params7]; intro ds hd; match ds, hd with | [_], _ => rfl)
    (ChangeSpec.witness6 (enc := enc) (C := Try.checked) false ⟨#[], #[.int .i32 0], []⟩ 8 (by kernel_rfl) (by kernel_rfl) (by kernel_rfl) (by kernel_rfl)) ?_
  intro W base args ds before hval hA
  rw [Try.params7] at hA hval
  obtain ⟨v0, vs0, d0, ds0, p0, q0, hargs, rfl, rfl, h0, r0⟩ := trodAll_cons hA
  obtain ⟨rfl, rfl, rfl⟩ := trodAll_nil r0
  obtain rfl : args = #[v0] := by cases args; simp_all
  obtain ⟨x0, rfl, rfl, rfl, wx0⟩ := open_int Try.underlying21 (hval 0 21 v0 rfl rfl) h0
  exact walk x0 wx0 W

theorem proved : Rows.UcdTellsSaid :=
  OpenClaim.holds_of_wide 7 Try.f7 rfl rfl rfl rfl rfl rfl rfl ⟨rfl, rfl, rfl, rfl, rfl⟩ rfl rfl rfl rfl rfl (by kernel_rfl) Try.func7 (by kernel_rfl)
    (of_decide_eq_true (by kernel_rfl)) (by unfold Func.isWrapper; first | (rw [if_pos (by decide +kernel)]; kernel_rfl) | (rw [if_neg (by decide +kernel)]; exact ⟨rfl, rfl⟩))
    (fun os started H enc _ => lifted os started H enc)
#print axioms proved

end Go.Proofs.Ythagaoakeniikaa.lawUcdTells
