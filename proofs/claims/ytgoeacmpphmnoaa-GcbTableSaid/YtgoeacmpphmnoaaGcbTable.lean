/- GcbTable (9.1, 9.2) answers true at every number, and turns nothing. No conditions. -/
import Derived.Test.YtgoeacmpphmnoaaPinG
import Derived.Test.YtgoeacmpphmnoaaTabW
import Derived.Test.YtgoeacmpphmnoaaMany
import Derived.Test.YtgoeacmpphmnoaaTabM
import Derived.Test.YtgoeacmpphmnoaaFrame
import Derived.Test.YtgoeacmpphmnoaaRows
import Derived.ProofKit
namespace Go.Proofs.Ytgoeacmpphmnoaa.lawGcbTable
open Go.ChangeShapes Go.WideShapes Go.ChangeAt Go.RowKit
def tHan : List (Int × Int) := [(4352, 4607), (43360, 43388), (44032, 55203), (55216, 55238), (55243, 55291)]
theorem facts (r : Int) : ∃ F, F = fewestS s09 ∧ rightN F F.length = true ∧ fewP F ∧ cntN F F.length = manyI tabs09 ∧ F.length ≤ 1000000 ∧ ((findS F r = 0 ∧ ofI tabs09 1 r (classI r) = classI r) ∨ ∃ c, 1 ≤ c ∧ c ≤ 8 ∧ findS F r = c ∧ ofI tabs09 1 r (classI r) = c ∧ classI r = 0) := by
  obtain ⟨_, f1, f2, _, f3, f4, f5⟩ := fewest_is s09_right
  refine ⟨_, rfl, f1, f2, f4.trans s09_many, Nat.le_trans f5 (by decide +kernel), ?_⟩
  rw [f3 r]
  rcases tab_find (sortS_perm (tabSpans tabs09 1)) s09_right r with ⟨h1, h2, _⟩ | ⟨k, hk, h1, h2, h3⟩
  · exact .inl ⟨h1, h2 _⟩
  · have hk8 : k < 8 := hk
    have hap : ∀ k, k < 8 → apart (tabs09.getD k []) tHan = true := by decide +kernel
    refine .inr ⟨1 + k, by omega, by omega, h2, h3 _, not_hangul (apart_not (hap k hk8) h1)⟩
set_option maxRecDepth 100000 in
set_option maxHeartbeats 2000000 in
theorem walk (r : Int) (wr : (Lit.int .i32 r).wf = true) (w : World) : Calls Try.prog 10 #[.int .i32 r] w (Yes w) := by
  obtain ⟨r0, r1⟩ := bounds_i32 wr
  clear wr
  obtain ⟨F, hF, f1, f2, f3, f4, f5⟩ := facts r
  have HF := Lib.hid hF
  have HR := Lib.hid f1
  have HP := Lib.hid f2
  have HC := Lib.hid f3
  clear hF f1 f2 f3
  go_enter Try.func10, Try.ntmps10
  go_wp2_with fail
  refine (works9_any _).mono ?_
  rintro e w0 ⟨rfl, b0⟩
  go_wp2_with fail
  refine (gspans_any _).mono ?_
  rintro e w1 ⟨v1, rfl, h1, b1⟩
  have hb1 := b0.trans (b1.mono b0.size)
  rw [← HF.out] at h1
  obtain ⟨so, sc, rfl⟩ := id h1.len
  have H1 := Lib.hid h1
  have HRA := Lib.hid (HR.out ▸ refright_any _ F w1 h1 f4)
  clear h1 b0 b1
  go_wp2_with fail
  refine HRA.out.mono ?_
  rintro e w3 ⟨rfl, hx3⟩
  have hb3 := hb1.trans (hx3.mono hb1.size)
  clear hb1
  go_wp2_with fail
  refine (few_any _ F _ (H1.out.below hx3) f4 HR.out HP.out).mono ?_
  rintro e w4 ⟨rfl, b4⟩
  have hx4 := hx3.trans (b4.mono hx3.size)
  have hb4 := hb3.trans (b4.mono hb3.size)
  clear b4 hx3 hb3
  go_wp2_with fail
  refine (count_any _ F _ (H1.out.below hx4) f4).mono ?_
  rintro e w5 ⟨rfl, b5⟩
  have hx5 := hx4.trans (b5.mono hx4.size)
  have hb5 := hb4.trans (b5.mono hb4.size)
  rw [HR.out, if_pos rfl, HC.out]
  clear b5 hx4 hb4
  go_wp2_with fail
  refine (many09_any _).mono ?_
  rintro e w6 ⟨rfl, b6⟩
  have hx6 := hx5.trans (b6.mono hx5.size)
  have hb6 := hb5.trans (b6.mono hb5.size)
  clear b6 hx5 hb5
  generalize manyI tabs09 = M
  have HFI := Lib.hid (reffind_any _ F r _ (H1.out.below hx6) f4)
  go_wp2_with fail
  refine HFI.out.mono ?_
  rintro e w7 ⟨rfl, b7⟩
  have hb7 := hb6.trans (b7.mono hb6.size)
  clear b7 hb6
  rcases f5 with ⟨e1, e2⟩ | ⟨c, c1, c8, e1, e2, e3⟩
  · have E2 := Lib.hid e2
    rw [e1]
    clear e1 e2
    go_wp2_with fail
    refine (rof09_any r _ r0 r1).mono ?_
    rintro e w8 ⟨rfl, b8⟩
    have hb8 := hb7.trans (b8.mono hb7.size)
    rw [E2.out]
    go_wp2_with fail
    refine (class_any r _).mono ?_
    rintro e w' ⟨rfl, rfl⟩
    generalize classI r = c
    go_wp2
    go_ret
    exact ⟨(ret_eq (by first | rfl | (simp <;> omega))), hb8⟩
  · have E2 := Lib.hid e2
    have E3 := Lib.hid e3
    rw [e1]
    have d1 : (c == 0) = false := beq_eq_false_iff_ne.2 (by omega)
    have d2 : decide (0 < c) = true := decide_eq_true (by omega)
    have d3 : decide (c ≤ 8) = true := decide_eq_true c8
    clear e1 e2 e3
    go_wp2_with fail
    refine (rof09_any r _ r0 r1).mono ?_
    rintro e w8 ⟨rfl, b8⟩
    have hb8 := hb7.trans (b8.mono hb7.size)
    rw [E2.out]
    go_wp2_with fail
    refine (class_any r _).mono ?_
    rintro e w' ⟨rfl, rfl⟩
    rw [E3.out]
    go_wp2
    go_ret
    exact ⟨(ret_eq (by first | rfl | (simp <;> omega))), hb8⟩

set_option maxRecDepth 100000 in
theorem lifted (os : Os) (started : os.Started) (H : Type) (enc : TypeId × Value → H) :
    ReturnsInHanded {} Try.checked os 10 .any (Rows.gcbTableSpec.pre6 enc Try.prog Try.f10 Rows.gcbTableRow.domain false) (Rows.gcbTableSpec.post enc Try.prog Try.f10 false true false false) := by
  refine law_frame_plain (C := Try.checked) (tb := 4) (by kernel_rfl) started (by kernel_rfl) Try.func10 (by kernel_rfl) (by kernel_rfl) Try.underlying4 rfl
    (by rw [Try.params10]; intro t ht; simp at ht; subst ht <;> exact ⟨by kernel_rfl, of_decide_eq_true (by kernel_rfl)⟩)
    (by rw [Try.params10]; intro ds hd; match ds, hd with | [_], _ => rfl)
    (ChangeSpec.witness6 (enc := enc) (C := Try.checked) false ⟨#[], #[.int .i32 0], []⟩ 8 (by kernel_rfl) (by kernel_rfl) (by kernel_rfl) (by kernel_rfl)) ?_
  intro W base args ds before hval hA
  rw [Try.params10] at hA hval
  obtain ⟨v0, vs0, d0, ds0, p0, q0, hargs, rfl, rfl, h0, r0⟩ := trodAll_cons hA
  obtain ⟨rfl, rfl, rfl⟩ := trodAll_nil r0
  obtain rfl : args = #[v0] := by cases args; simp_all
  obtain ⟨x0, rfl, rfl, rfl, wx0⟩ := open_int Try.underlying21 (hval 0 21 v0 rfl rfl) h0
  exact walk x0 wx0 W

theorem proved : Rows.GcbTableSaid :=
  OpenClaim.holds_of_wide 10 Try.f10 rfl rfl rfl rfl rfl rfl rfl ⟨rfl, rfl, rfl, rfl, rfl⟩ rfl rfl rfl rfl rfl (by kernel_rfl) Try.func10 (by kernel_rfl)
    (of_decide_eq_true (by kernel_rfl)) (by unfold Func.isWrapper; first | (rw [if_pos (by decide +kernel)]; kernel_rfl) | (rw [if_neg (by decide +kernel)]; exact ⟨rfl, rfl⟩))
    (fun os started H enc _ => lifted os started H enc)
#print axioms proved

end Go.Proofs.Ytgoeacmpphmnoaa.lawGcbTable
