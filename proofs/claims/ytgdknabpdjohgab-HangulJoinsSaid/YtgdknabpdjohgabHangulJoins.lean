/- HangulJoins (8.1, 8.3) answers true at every three numbers, and turns nothing. No conditions. -/
import Derived.Test.YtgdknabpdjohgabHangulC
import Derived.Test.YtgdknabpdjohgabFrame
import Derived.Test.YtgdknabpdjohgabRows
import Derived.ProofKit
namespace Go.Proofs.Ytgdknabpdjohgab.lawHangulJoins
open Go.ChangeShapes Go.WideShapes Go.ChangeAt Go.RowKit
theorem works8_any (w : World) : Calls Try.prog 15 #[] w fun e w' => e = .returned (.bool true) ∧ w = w' := by
  go_enter Try.func15, Try.ntmps15
  go_wp2_with fail
  refine (split_any 44033 _).mono ?_
  rintro e w' ⟨rfl, rfl⟩
  rw [show spL 44033 = 4352 from by decide, show spV 44033 = 4449 from by decide, show spT 44033 = 4520 from by decide]
  go_wp2
  go_ret
  exact ⟨rfl, rfl⟩
/-- Why three parts are refused. -/
def Bad (l v t : Int) : Prop := l < 4352 ∨ (4352 ≤ l ∧ 4370 < l) ∨ (4352 ≤ l ∧ l ≤ 4370 ∧ v < 4449) ∨ (4352 ≤ l ∧ l ≤ 4370 ∧ 4449 ≤ v ∧ 4469 < v) ∨ (4352 ≤ l ∧ l ≤ 4370 ∧ 4449 ≤ v ∧ v ≤ 4469 ∧ t ≠ 0 ∧ t < 4520) ∨ (4352 ≤ l ∧ l ≤ 4370 ∧ 4449 ≤ v ∧ v ≤ 4469 ∧ t ≠ 0 ∧ 4520 ≤ t ∧ 4546 < t)
theorem tcase (t : Int) : t = 0 ∨ t = 4519 ∨ ((t == 0) = false ∧ (t == 4519) = false) := by
  by_cases h : t = 0
  · exact .inl h
  · by_cases h2 : t = 4519
    · exact .inr (.inl h2)
    · exact .inr (.inr ⟨by simpa using h, by simpa using h2⟩)
set_option maxRecDepth 100000 in
set_option maxHeartbeats 4000000 in
theorem walk_bad (l v t : Int) (w : World) (h : Bad l v t) : Calls Try.prog 3 #[.int .i32 l, .int .i32 v, .int .i32 t] w (Yes w) := by
  unfold Bad at h
  rcases tcase t with rfl | rfl | ⟨t1, t2⟩ <;> rcases h with h | ⟨h1, h⟩ | ⟨h1, h2, h⟩ | ⟨h1, h2, h3, h⟩ | ⟨h1, h2, h3, h4, h5, h⟩ | ⟨h1, h2, h3, h4, h5, h6, h⟩
  all_goals try omega
  all_goals
    try (have h7 : t < 4519 := by simp at t2; omega)
    try clear h5
    go_enter Try.func3, Try.ntmps3
    go_wp2_with fail
    refine (works8_any _).mono ?_
    rintro e w' ⟨rfl, rfl⟩
    go_wp2
    go_ret
    exact ⟨(ret_eq (by first | rfl | (simp <;> omega))), Below.refl _ _⟩
theorem parts (l v u : Int) (h1 : 4352 ≤ l) (h2 : l ≤ 4370) (h3 : 4449 ≤ v) (h4 : v ≤ 4469) (u0 : 4519 ≤ u) (u1 : u ≤ 4546) :
    let s := 44032 + (l - 4352) * 588 + (v - 4449) * 28 + u - 4519
    isSyl s = true ∧ spL s = l ∧ spV s = v ∧ spT s = (if u = 4519 then 0 else u) := by
  intro s
  have hy : isSyl s = true := by unfold isSyl; simp; omega
  refine ⟨hy, ?_, ?_, ?_⟩
  · unfold spL; rw [if_pos hy]; omega
  · unfold spV; rw [if_pos hy]; omega
  · unfold spT
    rw [hy]
    by_cases e : u = 4519
    · rw [if_neg (by rintro ⟨-, h⟩; omega), if_pos e]
    · rw [if_pos ⟨rfl, by omega⟩, if_neg e]; omega
set_option maxRecDepth 100000 in
theorem joinh (l v t u : Int) (w : World) (h1 : 4352 ≤ l) (h2 : l ≤ 4370) (h3 : 4449 ≤ v) (h4 : v ≤ 4469) (hu : (t = 0 ∧ u = 4519) ∨ (4520 ≤ t ∧ t ≤ 4546 ∧ u = t)) :
    Calls Try.prog 16 #[.int .i32 l, .int .i32 v, .int .i32 t] w fun e w' => e = .returned (.tuple #[.int .i32 (44032 + (l - 4352) * 588 + (v - 4449) * 28 + u - 4519), .bool true]) ∧ w = w' := by
  rcases hu with ⟨rfl, rfl⟩ | ⟨h5, h6, rfl⟩
  · go_enter Try.func16, Try.ntmps16
    go_wp2
    go_ret2
    exact ⟨by rw [show 44032 + (l - 4352) * 588 + (v - 4449) * 28 + 4519 - 4519 = 44032 + (l - 4352) * 588 + (v - 4449) * 28 from by omega]; rfl, rfl⟩
  · have t1 : (u == 0) = false := by simp; omega
    have t2 : (u == 4519) = false := by simp; omega
    go_enter Try.func16, Try.ntmps16
    go_wp2
    go_ret2
    exact ⟨rfl, rfl⟩
set_option maxRecDepth 100000 in
set_option maxHeartbeats 1000000 in
theorem walk_zero (l v : Int) (w : World) (h1 : 4352 ≤ l) (h2 : l ≤ 4370) (h3 : 4449 ≤ v) (h4 : v ≤ 4469) : Calls Try.prog 3 #[.int .i32 l, .int .i32 v, .int .i32 0] w (Yes w) := by
  have hp := parts l v 4519 h1 h2 h3 h4 (by omega) (by omega)
  obtain ⟨p1, p2, p3, p4⟩ := hp
  rw [if_pos rfl] at p4
  have P1 := Lib.hid p1
  have P2 := Lib.hid p2
  have P3 := Lib.hid p3
  have P4 := Lib.hid p4
  clear p1 p2 p3 p4
  go_enter Try.func3, Try.ntmps3
  go_wp2_with fail
  refine (works8_any _).mono ?_
  rintro e w' ⟨rfl, rfl⟩
  go_wp2_with fail
  refine (joinh l v 0 4519 _ h1 h2 h3 h4 (by omega)).mono ?_
  rintro e w' ⟨rfl, rfl⟩
  generalize 44032 + (l - 4352) * 588 + (v - 4449) * 28 + 4519 - 4519 = s at *
  go_wp2_with fail
  refine (split_any s _).mono ?_
  rintro e w' ⟨rfl, rfl⟩
  rw [P2.out, P3.out, P4.out]
  go_wp2_with fail
  refine (syllable_any s _).mono ?_
  rintro e w' ⟨rfl, rfl⟩
  rw [P1.out]
  go_wp2
  go_ret
  exact ⟨(ret_eq (by first | rfl | (simp <;> omega))), Below.refl _ _⟩
set_option maxRecDepth 100000 in
set_option maxHeartbeats 1000000 in
theorem walk_trail (l v t : Int) (w : World) (h1 : 4352 ≤ l) (h2 : l ≤ 4370) (h3 : 4449 ≤ v) (h4 : v ≤ 4469) (h5 : 4520 ≤ t) (h6 : t ≤ 4546) : Calls Try.prog 3 #[.int .i32 l, .int .i32 v, .int .i32 t] w (Yes w) := by
  have hp := parts l v t h1 h2 h3 h4 (by omega) (by omega)
  obtain ⟨p1, p2, p3, p4⟩ := hp
  rw [if_neg (by omega)] at p4
  have P1 := Lib.hid p1
  have P2 := Lib.hid p2
  have P3 := Lib.hid p3
  have P4 := Lib.hid p4
  clear p1 p2 p3 p4
  have t1 : (t == 0) = false := by simp; omega
  have t2 : (t == 4519) = false := by simp; omega
  go_enter Try.func3, Try.ntmps3
  go_wp2_with fail
  refine (works8_any _).mono ?_
  rintro e w' ⟨rfl, rfl⟩
  go_wp2_with fail
  refine (joinh l v t t _ h1 h2 h3 h4 (by omega)).mono ?_
  rintro e w' ⟨rfl, rfl⟩
  generalize 44032 + (l - 4352) * 588 + (v - 4449) * 28 + t - 4519 = s at *
  go_wp2_with fail
  refine (split_any s _).mono ?_
  rintro e w' ⟨rfl, rfl⟩
  rw [P2.out, P3.out, P4.out]
  go_wp2_with fail
  refine (syllable_any s _).mono ?_
  rintro e w' ⟨rfl, rfl⟩
  rw [P1.out]
  go_wp2
  go_ret
  exact ⟨(ret_eq (by first | rfl | (simp <;> omega))), Below.refl _ _⟩
theorem walk (l : Int) (wl : (Lit.int .i32 l).wf = true) (v : Int) (wv : (Lit.int .i32 v).wf = true) (t : Int) (wt : (Lit.int .i32 t).wf = true) (w : World) : Calls Try.prog 3 #[.int .i32 l, .int .i32 v, .int .i32 t] w (Yes w) := by
  by_cases h : Bad l v t
  · exact walk_bad l v t w h
  · unfold Bad at h
    by_cases h0 : t = 0
    · subst h0
      exact walk_zero l v w (by omega) (by omega) (by omega) (by omega)
    · exact walk_trail l v t w (by omega) (by omega) (by omega) (by omega) (by omega) (by omega)

set_option maxRecDepth 100000 in
theorem lifted (os : Os) (started : os.Started) (H : Type) (enc : TypeId × Value → H) :
    ReturnsInHanded {} Try.checked os 3 .any (Rows.hangulJoinsSpec.pre6 enc Try.prog Try.f3 Rows.hangulJoinsRow.domain false) (Rows.hangulJoinsSpec.post enc Try.prog Try.f3 false true false false) := by
  refine law_frame_plain (C := Try.checked) (tb := 4) (by kernel_rfl) started (by kernel_rfl) Try.func3 (by kernel_rfl) (by kernel_rfl) Try.underlying4 rfl
    (by rw [Try.params3]; intro t ht; simp at ht; subst ht <;> exact ⟨by kernel_rfl, of_decide_eq_true (by kernel_rfl)⟩)
    (by rw [Try.params3]; intro ds hd; match ds, hd with | [_, _, _], _ => rfl)
    (ChangeSpec.witness6 (enc := enc) (C := Try.checked) false ⟨#[], #[.int .i32 0, .int .i32 0, .int .i32 0], []⟩ 8 (by kernel_rfl) (by kernel_rfl) (by kernel_rfl) (by kernel_rfl)) ?_
  intro W base args ds before hval hA
  rw [Try.params3] at hA hval
  obtain ⟨v0, vs0, d0, ds0, p0, q0, hargs, rfl, rfl, h0, r0⟩ := trodAll_cons hA
  obtain ⟨v1, vs1, d1, ds1, p1, q1, rfl, rfl, rfl, h1, r1⟩ := trodAll_cons r0
  obtain ⟨v2, vs2, d2, ds2, p2, q2, rfl, rfl, rfl, h2, r2⟩ := trodAll_cons r1
  obtain ⟨rfl, rfl, rfl⟩ := trodAll_nil r2
  obtain rfl : args = #[v0, v1, v2] := by cases args; simp_all
  obtain ⟨x0, rfl, rfl, rfl, wx0⟩ := open_int Try.underlying21 (hval 0 21 v0 rfl rfl) h0
  obtain ⟨x1, rfl, rfl, rfl, wx1⟩ := open_int Try.underlying21 (hval 1 21 v1 rfl rfl) h1
  obtain ⟨x2, rfl, rfl, rfl, wx2⟩ := open_int Try.underlying21 (hval 2 21 v2 rfl rfl) h2
  exact walk x0 wx0 x1 wx1 x2 wx2 W

theorem proved : Rows.HangulJoinsSaid :=
  OpenClaim.holds_of_wide 3 Try.f3 rfl rfl rfl rfl rfl rfl rfl ⟨rfl, rfl, rfl, rfl, rfl⟩ rfl rfl rfl rfl rfl (by kernel_rfl) Try.func3 (by kernel_rfl)
    (of_decide_eq_true (by kernel_rfl)) (by unfold Func.isWrapper; first | (rw [if_pos (by decide +kernel)]; kernel_rfl) | (rw [if_neg (by decide +kernel)]; exact ⟨rfl, rfl⟩))
    (fun os started H enc _ => lifted os started H enc)
#print axioms proved

end Go.Proofs.Ytgdknabpdjohgab.lawHangulJoins
