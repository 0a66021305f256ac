/- BoundTells (48.1, 48.2) answers true at every three numbers, and turns nothing. No conditions. -/
import Derived.Test.YtgdknabpdjohgabBoundC
import Derived.Test.YtgdknabpdjohgabFrame
import Derived.Test.YtgdknabpdjohgabRows
import Derived.ProofKit
namespace Go.Proofs.Ytgdknabpdjohgab.lawBoundTells
open Go.ChangeShapes Go.WideShapes Go.ChangeAt Go.RowKit
theorem rows_facts (k y r : Int) (hk : 0 ≤ k) (hk2 : k ≤ 1073741824) (hy : 2 ≤ y) (hy2 : y ≤ 1024) (hr : r = (2 * k + y - 2) / (y - 1)) : 0 ≤ r ∧ r ≤ 2147484670 ∧ 2 * k ≤ r * (y - 1) ∧ (r - 1) * (y - 1) < 2 * k ∧ -9223372036854775808 ≤ (r - 1) * (y - 1) ∧ r * (y - 1) ≤ 9223372036854775807 := by
  have hd := Int.mul_ediv_add_emod (2 * k + y - 2) (y - 1)
  have hm0 := Int.emod_nonneg (2 * k + y - 2) (show y - 1 ≠ 0 by omega)
  have hm1 := Int.emod_lt_of_pos (2 * k + y - 2) (show 0 < y - 1 by omega)
  rw [← hr] at hd
  have e1 : r * (y - 1) = (y - 1) * r := Int.mul_comm _ _
  have e2 : (r - 1) * (y - 1) = (y - 1) * r - (y - 1) := by rw [Int.sub_mul, Int.one_mul, Int.mul_comm]
  rw [e1, e2]
  have h0 : 0 ≤ r := by rw [hr]; exact Int.ediv_nonneg (by omega) (by omega)
  have h1 : r ≤ 2147484670 := by
    rw [hr]
    exact Int.ediv_le_of_le_mul (by omega) (by have := Int.mul_le_mul_of_nonneg_left (show (1 : Int) ≤ y - 1 by omega) (show (0 : Int) ≤ 2147484670 by omega); omega)
  omega
theorem rowsI_eq (n a : Int) : rowsI n a = if heldI n = 0 then 1 else if sideI a = 1 then heldI n else (2 * heldI n + sideI a - 2) / (sideI a - 1) := rfl
set_option maxRecDepth 100000 in
set_option maxHeartbeats 4000000 in
/-- One way: all that is told of the numbers laid ahead. -/
theorem way1 (n a b x y r : Int) (w : World) (n1 : n < 0) (ek : heldI n = 0) (ex : sideI a = x) (ey : sideI b = y) (er : rowsI n a = r) (kx : 1 ≤ x ∧ x ≤ 1024) (ky : 1 ≤ y ∧ y ≤ 1024)
    (hr : ((0 : Int) = 0 ∧ r = 1) ∨ ((0 : Int) < 0 ∧ x = 1 ∧ r = 0) ∨ ((0 : Int) < 0 ∧ 2 ≤ x ∧ 0 ≤ r ∧ r ≤ 2147484670 ∧ 2 * (0 : Int) ≤ r * (x - 1) ∧ (r - 1) * (x - 1) < 2 * (0 : Int) ∧ -9223372036854775808 ≤ (r - 1) * (x - 1) ∧ r * (x - 1) ≤ 9223372036854775807)) :
    Calls Try.prog 14 #[.int .i64 n, .int .i64 a, .int .i64 b] w (Yes w) := by
  have km := mul_bd x y 1024 1024 (by omega) (by omega) (by omega) (by omega)
  have q1 : (x * y * 16 != wrap64 (16 * x * y)) = false := by
    have e : 16 * x * y = x * y * 16 := by rw [Int.mul_assoc, Int.mul_comm]
    rw [e, wrap_id _ (by omega) (by omega)]
    simp
  have Q1 := Lib.hid q1
  have EK := Lib.hid ek
  have EX := Lib.hid ex
  have EY := Lib.hid ey
  have ER := Lib.hid er
  clear q1 ek ex ey er km
  rcases hr with ⟨r1, rfl⟩ | ⟨r1, rfl, r2⟩ | ⟨r1, r2, r3, r4, r5, r6, r7, r8⟩
  all_goals try omega
  all_goals
    try (have R2 := Lib.hid r2; clear r2; rw [R2.out] at ER)
    try have t1 : ((0 : Int) == 0) = false := by simp; omega
    try have t2 : (x == 1) = false := by simp; omega
    try subst r1
    go_enter Try.func14, Try.ntmps14
    go_wp2_with fail
    refine (works48_any _).mono ?_
    rintro e w' ⟨rfl, rfl⟩
    go_wp2_with fail
    refine (most_any a b _).mono ?_
    rintro e w' ⟨rfl, rfl⟩
    rw [EX.out, EY.out]
    go_wp2_with fail
    refine (refside_any a _).mono ?_
    rintro e w' ⟨rfl, rfl⟩
    rw [EX.out]
    go_wp2_with fail
    refine (refside_any b _).mono ?_
    rintro e w' ⟨rfl, rfl⟩
    rw [EY.out]
    have q := Q1.out
    go_wp2_with fail
    refine (rows_any48 _ a _).mono ?_
    rintro e w' ⟨rfl, rfl⟩
    rw [ER.out]
    go_wp2_with fail
    refine (refside_any a _).mono ?_
    rintro e w' ⟨rfl, rfl⟩
    rw [EX.out]
    go_wp2_with fail
    refine (columns_any _ _).mono ?_
    rintro e w' ⟨rfl, rfl⟩
    rw [EK.out]
    go_wp2
    all_goals go_ret
    all_goals exact ⟨ret_eq (by first | (simp; done) | (simp <;> omega) | rfl), Below.refl _ _⟩
set_option maxRecDepth 100000 in
set_option maxHeartbeats 4000000 in
/-- One way: all that is told of the numbers laid ahead. -/
theorem way2 (n a b x y r : Int) (w : World) (n1 : 0 ≤ n) (n2 : n ≤ 1073741824) (ek : heldI n = n) (ex : sideI a = x) (ey : sideI b = y) (er : rowsI n a = r) (kx : 1 ≤ x ∧ x ≤ 1024) (ky : 1 ≤ y ∧ y ≤ 1024)
    (hr : (n = 0 ∧ r = 1) ∨ (0 < n ∧ x = 1 ∧ r = n) ∨ (0 < n ∧ 2 ≤ x ∧ 0 ≤ r ∧ r ≤ 2147484670 ∧ 2 * n ≤ r * (x - 1) ∧ (r - 1) * (x - 1) < 2 * n ∧ -9223372036854775808 ≤ (r - 1) * (x - 1) ∧ r * (x - 1) ≤ 9223372036854775807)) :
    Calls Try.prog 14 #[.int .i64 n, .int .i64 a, .int .i64 b] w (Yes w) := by
  have km := mul_bd x y 1024 1024 (by omega) (by omega) (by omega) (by omega)
  have q1 : (x * y * 16 != wrap64 (16 * x * y)) = false := by
    have e : 16 * x * y = x * y * 16 := by rw [Int.mul_assoc, Int.mul_comm]
    rw [e, wrap_id _ (by omega) (by omega)]
    simp
  have Q1 := Lib.hid q1
  have EK := Lib.hid ek
  have EX := Lib.hid ex
  have EY := Lib.hid ey
  have ER := Lib.hid er
  clear q1 ek ex ey er km
  rcases hr with ⟨r1, rfl⟩ | ⟨r1, rfl, r2⟩ | ⟨r1, r2, r3, r4, r5, r6, r7, r8⟩
  all_goals try omega
  all_goals
    try (have R2 := Lib.hid r2; clear r2; rw [R2.out] at ER)
    try have t1 : (n == 0) = false := by simp; omega
    try have t2 : (x == 1) = false := by simp; omega
    try subst r1
    go_enter Try.func14, Try.ntmps14
    go_wp2_with fail
    refine (works48_any _).mono ?_
    rintro e w' ⟨rfl, rfl⟩
    go_wp2_with fail
    refine (most_any a b _).mono ?_
    rintro e w' ⟨rfl, rfl⟩
    rw [EX.out, EY.out]
    go_wp2_with fail
    refine (refside_any a _).mono ?_
    rintro e w' ⟨rfl, rfl⟩
    rw [EX.out]
    go_wp2_with fail
    refine (refside_any b _).mono ?_
    rintro e w' ⟨rfl, rfl⟩
    rw [EY.out]
    have q := Q1.out
    go_wp2_with fail
    refine (rows_any48 _ a _).mono ?_
    rintro e w' ⟨rfl, rfl⟩
    rw [ER.out]
    go_wp2_with fail
    refine (refside_any a _).mono ?_
    rintro e w' ⟨rfl, rfl⟩
    rw [EX.out]
    go_wp2_with fail
    refine (columns_any _ _).mono ?_
    rintro e w' ⟨rfl, rfl⟩
    rw [EK.out]
    go_wp2
    all_goals go_ret
    all_goals exact ⟨ret_eq (by first | (simp; done) | (simp <;> omega) | rfl), Below.refl _ _⟩
set_option maxRecDepth 100000 in
set_option maxHeartbeats 4000000 in
/-- One way: all that is told of the numbers laid ahead. -/
theorem way3 (n a b x y r : Int) (w : World) (n1 : 1073741824 < n) (ek : heldI n = 1073741824) (ex : sideI a = x) (ey : sideI b = y) (er : rowsI n a = r) (kx : 1 ≤ x ∧ x ≤ 1024) (ky : 1 ≤ y ∧ y ≤ 1024)
    (hr : ((1073741824 : Int) = 0 ∧ r = 1) ∨ ((0 : Int) < 1073741824 ∧ x = 1 ∧ r = 1073741824) ∨ ((0 : Int) < 1073741824 ∧ 2 ≤ x ∧ 0 ≤ r ∧ r ≤ 2147484670 ∧ 2 * 1073741824 ≤ r * (x - 1) ∧ (r - 1) * (x - 1) < 2 * 1073741824 ∧ -9223372036854775808 ≤ (r - 1) * (x - 1) ∧ r * (x - 1) ≤ 9223372036854775807)) :
    Calls Try.prog 14 #[.int .i64 n, .int .i64 a, .int .i64 b] w (Yes w) := by
  have km := mul_bd x y 1024 1024 (by omega) (by omega) (by omega) (by omega)
  have q1 : (x * y * 16 != wrap64 (16 * x * y)) = false := by
    have e : 16 * x * y = x * y * 16 := by rw [Int.mul_assoc, Int.mul_comm]
    rw [e, wrap_id _ (by omega) (by omega)]
    simp
  have Q1 := Lib.hid q1
  have EK := Lib.hid ek
  have EX := Lib.hid ex
  have EY := Lib.hid ey
  have ER := Lib.hid er
  clear q1 ek ex ey er km
  rcases hr with ⟨r1, rfl⟩ | ⟨r1, rfl, r2⟩ | ⟨r1, r2, r3, r4, r5, r6, r7, r8⟩
  all_goals try omega
  all_goals
    try (have R2 := Lib.hid r2; clear r2; rw [R2.out] at ER)
    try have t1 : ((1073741824 : Int) == 0) = false := by simp; omega
    try have t2 : (x == 1) = false := by simp; omega
    try subst r1
    go_enter Try.func14, Try.ntmps14
    go_wp2_with fail
    refine (works48_any _).mono ?_
    rintro e w' ⟨rfl, rfl⟩
    go_wp2_with fail
    refine (most_any a b _).mono ?_
    rintro e w' ⟨rfl, rfl⟩
    rw [EX.out, EY.out]
    go_wp2_with fail
    refine (refside_any a _).mono ?_
    rintro e w' ⟨rfl, rfl⟩
    rw [EX.out]
    go_wp2_with fail
    refine (refside_any b _).mono ?_
    rintro e w' ⟨rfl, rfl⟩
    rw [EY.out]
    have q := Q1.out
    go_wp2_with fail
    refine (rows_any48 _ a _).mono ?_
    rintro e w' ⟨rfl, rfl⟩
    rw [ER.out]
    go_wp2_with fail
    refine (refside_any a _).mono ?_
    rintro e w' ⟨rfl, rfl⟩
    rw [EX.out]
    go_wp2_with fail
    refine (columns_any _ _).mono ?_
    rintro e w' ⟨rfl, rfl⟩
    rw [EK.out]
    go_wp2
    all_goals go_ret
    all_goals exact ⟨ret_eq (by first | (simp; done) | (simp <;> omega) | rfl), Below.refl _ _⟩
theorem walk (n : Int) (wn : (Lit.int .i64 n).wf = true) (a : Int) (wa : (Lit.int .i64 a).wf = true) (b : Int) (wb : (Lit.int .i64 b).wf = true) (w : World) : Calls Try.prog 14 #[.int .i64 n, .int .i64 a, .int .i64 b] w (Yes w) := by
  have ka := sideI_bd a
  have kn := heldI_bd n
  have hr : (heldI n = 0 ∧ rowsI n a = 1) ∨ (0 < heldI n ∧ sideI a = 1 ∧ rowsI n a = heldI n) ∨ (0 < heldI n ∧ 2 ≤ sideI a ∧ 0 ≤ rowsI n a ∧ rowsI n a ≤ 2147484670 ∧ 2 * heldI n ≤ rowsI n a * (sideI a - 1) ∧ (rowsI n a - 1) * (sideI a - 1) < 2 * heldI n ∧ -9223372036854775808 ≤ (rowsI n a - 1) * (sideI a - 1) ∧ rowsI n a * (sideI a - 1) ≤ 9223372036854775807) := by
    rw [rowsI_eq]
    by_cases h : heldI n = 0
    · rw [if_pos h]; exact .inl ⟨h, rfl⟩
    · rw [if_neg h]
      by_cases h1 : sideI a = 1
      · rw [if_pos h1]; exact .inr (.inl ⟨by omega, h1, rfl⟩)
      · rw [if_neg h1]
        obtain ⟨f1, f2, f3, f4, f5, f6⟩ := rows_facts (heldI n) (sideI a) _ kn.1 kn.2 (by omega) ka.2 rfl
        exact .inr (.inr ⟨by omega, by omega, f1, f2, f3, f4, f5, f6⟩)
  rcases heldI_cases n with ⟨n1, e⟩ | ⟨n1, n2, e⟩ | ⟨n1, e⟩
  · rw [e] at hr; exact way1 n a b _ _ _ w n1 e rfl rfl rfl (sideI_bd a) (sideI_bd b) hr
  · rw [e] at hr; exact way2 n a b _ _ _ w n1 n2 e rfl rfl rfl (sideI_bd a) (sideI_bd b) hr
  · rw [e] at hr; exact way3 n a b _ _ _ w n1 e rfl rfl rfl (sideI_bd a) (sideI_bd b) hr

set_option maxRecDepth 100000 in
theorem lifted (os : Os) (started : os.Started) (H : Type) (enc : TypeId × Value → H) :
    ReturnsInHanded {} Try.checked os 14 .any (Rows.boundTellsSpec.pre6 enc Try.prog Try.f14 Rows.boundTellsRow.domain false) (Rows.boundTellsSpec.post enc Try.prog Try.f14 false true false false) := by
  refine law_frame_plain (C := Try.checked) (tb := 4) (by kernel_rfl) started (by kernel_rfl) Try.func14 (by kernel_rfl) (by kernel_rfl) Try.underlying4 rfl
    (by rw [Try.params14]; intro t ht; simp at ht; subst ht <;> exact ⟨by kernel_rfl, of_decide_eq_true (by kernel_rfl)⟩)
    (by rw [Try.params14]; intro ds hd; match ds, hd with | [_, _, _], _ => rfl)
    (ChangeSpec.witness6 (enc := enc) (C := Try.checked) false ⟨#[], #[.int .i64 0, .int .i64 0, .int .i64 0], []⟩ 8 (by kernel_rfl) (by kernel_rfl) (by kernel_rfl) (by kernel_rfl)) ?_
  intro W base args ds before hval hA
  rw [Try.params14] at hA hval
  obtain ⟨v0, vs0, d0, ds0, p0, q0, hargs, rfl, rfl, h0, r0⟩ := trodAll_cons hA
  obtain ⟨v1, vs1, d1, ds1, p1, q1, rfl, rfl, rfl, h1, r1⟩ := trodAll_cons r0
  obtain ⟨v2, vs2, d2, ds2, p2, q2, rfl, rfl, rfl, h2, r2⟩ := trodAll_cons r1
  obtain ⟨rfl, rfl, rfl⟩ := trodAll_nil r2
  obtain rfl : args = #[v0, v1, v2] := by cases args; simp_all
  obtain ⟨x0, rfl, rfl, rfl, wx0⟩ := open_int Try.underlying3 (hval 0 3 v0 rfl rfl) h0
  obtain ⟨x1, rfl, rfl, rfl, wx1⟩ := open_int Try.underlying3 (hval 1 3 v1 rfl rfl) h1
  obtain ⟨x2, rfl, rfl, rfl, wx2⟩ := open_int Try.underlying3 (hval 2 3 v2 rfl rfl) h2
  exact walk x0 wx0 x1 wx1 x2 wx2 W

theorem proved : Rows.BoundTellsSaid :=
  OpenClaim.holds_of_wide 14 Try.f14 rfl rfl rfl rfl rfl rfl rfl ⟨rfl, rfl, rfl, rfl, rfl⟩ rfl rfl rfl rfl rfl (by kernel_rfl) Try.func14 (by kernel_rfl)
    (of_decide_eq_true (by kernel_rfl)) (by unfold Func.isWrapper; first | (rw [if_pos (by decide +kernel)]; kernel_rfl) | (rw [if_neg (by decide +kernel)]; exact ⟨rfl, rfl⟩))
    (fun os started H enc _ => lifted os started H enc)
#print axioms proved

end Go.Proofs.Ytgdknabpdjohgab.lawBoundTells
