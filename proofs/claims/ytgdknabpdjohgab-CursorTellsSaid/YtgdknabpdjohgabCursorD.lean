/- Contracts of cursor.Right, Move, After and of the reference's. -/
import Derived.Test.YtgdknabpdjohgabCursorC
namespace Go.Proofs.Ytgdknabpdjohgab
open Go.RowKit Go.ChangeShapes Go.WideShapes
def rightB (r c : Int) (p : Bool) (a b : Int) : Bool := decide (0 ≤ r) && decide (r < sideI b) && decide (0 ≤ c) && decide (c < sideI a) && (!p || (c == sideI a - 1))
theorem right_iff (r c : Int) (p : Bool) (a b : Int) : rightB r c p a b = true ↔ (0 ≤ r ∧ r < sideI b ∧ 0 ≤ c ∧ c < sideI a ∧ (p = true → c = sideI a - 1)) := by
  unfold rightB; cases p <;> simp [and_assoc]
/-- The box of a function that takes a cursor. -/
theorem box1 (w : World) (a0 a1 a2 : Value) : ∃ W, W = w.alloc (.cells #[a0, a1, a2] 58) ∧ Has W w.heap.size [a0, a1, a2] 58 ∧ Below w.heap.size w W :=
  ⟨_, rfl, Has.new w _ _, (Below.refl _ _).alloc (Nat.le_refl _) _⟩
set_option maxRecDepth 100000 in
theorem cright_any (r c : Int) (p : Bool) (a b : Int) (w : World) : Calls Try.prog 41 #[.agg #[.int .i64 r, .int .i64 c, .bool p], .int .i64 a, .int .i64 b] w (Gives w (.bool (rightB r c p a b))) := by
  have ka := sideI_bd a
  have kb := sideI_bd b
  have hv : curEq r c p (inI r (sideI b)) (inI c (sideI a)) (holdP c p a) = rightB r c p a b := by
    rw [Bool.eq_iff_iff, right_iff]
    unfold curEq inI holdP
    cases p <;> simp <;> omega
  have HV := Lib.hid hv
  clear hv
  go_enter Try.func41, Try.ntmps41
  go_wp2_with fail
  obtain ⟨W, hW, hb, hl⟩ := box1 w (Value.int .i64 r) (.int .i64 c) (.bool p)
  rw [← hW]
  have HL := Lib.hid hl
  have e0 := ext_cell (hb.cell 0 _ rfl)
  have e1 := ext_cell (hb.cell 1 _ rfl)
  have e2 := ext_cell (hb.cell 2 _ rfl)
  generalize hg : w.heap.size = g at *
  have HG := Lib.hid hg
  clear hb hl hW hg
  have q1 := cur_eql
  refine wp_region_ext (by kernel_rfl) (by kernel_rfl) ?_
  repeat (go_big_quiet_step ((go_at_call 43; exact callx (chold_any r c p a b _))))
  refine wpQuiet_nil ?_
  intro _ hw'
  obtain ⟨u, hw''⟩ := hw'
  subst hw''
  have hbl := ext_below (w := w) (by rw [HG.out]; exact HL.out) u
  go_wp2
  go_ret
  exact ⟨ret_eq (by rw [← HV.out]; rfl), hbl⟩
theorem right_held (r c : Int) (p : Bool) (a b : Int) : rightB (inI r (sideI b)) (inI c (sideI a)) (holdP c p a) a b = true := by
  have ka := sideI_bd a
  have kb := sideI_bd b
  rw [right_iff]
  unfold inI holdP
  cases p <;> simp <;> omega
theorem cright_held (r c : Int) (p : Bool) (a b : Int) (w : World) : Calls Try.prog 41 #[.agg #[.int .i64 (inI r (sideI b)), .int .i64 (inI c (sideI a)), .bool (holdP c p a)], .int .i64 a, .int .i64 b] w (Gives w (.bool true)) := by
  have := cright_any (inI r (sideI b)) (inI c (sideI a)) (holdP c p a) a b w
  rwa [right_held] at this
set_option maxRecDepth 100000 in
set_option maxHeartbeats 2000000 in
theorem rright_any (r c : Int) (p : Bool) (a b : Int) (w : World) : Calls Try.prog 42 #[.agg #[.int .i64 r, .int .i64 c, .bool p], .int .i64 a, .int .i64 b] w (Gives w (.bool (rightB r c p a b))) := by
  have hv : (r < 0 ∧ rightB r c p a b = false) ∨ (0 ≤ r ∧ ¬ r < sideI b ∧ rightB r c p a b = false) ∨ (0 ≤ r ∧ r < sideI b ∧ c < 0 ∧ rightB r c p a b = false) ∨ (0 ≤ r ∧ r < sideI b ∧ 0 ≤ c ∧ ¬ c < sideI a ∧ rightB r c p a b = false)
      ∨ (0 ≤ r ∧ r < sideI b ∧ 0 ≤ c ∧ c < sideI a ∧ p = false ∧ rightB r c p a b = true) ∨ (0 ≤ r ∧ r < sideI b ∧ 0 ≤ c ∧ c < sideI a ∧ p = true ∧ rightB r c p a b = (c == sideI a - 1)) := by
    unfold rightB
    by_cases h1 : 0 ≤ r
    · by_cases h2 : r < sideI b
      · by_cases h3 : 0 ≤ c
        · by_cases h4 : c < sideI a
          · cases p <;> simp [h1, h2, h3, h4]
          · simp [h1, h2, h3, h4]
        · simp [h1, h2, h3]; omega
      · simp [h1, h2]
    · simp [h1]; omega
  have ka := sideI_bd a
  have kb := sideI_bd b
  rcases hv with ⟨h1, hs⟩ | ⟨h1, h2, hs⟩ | ⟨h1, h2, h3, hs⟩ | ⟨h1, h2, h3, h4, hs⟩ | ⟨h1, h2, h3, h4, h5, hs⟩ | ⟨h1, h2, h3, h4, h5, hs⟩
  all_goals
    try subst h5
    have HS := Lib.hid hs
    clear hs
    have t1 : True := trivial
    try have d1 : decide (0 ≤ r) = true := by simpa using h1
    try have d1 : decide (0 ≤ r) = false := by simpa using h1
    try have d2 : decide (r < sideI b) = true := by simpa using h2
    try have d2 : decide (r < sideI b) = false := by simpa using h2
    try have d3 : decide (0 ≤ c) = true := by simpa using h3
    try have d3 : decide (0 ≤ c) = false := by simpa using h3
    try have d4 : decide (c < sideI a) = true := by simpa using h4
    try have d4 : decide (c < sideI a) = false := by simpa using h4
    go_enter Try.func42, Try.ntmps42
    go_wp2_with fail
    obtain ⟨W, hW, hb, hl⟩ := box1 w (Value.int .i64 r) (.int .i64 c) (.bool _)
    rw [← hW]
    have HL := Lib.hid hl
    have e0 := ext_cell (hb.cell 0 _ rfl)
    have e1 := ext_cell (hb.cell 1 _ rfl)
    have e2 := ext_cell (hb.cell 2 _ rfl)
    generalize hg : w.heap.size = g at *
    have HG := Lib.hid hg
    clear hb hl hW hg
    refine wp_region_ext (by kernel_rfl) (by kernel_rfl) ?_
    repeat (go_big_quiet_step ((go_at_call 50; exact callx_same (refside_any _ _))))
    refine wpQuiet_nil ?_
    intro _ hw'
    obtain ⟨u, hw''⟩ := hw'
    subst hw''
    have hbl := ext_below (w := w) (by rw [HG.out]; exact HL.out) u
    go_wp2
    go_ret
    exact ⟨ret_eq (by rw [HS.out]; first | rfl | simp), hbl⟩
end Go.Proofs.Ytgdknabpdjohgab
