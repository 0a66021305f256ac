/- Contracts of cursor.Right, Move, After and of the reference's. -/
import Derived.Test.YteinppjklhomnaaDoorCursorC
namespace Go.Proofs.YteinppjklhomnaaDoor
open Go.RowKit Go.ChangeShapes Go.WideShapes
def curRightB (r c : Int) (p : Bool) (a b : Int) : Bool := decide (0 ≤ r) && decide (r < sideI b) && decide (0 ≤ c) && decide (c < sideI a) && (!p || (c == sideI a - 1))
theorem right_iff (r c : Int) (p : Bool) (a b : Int) : curRightB r c p a b = true ↔ (0 ≤ r ∧ r < sideI b ∧ 0 ≤ c ∧ c < sideI a ∧ (p = true → c = sideI a - 1)) := by
  unfold curRightB; cases p <;> simp [and_assoc]
/-- The box of a function that takes a cursor. -/
theorem box1 (w : World) (a0 a1 a2 : Value) : ∃ W, W = w.alloc (.cells #[a0, a1, a2] 29) ∧ Has W w.heap.size [a0, a1, a2] 29 ∧ Below w.heap.size w W :=
  ⟨_, rfl, Has.new w _ _, (Below.refl _ _).alloc (Nat.le_refl _) _⟩
set_option maxRecDepth 100000 in
theorem cright_any (r c : Int) (p : Bool) (a b : Int) (w : World) : Calls Tryd.prog 22 #[.agg #[.int .i64 r, .int .i64 c, .bool p], .int .i64 a, .int .i64 b] w (Gives w (.bool (curRightB r c p a b))) := by
  have ka := sideI_bd a
  have kb := sideI_bd b
  have hv : curEq r c p (inI r (sideI b)) (inI c (sideI a)) (holdP c p a) = curRightB r c p a b := by
    rw [Bool.eq_iff_iff, right_iff]
    unfold curEq inI holdP
    cases p <;> simp <;> omega
  have HV := Lib.hid hv
  clear hv
  go_enter Tryd.func22, Tryd.ntmps22
  go_wp2_with fail
  obtain ⟨W, hW, hb, hl⟩ := box1 w (Value.int .i64 r) (.int .i64 c) (.bool p)
  rw [← hW]
  have HL := Lib.hid hl
  have e0 := ext_cell (hb.cell 0 _ rfl)
  have e1 := ext_cell (hb.cell 1 _ rfl)
  have e2 := ext_cell (hb.cell 2 _ rfl)
  generalize hg : w.heap.size = g at *
  have HG := Lib.hid hg
  clear hb hl hW hg
  have q1 := cur_eql
  refine wp_region_ext (by kernel_rfl) (by kernel_rfl) ?_
  repeat (go_big_quiet_step ((go_at_call 63; exact callx (chold_any r c p a b _))))
  refine wpQuiet_nil ?_
  intro _ hw'
  obtain ⟨u, hw''⟩ := hw'
  subst hw''
  have hbl := ext_below (w := w) (by rw [HG.out]; exact HL.out) u
  go_wp2
  go_ret
  exact ⟨ret_eq (by rw [← HV.out]; rfl), hbl⟩
theorem right_held (r c : Int) (p : Bool) (a b : Int) : curRightB (inI r (sideI b)) (inI c (sideI a)) (holdP c p a) a b = true := by
  have ka := sideI_bd a
  have kb := sideI_bd b
  rw [right_iff]
  unfold inI holdP
  cases p <;> simp <;> omega
theorem cright_held (r c : Int) (p : Bool) (a b : Int) (w : World) : Calls Tryd.prog 22 #[.agg #[.int .i64 (inI r (sideI b)), .int .i64 (inI c (sideI a)), .bool (holdP c p a)], .int .i64 a, .int .i64 b] w (Gives w (.bool true)) := by
  have := cright_any (inI r (sideI b)) (inI c (sideI a)) (holdP c p a) a b w
  rwa [right_held] at this
end Go.Proofs.YteinppjklhomnaaDoor
