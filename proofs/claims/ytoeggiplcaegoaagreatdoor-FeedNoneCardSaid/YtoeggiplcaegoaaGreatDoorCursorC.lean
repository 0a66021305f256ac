/- Contracts of cursor's functions and of the reference's. -/
import Derived.Test.YtoeggiplcaegoaaGreatDoorMg1
import Derived.Laws.StructEq
namespace Go.Proofs.YtoeggiplcaegoaaGreatDoor
open Go.RowKit Go.ChangeShapes Go.WideShapes
theorem cside_any (n : Int) (w : World) : Calls Tryz.prog 180 #[.int .i64 n] w fun e w' => e = .returned (.int .i64 (sideI n)) ∧ w = w' := by
  rcases sideI_cases n with ⟨h2, hs⟩ | ⟨h2, h3, hs⟩ | ⟨h2, hs⟩
  all_goals
    rw [hs]; clear hs
    go_enter Tryz.func180, Tryz.ntmps180
    go_wp2
    go_ret
    exact ⟨(ret_eq (by first | rfl | (simp <;> omega))), rfl⟩
/-- A number as one of so many. -/
def inI (n m : Int) : Int := if n < 0 then 0 else if m ≤ n then m - 1 else n
def holdP (c : Int) (p : Bool) (w : Int) : Bool := p && (c == sideI w - 1)
/-- The boxes of a function that takes a cursor and gives one. -/
theorem boxes (w : World) (a0 a1 a2 : Value) : ∃ W, W = (w.alloc (.cells #[a0, a1, a2] 24)).alloc (.cells #[Value.int .i64 0, .int .i64 0, .bool false] 24) ∧
    Has W w.heap.size [a0, a1, a2] 24 ∧ Has W (w.heap.size + 1) [Value.int .i64 0, .int .i64 0, .bool false] 24 ∧ Below w.heap.size w W := by
  refine ⟨_, rfl, (Has.new w _ _).alloc _, ?_, ((Below.refl _ _).alloc (Nat.le_refl _) _).alloc (by simp) _⟩
  have := Has.new (w.alloc (.cells #[a0, a1, a2] 24)) [Value.int .i64 0, .int .i64 0, .bool false] 24
  simpa using this
theorem three_below {w W : World} (hl : Below w.heap.size w W) (u : Growth W) (x y z : Value) (g : Nat) (hg : w.heap.size ≤ g) :
    Below w.heap.size w ((((ext W u).setCell ⟨g, 0, none⟩ x).setCell ⟨g, 1, none⟩ y).setCell ⟨g, 2, none⟩ z) :=
  hl.trans ((zero3 (ext W u) g x y z |>.mono (B' := w.heap.size) (by have := u.ok.size; have := hl.size; show _ ≤ u.tz9.heap.size; omega) |>.below (Nat.le_refl _) hg) |> (u.ok.mono hl.size).trans)
set_option maxRecDepth 100000 in
set_option maxHeartbeats 2000000 in
theorem chold_any (r c : Int) (p : Bool) (a b : Int) (w : World) : Calls Tryz.prog 108 #[.agg #[.int .i64 r, .int .i64 c, .bool p], .int .i64 a, .int .i64 b] w (Gives w (.agg #[.int .i64 (inI r (sideI b)), .int .i64 (inI c (sideI a)), .bool (holdP c p a)])) := by
  have ka := sideI_bd a
  have kb := sideI_bd b
  go_enter Tryz.func108, Tryz.ntmps108
  go_wp2_with fail
  refine (cside_any a _).mono ?_
  rintro e w' ⟨rfl, rfl⟩
  go_wp2_with fail
  obtain ⟨W, hW, hb, hr, hl⟩ := boxes w (Value.int .i64 r) (.int .i64 c) (.bool p)
  rw [← hW]
  have HL := Lib.hid hl
  have e0 := ext_cell (hb.cell 0 _ rfl)
  have e1 := ext_cell (hb.cell 1 _ rfl)
  have e2 := ext_cell (hb.cell 2 _ rfl)
  have hlt := hr.lt
  have g0 := ext_free (by simpa using hlt) (hr.free 0)
  have g1 := ext_free (by simpa using hlt) (hr.free 1)
  have g2 := ext_free (by simpa using hlt) (hr.free 2)
  have k0 := ext_cell (hr.cell 0 _ rfl)
  have k1 := ext_cell (hr.cell 1 _ rfl)
  have k2 := ext_cell (hr.cell 2 _ rfl)
  generalize hg : w.heap.size = g at *
  have HG := Lib.hid hg
  clear hb hr hl hW hg
  cases p with
  | true =>
    refine wp_region_ext_tail 21 (by kernel_rfl) (by simp) (by kernel_rfl) (by kernel_rfl) (by kernel_rfl) (by kernel_rfl) (by kernel_rfl) ?_
    simp only [List.take_succ_cons, List.take_zero, List.drop_succ_cons, List.drop_zero]
    repeat (go_big_quiet_step ((go_at_call 180; exact callx_same (cside_any _ _))))
    refine wpQuiet_nil ?_
    intro _ hw'
    obtain ⟨u, hw''⟩ := hw'
    subst hw''
    go_wp2
    all_goals
      have hbl := fun x y z => three_below (w := w) (by rw [HG.out]; exact HL.out) u x y z (g + 1) (by have := HG.out; omega)
      refine bodyPost_ret (v := .agg #[.int .i64 (inI r (sideI b)), .int .i64 (inI c (sideI a)), .bool (holdP c true a)]) (by simp [results, Tryz.results108, go_sem, holdP, k0, k1, k2]; try unfold inI; try omega) rfl ⟨rfl, hbl _ _ _⟩
  | false =>
    refine wp_region_ext_tail 21 (by kernel_rfl) (by simp) (by kernel_rfl) (by kernel_rfl) (by kernel_rfl) (by kernel_rfl) (by kernel_rfl) ?_
    simp only [List.take_succ_cons, List.take_zero, List.drop_succ_cons, List.drop_zero]
    repeat (go_big_quiet_step ((go_at_call 180; exact callx_same (cside_any _ _))))
    refine wpQuiet_nil ?_
    intro _ hw'
    obtain ⟨u, hw''⟩ := hw'
    subst hw''
    go_wp2
    all_goals
      have hbl := fun x y z => three_below (w := w) (by rw [HG.out]; exact HL.out) u x y z (g + 1) (by have := HG.out; omega)
      refine bodyPost_ret (v := .agg #[.int .i64 (inI r (sideI b)), .int .i64 (inI c (sideI a)), .bool (holdP c false a)]) (by simp [results, Tryz.results108, go_sem, holdP, k0, k1, k2]; try unfold inI; try omega) rfl ⟨rfl, hbl _ _ _⟩
end Go.Proofs.YtoeggiplcaegoaaGreatDoor
