/- Contracts of cursor.Move, After and of the reference's; works of layer 31. -/
import Derived.Test.YtoeggiplcaegoaaGreatDoorMg3
import Derived.Test.YtoeggiplcaegoaaGreatDoorMg1
namespace Go.Proofs.YtoeggiplcaegoaaGreatDoor
open Go.RowKit Go.ChangeShapes Go.WideShapes
def stepI (n : Int) : Int := if 1 < n then 2 else 1
def aftC (c n a : Int) : Int := if c < sideI a - stepI n then c + stepI n else sideI a - 1
def aftP (c n a : Int) (au : Bool) : Bool := if c < sideI a - stepI n then false else au
set_option maxRecDepth 100000 in
theorem caft_z_l (r c : Int) (p : Bool) (n : Int) (hn : n < 1) (a : Int) (au : Bool) (w : World) (hc : -9223372036854775808 ≤ c) (h2 : c < sideI a - 1) : Calls Tryz.prog 116 #[.agg #[.int .i64 r, .int .i64 c, .bool p], .int .i64 n, .int .i64 a, .bool au] w (Gives w (.agg #[.int .i64 r, .int .i64 (c + 1), .bool false])) := by
  have ka := sideI_bd a
  go_enter Tryz.func116, Tryz.ntmps116
  go_wp2_with fail
  refine (cside_any a _).mono ?_
  rintro e w' ⟨rfl, rfl⟩
  obtain ⟨W, hW, hb, hr, hl⟩ := boxes w (Value.int .i64 r) (.int .i64 c) (.bool p)
  rw [← hW]
  have c0 := hb.cell 0 _ rfl
  have c1 := hb.cell 1 _ rfl
  have k0 := hr.cell 0 _ rfl
  have k1 := hr.cell 1 _ rfl
  have k2 := hr.cell 2 _ rfl
  have g0 := hr.free 0
  have g1 := hr.free 1
  have g2 := hr.free 2
  have hlt := hr.lt
  have hbl := fun x y z => hl.trans ((zero3 W (w.heap.size + 1) x y z).below (B' := w.heap.size) hl.size (by omega))
  have HBL := Lib.hid hbl
  clear hb hr hl hW hbl
  go_wp2
  exact bodyPost_ret (v := .agg #[.int .i64 r, .int .i64 (c + 1), .bool false]) (by simp [results, Tryz.results116, go_sem, k0, k1, k2] <;> omega) rfl ⟨rfl, HBL.out _ _ _⟩
set_option maxRecDepth 100000 in
theorem caft_z_g (r c : Int) (p : Bool) (n : Int) (hn : n < 1) (a : Int) (au : Bool) (w : World) (hc : -9223372036854775808 ≤ c) (h2 : ¬ c < sideI a - 1) : Calls Tryz.prog 116 #[.agg #[.int .i64 r, .int .i64 c, .bool p], .int .i64 n, .int .i64 a, .bool au] w (Gives w (.agg #[.int .i64 r, .int .i64 (sideI a - 1), .bool au])) := by
  have ka := sideI_bd a
  go_enter Tryz.func116, Tryz.ntmps116
  go_wp2_with fail
  refine (cside_any a _).mono ?_
  rintro e w' ⟨rfl, rfl⟩
  obtain ⟨W, hW, hb, hr, hl⟩ := boxes w (Value.int .i64 r) (.int .i64 c) (.bool p)
  rw [← hW]
  have c0 := hb.cell 0 _ rfl
  have c1 := hb.cell 1 _ rfl
  have k0 := hr.cell 0 _ rfl
  have k1 := hr.cell 1 _ rfl
  have k2 := hr.cell 2 _ rfl
  have g0 := hr.free 0
  have g1 := hr.free 1
  have g2 := hr.free 2
  have hlt := hr.lt
  have hbl := fun x y z => hl.trans ((zero3 W (w.heap.size + 1) x y z).below (B' := w.heap.size) hl.size (by omega))
  have HBL := Lib.hid hbl
  clear hb hr hl hW hbl
  go_wp2
  exact bodyPost_ret (v := .agg #[.int .i64 r, .int .i64 (sideI a - 1), .bool au]) (by simp [results, Tryz.results116, go_sem, k0, k1, k2] <;> omega) rfl ⟨rfl, HBL.out _ _ _⟩
set_option maxRecDepth 100000 in
theorem caft_o_l (r c : Int) (p : Bool) (a : Int) (au : Bool) (w : World) (hc : -9223372036854775808 ≤ c) (h2 : c < sideI a - 1) : Calls Tryz.prog 116 #[.agg #[.int .i64 r, .int .i64 c, .bool p], .int .i64 1, .int .i64 a, .bool au] w (Gives w (.agg #[.int .i64 r, .int .i64 (c + 1), .bool false])) := by
  have ka := sideI_bd a
  go_enter Tryz.func116, Tryz.ntmps116
  go_wp2_with fail
  refine (cside_any a _).mono ?_
  rintro e w' ⟨rfl, rfl⟩
  obtain ⟨W, hW, hb, hr, hl⟩ := boxes w (Value.int .i64 r) (.int .i64 c) (.bool p)
  rw [← hW]
  have c0 := hb.cell 0 _ rfl
  have c1 := hb.cell 1 _ rfl
  have k0 := hr.cell 0 _ rfl
  have k1 := hr.cell 1 _ rfl
  have k2 := hr.cell 2 _ rfl
  have g0 := hr.free 0
  have g1 := hr.free 1
  have g2 := hr.free 2
  have hlt := hr.lt
  have hbl := fun x y z => hl.trans ((zero3 W (w.heap.size + 1) x y z).below (B' := w.heap.size) hl.size (by omega))
  have HBL := Lib.hid hbl
  clear hb hr hl hW hbl
  go_wp2
  exact bodyPost_ret (v := .agg #[.int .i64 r, .int .i64 (c + 1), .bool false]) (by simp [results, Tryz.results116, go_sem, k0, k1, k2] <;> omega) rfl ⟨rfl, HBL.out _ _ _⟩
set_option maxRecDepth 100000 in
theorem caft_o_g (r c : Int) (p : Bool) (a : Int) (au : Bool) (w : World) (hc : -9223372036854775808 ≤ c) (h2 : ¬ c < sideI a - 1) : Calls Tryz.prog 116 #[.agg #[.int .i64 r, .int .i64 c, .bool p], .int .i64 1, .int .i64 a, .bool au] w (Gives w (.agg #[.int .i64 r, .int .i64 (sideI a - 1), .bool au])) := by
  have ka := sideI_bd a
  go_enter Tryz.func116, Tryz.ntmps116
  go_wp2_with fail
  refine (cside_any a _).mono ?_
  rintro e w' ⟨rfl, rfl⟩
  obtain ⟨W, hW, hb, hr, hl⟩ := boxes w (Value.int .i64 r) (.int .i64 c) (.bool p)
  rw [← hW]
  have c0 := hb.cell 0 _ rfl
  have c1 := hb.cell 1 _ rfl
  have k0 := hr.cell 0 _ rfl
  have k1 := hr.cell 1 _ rfl
  have k2 := hr.cell 2 _ rfl
  have g0 := hr.free 0
  have g1 := hr.free 1
  have g2 := hr.free 2
  have hlt := hr.lt
  have hbl := fun x y z => hl.trans ((zero3 W (w.heap.size + 1) x y z).below (B' := w.heap.size) hl.size (by omega))
  have HBL := Lib.hid hbl
  clear hb hr hl hW hbl
  go_wp2
  exact bodyPost_ret (v := .agg #[.int .i64 r, .int .i64 (sideI a - 1), .bool au]) (by simp [results, Tryz.results116, go_sem, k0, k1, k2] <;> omega) rfl ⟨rfl, HBL.out _ _ _⟩
set_option maxRecDepth 100000 in
theorem caft_t_l (r c : Int) (p : Bool) (a : Int) (au : Bool) (w : World) (hc : -9223372036854775808 ≤ c) (h2 : c < sideI a - 2) : Calls Tryz.prog 116 #[.agg #[.int .i64 r, .int .i64 c, .bool p], .int .i64 2, .int .i64 a, .bool au] w (Gives w (.agg #[.int .i64 r, .int .i64 (c + 2), .bool false])) := by
  have ka := sideI_bd a
  go_enter Tryz.func116, Tryz.ntmps116
  go_wp2_with fail
  refine (cside_any a _).mono ?_
  rintro e w' ⟨rfl, rfl⟩
  obtain ⟨W, hW, hb, hr, hl⟩ := boxes w (Value.int .i64 r) (.int .i64 c) (.bool p)
  rw [← hW]
  have c0 := hb.cell 0 _ rfl
  have c1 := hb.cell 1 _ rfl
  have k0 := hr.cell 0 _ rfl
  have k1 := hr.cell 1 _ rfl
  have k2 := hr.cell 2 _ rfl
  have g0 := hr.free 0
  have g1 := hr.free 1
  have g2 := hr.free 2
  have hlt := hr.lt
  have hbl := fun x y z => hl.trans ((zero3 W (w.heap.size + 1) x y z).below (B' := w.heap.size) hl.size (by omega))
  have HBL := Lib.hid hbl
  clear hb hr hl hW hbl
  go_wp2
  exact bodyPost_ret (v := .agg #[.int .i64 r, .int .i64 (c + 2), .bool false]) (by simp [results, Tryz.results116, go_sem, k0, k1, k2] <;> omega) rfl ⟨rfl, HBL.out _ _ _⟩
set_option maxRecDepth 100000 in
theorem caft_t_g (r c : Int) (p : Bool) (a : Int) (au : Bool) (w : World) (hc : -9223372036854775808 ≤ c) (h2 : ¬ c < sideI a - 2) : Calls Tryz.prog 116 #[.agg #[.int .i64 r, .int .i64 c, .bool p], .int .i64 2, .int .i64 a, .bool au] w (Gives w (.agg #[.int .i64 r, .int .i64 (sideI a - 1), .bool au])) := by
  have ka := sideI_bd a
  go_enter Tryz.func116, Tryz.ntmps116
  go_wp2_with fail
  refine (cside_any a _).mono ?_
  rintro e w' ⟨rfl, rfl⟩
  obtain ⟨W, hW, hb, hr, hl⟩ := boxes w (Value.int .i64 r) (.int .i64 c) (.bool p)
  rw [← hW]
  have c0 := hb.cell 0 _ rfl
  have c1 := hb.cell 1 _ rfl
  have k0 := hr.cell 0 _ rfl
  have k1 := hr.cell 1 _ rfl
  have k2 := hr.cell 2 _ rfl
  have g0 := hr.free 0
  have g1 := hr.free 1
  have g2 := hr.free 2
  have hlt := hr.lt
  have hbl := fun x y z => hl.trans ((zero3 W (w.heap.size + 1) x y z).below (B' := w.heap.size) hl.size (by omega))
  have HBL := Lib.hid hbl
  clear hb hr hl hW hbl
  go_wp2
  exact bodyPost_ret (v := .agg #[.int .i64 r, .int .i64 (sideI a - 1), .bool au]) (by simp [results, Tryz.results116, go_sem, k0, k1, k2] <;> omega) rfl ⟨rfl, HBL.out _ _ _⟩
set_option maxRecDepth 100000 in
theorem caft_m_l (r c : Int) (p : Bool) (n : Int) (hn : 2 < n) (a : Int) (au : Bool) (w : World) (hc : -9223372036854775808 ≤ c) (h2 : c < sideI a - 2) : Calls Tryz.prog 116 #[.agg #[.int .i64 r, .int .i64 c, .bool p], .int .i64 n, .int .i64 a, .bool au] w (Gives w (.agg #[.int .i64 r, .int .i64 (c + 2), .bool false])) := by
  have ka := sideI_bd a
  go_enter Tryz.func116, Tryz.ntmps116
  go_wp2_with fail
  refine (cside_any a _).mono ?_
  rintro e w' ⟨rfl, rfl⟩
  obtain ⟨W, hW, hb, hr, hl⟩ := boxes w (Value.int .i64 r) (.int .i64 c) (.bool p)
  rw [← hW]
  have c0 := hb.cell 0 _ rfl
  have c1 := hb.cell 1 _ rfl
  have k0 := hr.cell 0 _ rfl
  have k1 := hr.cell 1 _ rfl
  have k2 := hr.cell 2 _ rfl
  have g0 := hr.free 0
  have g1 := hr.free 1
  have g2 := hr.free 2
  have hlt := hr.lt
  have hbl := fun x y z => hl.trans ((zero3 W (w.heap.size + 1) x y z).below (B' := w.heap.size) hl.size (by omega))
  have HBL := Lib.hid hbl
  clear hb hr hl hW hbl
  go_wp2
  exact bodyPost_ret (v := .agg #[.int .i64 r, .int .i64 (c + 2), .bool false]) (by simp [results, Tryz.results116, go_sem, k0, k1, k2] <;> omega) rfl ⟨rfl, HBL.out _ _ _⟩
set_option maxRecDepth 100000 in
theorem caft_m_g (r c : Int) (p : Bool) (n : Int) (hn : 2 < n) (a : Int) (au : Bool) (w : World) (hc : -9223372036854775808 ≤ c) (h2 : ¬ c < sideI a - 2) : Calls Tryz.prog 116 #[.agg #[.int .i64 r, .int .i64 c, .bool p], .int .i64 n, .int .i64 a, .bool au] w (Gives w (.agg #[.int .i64 r, .int .i64 (sideI a - 1), .bool au])) := by
  have ka := sideI_bd a
  go_enter Tryz.func116, Tryz.ntmps116
  go_wp2_with fail
  refine (cside_any a _).mono ?_
  rintro e w' ⟨rfl, rfl⟩
  obtain ⟨W, hW, hb, hr, hl⟩ := boxes w (Value.int .i64 r) (.int .i64 c) (.bool p)
  rw [← hW]
  have c0 := hb.cell 0 _ rfl
  have c1 := hb.cell 1 _ rfl
  have k0 := hr.cell 0 _ rfl
  have k1 := hr.cell 1 _ rfl
  have k2 := hr.cell 2 _ rfl
  have g0 := hr.free 0
  have g1 := hr.free 1
  have g2 := hr.free 2
  have hlt := hr.lt
  have hbl := fun x y z => hl.trans ((zero3 W (w.heap.size + 1) x y z).below (B' := w.heap.size) hl.size (by omega))
  have HBL := Lib.hid hbl
  clear hb hr hl hW hbl
  go_wp2
  exact bodyPost_ret (v := .agg #[.int .i64 r, .int .i64 (sideI a - 1), .bool au]) (by simp [results, Tryz.results116, go_sem, k0, k1, k2] <;> omega) rfl ⟨rfl, HBL.out _ _ _⟩
theorem cafter_any (r c : Int) (p : Bool) (n a : Int) (au : Bool) (w : World) (hc : -9223372036854775808 ≤ c) : Calls Tryz.prog 116 #[.agg #[.int .i64 r, .int .i64 c, .bool p], .int .i64 n, .int .i64 a, .bool au] w (Gives w (.agg #[.int .i64 r, .int .i64 (aftC c n a), .bool (aftP c n a au)])) := by
  unfold aftC aftP stepI
  rcases (by omega : n < 1 ∨ n = 1 ∨ n = 2 ∨ 2 < n) with h | rfl | rfl | h
  · rw [if_neg (show ¬ 1 < n by omega)]
    by_cases h2 : c < sideI a - 1
    · rw [if_pos h2, if_pos h2]; exact caft_z_l r c p n h a au w hc h2
    · rw [if_neg h2, if_neg h2]; exact caft_z_g r c p n h a au w hc h2
  · rw [if_neg (show ¬ (1 : Int) < 1 by omega)]
    by_cases h2 : c < sideI a - 1
    · rw [if_pos h2, if_pos h2]; exact caft_o_l r c p a au w hc h2
    · rw [if_neg h2, if_neg h2]; exact caft_o_g r c p a au w hc h2
  · rw [if_pos (show (1 : Int) < 2 by omega)]
    by_cases h2 : c < sideI a - 2
    · rw [if_pos h2, if_pos h2]; exact caft_t_l r c p a au w hc h2
    · rw [if_neg h2, if_neg h2]; exact caft_t_g r c p a au w hc h2
  · rw [if_pos (show 1 < n by omega)]
    by_cases h2 : c < sideI a - 2
    · rw [if_pos h2, if_pos h2]; exact caft_m_l r c p n h a au w hc h2
    · rw [if_neg h2, if_neg h2]; exact caft_m_g r c p n h a au w hc h2
end Go.Proofs.YtoeggiplcaegoaaGreatDoor
