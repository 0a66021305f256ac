/- Contracts of cursor.Move, After and of the reference's; works of layer 31. -/
import Derived.Test.YtoeggiplcaegoaaGreatDoorMg2
import Derived.Test.YtoeggiplcaegoaaGreatDoorMg1
namespace Go.Proofs.YtoeggiplcaegoaaGreatDoor
open Go.RowKit Go.ChangeShapes Go.WideShapes
def stepI (n : Int) : Int := if 1 < n then 2 else 1
def aftC (c n a : Int) : Int := if c < sideI a - stepI n then c + stepI n else sideI a - 1
def aftP (c n a : Int) (au : Bool) : Bool := if c < sideI a - stepI n then false else au
set_option maxRecDepth 100000 in
theorem caft_z_l (r c : Int) (p : Bool) (n : Int) (hn : n < 1) (a : Int) (au : Bool) (w : World) (hc : -9223372036854775808 ≤ c) (h2 : c < sideI a - 1) : Calls Tryz.prog 116 #[.agg #[.int .i64 r, .int .i64 c, .bool p], .int .i64 n, .int .i64 a, .bool au] w (Gives w (.agg #[.int .i64 r, .int .i64 (c + 1), .bool false])) := by
  have ka := sideI_bd a
  go_enter Tryz.func116, Tryz.ntmps116
  go_wp2_with fail
  refine (cside_any a _).mono ?_
  rintro e w' ⟨rfl, rfl⟩
  obtain ⟨W, hW, hb, hr, hl⟩ := boxes w (Value.int .i64 r) (.int .i64 c) (.bool p)
  rw [← hW]
  have c0 := hb.cell 0 _ rfl
  have c1 := hb.cell 1 _ rfl
  have k0 := hr.cell 0 _ rfl
  have k1 := hr.cell 1 _ rfl
  have k2 := hr.cell 2 _ rfl
  have g0 := hr.free 0
  have g1 := hr.free 1
  have g2 := hr.free 2
  have hlt := hr.lt
  have hbl := fun x y z => hl.trans ((zero3 W (w.heap.size + 1) x y z).below (B' := w.heap.size) hl.size (by omega))
  have HBL := Lib.hid hbl
  clear hb hr hl hW hbl
  go_wp2
  exact bodyPost_ret (v := .agg #[.int .i64 r, .int .i64 (c + 1), .bool false]) (by simp [results, Tryz.results116, go_sem, k0, k1, k2] <;> omega) rfl ⟨rfl, HBL.out _ _ _⟩
set_option maxRecDepth 100000 in
theorem caft_z_g (r c : Int) (p : Bool) (n : Int) (hn : n < 1) (a : Int) (au : Bool) (w : World) (hc : -9223372036854775808 ≤ c) (h2 : ¬ c < sideI a - 1) : Calls Tryz.prog 116 #[.agg #[.int .i64 r, .int .i64 c, .bool p], .int .i64 n, .int .i64 a, .bool au] w (Gives w (.agg #[.int .i64 r, .int .i64 (sideI a - 1), .bool au])) := by
  have ka := sideI_bd a
  go_enter Tryz.func116, Tryz.ntmps116
  go_wp2_with fail
  refine (cside_any a _).mono ?_
  rintro e w' ⟨rfl, rfl⟩
  obtain ⟨W, hW, hb, hr, hl⟩ := boxes w (Value.int .i64 r) (.int .i64 c) (.bool p)
  rw [← hW]
  have c0 := hb.cell 0 _ rfl
  have c1 := hb.cell 1 _ rfl
  have k0 := hr.cell 0 _ rfl
  have k1 := hr.cell 1 _ rfl
  have k2 := hr.cell 2 _ rfl
  have g0 := hr.free 0
  have g1 := hr.free 1
  have g2 := hr.free 2
  have hlt := hr.lt
  have hbl := fun x y z => hl.trans ((zero3 W (w.heap.size + 1) x y z).below (B' := w.heap.size) hl.size (by omega))
  have HBL := Lib.hid hbl
  clear hb hr hl hW hbl
  go_wp2
  exact bodyPost_ret (v := .agg #[.int .i64 r, .int .i64 (sideI a - 1), .bool au]) (by simp [results, Tryz.results116, go_sem, k0, k1, k2] <;> omega) rfl ⟨rfl, HBL.out _ _ _⟩
set_option maxRecDepth 100000 in
theorem caft_o_l (r c : Int) (p : Bool) (a : Int) (au : Bool) (w : World) (hc : -9223372036854775808 ≤ c) (h2 : c < sideI a - 1) : Calls Tryz.prog 116 #[.agg #[.int .i64 r, .int .i64 c, .bool p], .int .i64 1, .int .i64 a, .bool au] w (Gives w (.agg #[.int .i64 r, .int .i64 (c + 1), .bool false])) := by
  have ka := sideI_bd a
  go_enter Tryz.func116, Tryz.ntmps116
  go_wp2_with fail
  refine (cside_any a _).mono ?_
  rintro e w' ⟨rfl, rfl⟩
  obtain ⟨W, hW, hb, hr, hl⟩ := boxes w (Value.int .i64 r) (.int .i64 c) (.bool p)
  rw [← hW]
  have c0 := hb.cell 0 _ rfl
  have c1 := hb.cell 1 _ rfl
  have k0 := hr.cell 0 _ rfl
  have k1 := hr.cell 1 _ rfl
  have k2 := hr.cell 2 _ rfl
  have g0 := hr.free 0
  have g1 := hr.free 1
  have g2 := hr.free 2
  have hlt := hr.lt
  have hbl := fun x y z => hl.trans ((zero3 W (w.heap.size + 1) x y z).below (B' := w.heap.size) hl.size (by omega))
  have HBL := Lib.hid hbl
  clear hb hr hl hW hbl
  go_wp2
  exact bodyPost_ret (v := .agg #[.int .i64 r, .int .i64 (c + 1), .bool false]) (by simp [results, Tryz.results116, go_sem, k0, k1, k2] <;> omega) rfl ⟨rfl, HBL.out _ _ _⟩
set_option maxRecDepth 100000 in
theorem caft_o_g (r c : Int) (p : Bool) (a : Int) (au : Bool) (w : World) (hc : -9223372036854775808 ≤ c) (h2 : ¬ c < sideI a - 1) : Calls Tryz.prog 116 #[.agg #[.int .i64 r, .int .i64 c, .bool p], .int .i64 1, .int .i64 a, .bool au] w (Gives w (.agg #[.int .i64 r, .int .i64 (sideI a - 1), .bool au])) := by
  have ka := sideI_bd a
  go_enter Tryz.func116, Tryz.ntmps116
  go_wp2_with fail
  refine (cside_any a _).mono ?_
  rintro e w' ⟨rfl, rfl⟩
  obtain ⟨W, hW, hb, hr, hl⟩ := boxes w (Value.int .i64 r) (.int .i64 c) (.bool p)
  rw [← hW]
  have c0 := hb.cell 0 _ rfl
  have c1 := hb.cell 1 _ rfl
  have k0 := hr.cell 0 _ rfl
  have k1 := hr.cell 1 _ rfl
  have k2 := hr.cell 2 _ rfl
  have g0 := hr.free 0
  have g1 := hr.free 1
  have g2 := hr.free 2
  have hlt := hr.lt
  have hbl := fun x y z => hl.trans ((zero3 W (w.heap.size + 1) x y z).below (B' := w.heap.size) hl.size (by omega))
  have HBL := Lib.hid hbl
  clear hb hr hl hW hbl
  go_wp2
  exact bodyPost_ret (v := .agg #[.int .i64 r, .int .i64 (sideI a - 1), .bool au]) (by simp [results, Tryz.results116, go_sem, k0, k1, k2] <;> omega) rfl ⟨rfl, HBL.out _ _ _⟩
set_option maxRecDepth 100000 in
theorem caft_t_l (r c : Int) (p : Bool) (a : Int) (au : Bool) (w : World) (hc : -9223372036854775808 ≤ c) (h2 : c < sideI a - 2) : Calls Tryz.prog 116 #[.agg #[.int .i64 r, .int .i64 c, .bool p], .int .i64 2, .int .i64 a, .bool au] w (Gives w (.agg #[.int .i64 r, .int .i64 (c + 2), .bool false])) := by
  have ka := sideI_bd a
  go_enter Tryz.func116, Tryz.ntmps116
  go_wp2_with fail
  refine (cside_any a _).mono ?_
  rintro e w' ⟨rfl, rfl⟩
  obtain ⟨W, hW, hb, hr, hl⟩ := boxes w (Value.int .i64 r) (.int .i64 c) (.bool p)
  rw [← hW]
  have c0 := hb.cell 0 _ rfl
  have c1 := hb.cell 1 _ rfl
  have k0 := hr.cell 0 _ rfl
  have k1 := hr.cell 1 _ rfl
  have k2 := hr.cell 2 _ rfl
  have g0 := hr.free 0
  have g1 := hr.free 1
  have g2 := hr.free 2
  have hlt := hr.lt
  have hbl := fun x y z => hl.trans ((zero3 W (w.heap.size + 1) x y z).below (B' := w.heap.size) hl.size (by omega))
  have HBL := Lib.hid hbl
  clear hb hr hl hW hbl
  go_wp2
  exact bodyPost_ret (v := .agg #[.int .i64 r, .int .i64 (c + 2), .bool false]) (by simp [results, Tryz.results116, go_sem, k0, k1, k2] <;> omega) rfl ⟨rfl, HBL.out _ _ _⟩
set_option maxRecDepth 100000 in
theorem caft_t_g (r c : Int) (p : Bool) (a : Int) (au : Bool) (w : World) (hc : -9223372036854775808 ≤ c) (h2 : ¬ c < sideI a - 2) : Calls Tryz.prog 116 #[.agg #[.int .i64 r, .int .i64 c, .bool p], .int .i64 2, .int .i64 a, .bool au] w (Gives w (.agg #[.int .i64 r, .int .i64 (sideI a - 1), .bool au])) := by
  have ka := sideI_bd a
  go_enter Tryz.func116, Tryz.ntmps116
  go_wp2_with fail
  refine (cside_any a _).mono ?_
  rintro e w' ⟨rfl, rfl⟩
  obtain ⟨W, hW, hb, hr, hl⟩ := boxes w (Value.int .i64 r) (.int .i64 c) (.bool p)
  rw [← hW]
  have c0 := hb.cell 0 _ rfl
  have c1 := hb.cell 1 _ rfl
  have k0 := hr.cell 0 _ rfl
  have k1 := hr.cell 1 _ rfl
  have k2 := hr.cell 2 _ rfl
  have g0 := hr.free 0
  have g1 := hr.free 1
  have g2 := hr.free 2
  have hlt := hr.lt
  have hbl := fun x y z => hl.trans ((zero3 W (w.heap.size + 1) x y z).below (B' := w.heap.size) hl.size (by omega))
  have HBL := Lib.hid hbl
  clear hb hr hl hW hbl
  go_wp2
  exact bodyPost_ret (v := .agg #[.int .i64 r, .int .i64 (sideI a - 1), .bool au]) (by simp [results, Tryz.results116, go_sem, k0, k1, k2] <;> omega) rfl ⟨rfl, HBL.out _ _ _⟩
set_option maxRecDepth 100000 in
theorem caft_m_l (r c : Int) (p : Bool) (n : Int) (hn : 2 < n) (a : Int) (au : Bool) (w : World) (hc : -9223372036854775808 ≤ c) (h2 : c < sideI a - 2) : Calls Tryz.prog 116 #[.agg #[.int .i64 r, .int .i64 c, .bool p], .int .i64 n, .int .i64 a, .bool au] w (Gives w (.agg #[.int .i64 r, .int .i64 (c + 2), .bool false])) := by
  have ka := sideI_bd a
  go_enter Tryz.func116, Tryz.ntmps116
  go_wp2_with fail
  refine (cside_any a _).mono ?_
  rintro e w' ⟨rfl, rfl⟩
  obtain ⟨W, hW, hb, hr, hl⟩ := boxes w (Value.int .i64 r) (.int .i64 c) (.bool p)
  rw [← hW]
  have c0 := hb.cell 0 _ rfl
  have c1 := hb.cell 1 _ rfl
  have k0 := hr.cell 0 _ rfl
  have k1 := hr.cell 1 _ rfl
  have k2 := hr.cell 2 _ rfl
  have g0 := hr.free 0
  have g1 := hr.free 1
  have g2 := hr.free 2
  have hlt := hr.lt
  have hbl := fun x y z => hl.trans ((zero3 W (w.heap.size + 1) x y z).below (B' := w.heap.size) hl.size (by omega))
  have HBL := Lib.hid hbl
  clear hb hr hl hW hbl
  go_wp2
  exact bodyPost_ret (v := .agg #[.int .i64 r, .int .i64 (c + 2), .bool false]) (by simp [results, Tryz.results116, go_sem, k0, k1, k2] <;> omega) rfl ⟨rfl, HBL.out _ _ _⟩
set_option maxRecDepth 100000 in
theorem caft_m_g (r c : Int) (p : Bool) (n : Int) (hn : 2 < n) (a : Int) (au : Bool) (w : World) (hc : -9223372036854775808 ≤ c) (h2 : ¬ c < sideI a - 2) : Calls Tryz.prog 116 #[.agg #[.int .i64 r, .int .i64 c, .bool p], .int .i64 n, .int .i64 a, .bool au] w (Gives w (.agg #[.int .i64 r, .int .i64 (sideI a - 1), .bool au])) := by
  have ka := sideI_bd a
  go_enter Tryz.func116, Tryz.ntmps116
  go_wp2_with fail
  refine (cside_any a _).mono ?_
  rintro e w' ⟨rfl, rfl⟩
  obtain ⟨W, hW, hb, hr, hl⟩ := boxes w (Value.int .i64 r) (.int .i64 c) (.bool p)
  rw [← hW]
  have c0 := hb.cell 0 _ rfl
  have c1 := hb.cell 1 _ rfl
  have k0 := hr.cell 0 _ rfl
  have k1 := hr.cell 1 _ rfl
  have k2 := hr.cell 2 _ rfl
  have g0 := hr.free 0
  have g1 := hr.free 1
  have g2 := hr.free 2
  have hlt := hr.lt
  have hbl := fun x y z => hl.trans ((zero3 W (w.heap.size + 1) x y z).below (B' := w.heap.size) hl.size (by omega))
  have HBL := Lib.hid hbl
  clear hb hr hl hW hbl
  go_wp2
  exact bodyPost_ret (v := .agg #[.int .i64 r, .int .i64 (sideI a - 1), .bool au]) (by simp [results, Tryz.results116, go_sem, k0, k1, k2] <;> omega) rfl ⟨rfl, HBL.out _ _ _⟩
theorem cafter_any (r c : Int) (p : Bool) (n a : Int) (au : Bool) (w : World) (hc : -9223372036854775808 ≤ c) : Calls Tryz.prog 116 #[.agg #[.int .i64 r, .int .i64 c, .bool p], .int .i64 n, .int .i64 a, .bool au] w (Gives w (.agg #[.int .i64 r, .int .i64 (aftC c n a), .bool (aftP c n a au)])) := by
  unfold aftC aftP stepI
  rcases (by omega : n < 1 ∨ n = 1 ∨ n = 2 ∨ 2 < n) with h | rfl | rfl | h
  · rw [if_neg (show ¬ 1 < n by omega)]
    by_cases h2 : c < sideI a - 1
    · rw [if_pos h2, if_pos h2]; exact caft_z_l r c p n h a au w hc h2
    · rw [if_neg h2, if_neg h2]; exact caft_z_g r c p n h a au w hc h2
  · rw [if_neg (show ¬ (1 : Int) < 1 by omega)]
    by_cases h2 : c < sideI a - 1
    · rw [if_pos h2, if_pos h2]; exact caft_o_l r c p a au w hc h2
    · rw [if_neg h2, if_neg h2]; exact caft_o_g r c p a au w hc h2
  · rw [if_pos (show (1 : Int) < 2 by omega)]
    by_cases h2 : c < sideI a - 2
    · rw [if_pos h2, if_pos h2]; exact caft_t_l r c p a au w hc h2
    · rw [if_neg h2, if_neg h2]; exact caft_t_g r c p a au w hc h2
  · rw [if_pos (show 1 < n by omega)]
    by_cases h2 : c < sideI a - 2
    · rw [if_pos h2, if_pos h2]; exact caft_m_l r c p n h a au w hc h2
    · rw [if_neg h2, if_neg h2]; exact caft_m_g r c p n h a au w hc h2
set_option maxRecDepth 100000 in
theorem raft_z_l (r c : Int) (p : Bool) (n : Int) (hn : n < 1) (a : Int) (au : Bool) (w : World) (hc : -9223372036854775808 ≤ c) (h2 : c < sideI a - 1) : Calls Tryz.prog 145 #[.agg #[.int .i64 r, .int .i64 c, .bool p], .int .i64 n, .int .i64 a, .bool au] w (Gives w (.agg #[.int .i64 r, .int .i64 (c + 1), .bool false])) := by
  have ka := sideI_bd a
  go_enter Tryz.func145, Tryz.ntmps145
  go_wp2_with fail
  obtain ⟨W, hW, hb, hr, hl⟩ := boxes w (Value.int .i64 r) (.int .i64 c) (.bool p)
  rw [← hW]
  have HB := Lib.hid hb
  have HR := Lib.hid hr
  have HL := Lib.hid hl
  have e1 := ext_cell (hb.cell 1 _ rfl)
  clear hb hr hl hW
  refine wp_region_ext (by kernel_rfl) (by kernel_rfl) ?_
  repeat (go_big_quiet_step ((go_at_call 163; exact callx_same (refside_any _ _))))
  refine wpQuiet_nil ?_
  intro _ hw'
  obtain ⟨u, hw''⟩ := hw'
  subst hw''
  obtain ⟨W2, hW2⟩ : ∃ W2, W2 = ext W u := ⟨_, rfl⟩
  rw [← hW2]
  have hb2 : Has W2 w.heap.size [Value.int .i64 r, .int .i64 c, .bool p] 24 := by rw [hW2]; exact HB.out.below u.ok HB.out.lt
  have hr2 : Has W2 (w.heap.size + 1) [Value.int .i64 0, .int .i64 0, .bool false] 24 := by rw [hW2]; exact HR.out.below u.ok HR.out.lt
  have hl2 : Below w.heap.size w W2 := by rw [hW2]; exact ext_below HL.out u
  clear hW2 HB HR HL e1
  have c0 := hb2.cell 0 _ rfl
  have c1 := hb2.cell 1 _ rfl
  have k0 := hr2.cell 0 _ rfl
  have k1 := hr2.cell 1 _ rfl
  have k2 := hr2.cell 2 _ rfl
  have g0 := hr2.free 0
  have g1 := hr2.free 1
  have g2 := hr2.free 2
  have hlt := hr2.lt
  have hbl := fun x y z => hl2.trans ((zero3 W2 (w.heap.size + 1) x y z).below (B' := w.heap.size) hl2.size (by omega))
  have HBL := Lib.hid hbl
  clear hb2 hr2 hl2 hbl
  go_wp2
  exact bodyPost_ret (v := .agg #[.int .i64 r, .int .i64 (c + 1), .bool false]) (by simp [results, Tryz.results145, go_sem, k0, k1, k2] <;> omega) rfl ⟨rfl, HBL.out _ _ _⟩
set_option maxRecDepth 100000 in
theorem raft_z_g (r c : Int) (p : Bool) (n : Int) (hn : n < 1) (a : Int) (au : Bool) (w : World) (hc : -9223372036854775808 ≤ c) (h2 : ¬ c < sideI a - 1) : Calls Tryz.prog 145 #[.agg #[.int .i64 r, .int .i64 c, .bool p], .int .i64 n, .int .i64 a, .bool au] w (Gives w (.agg #[.int .i64 r, .int .i64 (sideI a - 1), .bool au])) := by
  have ka := sideI_bd a
  go_enter Tryz.func145, Tryz.ntmps145
  go_wp2_with fail
  obtain ⟨W, hW, hb, hr, hl⟩ := boxes w (Value.int .i64 r) (.int .i64 c) (.bool p)
  rw [← hW]
  have HB := Lib.hid hb
  have HR := Lib.hid hr
  have HL := Lib.hid hl
  have e1 := ext_cell (hb.cell 1 _ rfl)
  clear hb hr hl hW
  refine wp_region_ext (by kernel_rfl) (by kernel_rfl) ?_
  repeat (go_big_quiet_step ((go_at_call 163; exact callx_same (refside_any _ _))))
  refine wpQuiet_nil ?_
  intro _ hw'
  obtain ⟨u, hw''⟩ := hw'
  subst hw''
  obtain ⟨W2, hW2⟩ : ∃ W2, W2 = ext W u := ⟨_, rfl⟩
  rw [← hW2]
  have hb2 : Has W2 w.heap.size [Value.int .i64 r, .int .i64 c, .bool p] 24 := by rw [hW2]; exact HB.out.below u.ok HB.out.lt
  have hr2 : Has W2 (w.heap.size + 1) [Value.int .i64 0, .int .i64 0, .bool false] 24 := by rw [hW2]; exact HR.out.below u.ok HR.out.lt
  have hl2 : Below w.heap.size w W2 := by rw [hW2]; exact ext_below HL.out u
  clear hW2 HB HR HL e1
  have c0 := hb2.cell 0 _ rfl
  have c1 := hb2.cell 1 _ rfl
  have k0 := hr2.cell 0 _ rfl
  have k1 := hr2.cell 1 _ rfl
  have k2 := hr2.cell 2 _ rfl
  have g0 := hr2.free 0
  have g1 := hr2.free 1
  have g2 := hr2.free 2
  have hlt := hr2.lt
  have e0 := ext_cell c0
  have l0 := ext_cell k0
  have l1 := ext_cell k1
  have l2 := ext_cell k2
  have f0 := ext_free (by simpa using hlt) g0
  have f1 := ext_free (by simpa using hlt) g1
  have f2 := ext_free (by simpa using hlt) g2
  have hbx := fun (u : Growth W2) x y z => three_below hl2 u x y z (w.heap.size + 1) (by omega)
  have HBX := Lib.hid hbx
  clear hb2 hr2 hl2 hbx
  go_wp2_with fail
  clear c0 c1 k0 k1 k2 g0 g1 g2
  refine wp_region_ext_tail 7 (by kernel_rfl) (by simp) (by kernel_rfl) (by kernel_rfl) (by kernel_rfl) (by kernel_rfl) (by kernel_rfl) ?_
  simp only [List.take_succ_cons, List.take_zero, List.drop_succ_cons, List.drop_zero]
  repeat (go_big_quiet_step ((go_at_call 163; exact callx_same (refside_any _ _))))
  refine wpQuiet_nil ?_
  intro _ hw'
  obtain ⟨u, hw''⟩ := hw'
  subst hw''
  go_wp2
  exact bodyPost_ret (v := .agg #[.int .i64 r, .int .i64 (sideI a - 1), .bool au]) (by simp [results, Tryz.results145, go_sem, l0, l1, l2]) rfl ⟨rfl, HBX.out _ _ _ _⟩
set_option maxRecDepth 100000 in
theorem raft_o_l (r c : Int) (p : Bool) (a : Int) (au : Bool) (w : World) (hc : -9223372036854775808 ≤ c) (h2 : c < sideI a - 1) : Calls Tryz.prog 145 #[.agg #[.int .i64 r, .int .i64 c, .bool p], .int .i64 1, .int .i64 a, .bool au] w (Gives w (.agg #[.int .i64 r, .int .i64 (c + 1), .bool false])) := by
  have ka := sideI_bd a
  go_enter Tryz.func145, Tryz.ntmps145
  go_wp2_with fail
  obtain ⟨W, hW, hb, hr, hl⟩ := boxes w (Value.int .i64 r) (.int .i64 c) (.bool p)
  rw [← hW]
  have HB := Lib.hid hb
  have HR := Lib.hid hr
  have HL := Lib.hid hl
  have e1 := ext_cell (hb.cell 1 _ rfl)
  clear hb hr hl hW
  refine wp_region_ext (by kernel_rfl) (by kernel_rfl) ?_
  repeat (go_big_quiet_step ((go_at_call 163; exact callx_same (refside_any _ _))))
  refine wpQuiet_nil ?_
  intro _ hw'
  obtain ⟨u, hw''⟩ := hw'
  subst hw''
  obtain ⟨W2, hW2⟩ : ∃ W2, W2 = ext W u := ⟨_, rfl⟩
  rw [← hW2]
  have hb2 : Has W2 w.heap.size [Value.int .i64 r, .int .i64 c, .bool p] 24 := by rw [hW2]; exact HB.out.below u.ok HB.out.lt
  have hr2 : Has W2 (w.heap.size + 1) [Value.int .i64 0, .int .i64 0, .bool false] 24 := by rw [hW2]; exact HR.out.below u.ok HR.out.lt
  have hl2 : Below w.heap.size w W2 := by rw [hW2]; exact ext_below HL.out u
  clear hW2 HB HR HL e1
  have c0 := hb2.cell 0 _ rfl
  have c1 := hb2.cell 1 _ rfl
  have k0 := hr2.cell 0 _ rfl
  have k1 := hr2.cell 1 _ rfl
  have k2 := hr2.cell 2 _ rfl
  have g0 := hr2.free 0
  have g1 := hr2.free 1
  have g2 := hr2.free 2
  have hlt := hr2.lt
  have hbl := fun x y z => hl2.trans ((zero3 W2 (w.heap.size + 1) x y z).below (B' := w.heap.size) hl2.size (by omega))
  have HBL := Lib.hid hbl
  clear hb2 hr2 hl2 hbl
  go_wp2
  exact bodyPost_ret (v := .agg #[.int .i64 r, .int .i64 (c + 1), .bool false]) (by simp [results, Tryz.results145, go_sem, k0, k1, k2] <;> omega) rfl ⟨rfl, HBL.out _ _ _⟩
set_option maxRecDepth 100000 in
theorem raft_o_g (r c : Int) (p : Bool) (a : Int) (au : Bool) (w : World) (hc : -9223372036854775808 ≤ c) (h2 : ¬ c < sideI a - 1) : Calls Tryz.prog 145 #[.agg #[.int .i64 r, .int .i64 c, .bool p], .int .i64 1, .int .i64 a, .bool au] w (Gives w (.agg #[.int .i64 r, .int .i64 (sideI a - 1), .bool au])) := by
  have ka := sideI_bd a
  go_enter Tryz.func145, Tryz.ntmps145
  go_wp2_with fail
  obtain ⟨W, hW, hb, hr, hl⟩ := boxes w (Value.int .i64 r) (.int .i64 c) (.bool p)
  rw [← hW]
  have HB := Lib.hid hb
  have HR := Lib.hid hr
  have HL := Lib.hid hl
  have e1 := ext_cell (hb.cell 1 _ rfl)
  clear hb hr hl hW
  refine wp_region_ext (by kernel_rfl) (by kernel_rfl) ?_
  repeat (go_big_quiet_step ((go_at_call 163; exact callx_same (refside_any _ _))))
  refine wpQuiet_nil ?_
  intro _ hw'
  obtain ⟨u, hw''⟩ := hw'
  subst hw''
  obtain ⟨W2, hW2⟩ : ∃ W2, W2 = ext W u := ⟨_, rfl⟩
  rw [← hW2]
  have hb2 : Has W2 w.heap.size [Value.int .i64 r, .int .i64 c, .bool p] 24 := by rw [hW2]; exact HB.out.below u.ok HB.out.lt
  have hr2 : Has W2 (w.heap.size + 1) [Value.int .i64 0, .int .i64 0, .bool false] 24 := by rw [hW2]; exact HR.out.below u.ok HR.out.lt
  have hl2 : Below w.heap.size w W2 := by rw [hW2]; exact ext_below HL.out u
  clear hW2 HB HR HL e1
  have c0 := hb2.cell 0 _ rfl
  have c1 := hb2.cell 1 _ rfl
  have k0 := hr2.cell 0 _ rfl
  have k1 := hr2.cell 1 _ rfl
  have k2 := hr2.cell 2 _ rfl
  have g0 := hr2.free 0
  have g1 := hr2.free 1
  have g2 := hr2.free 2
  have hlt := hr2.lt
  have e0 := ext_cell c0
  have l0 := ext_cell k0
  have l1 := ext_cell k1
  have l2 := ext_cell k2
  have f0 := ext_free (by simpa using hlt) g0
  have f1 := ext_free (by simpa using hlt) g1
  have f2 := ext_free (by simpa using hlt) g2
  have hbx := fun (u : Growth W2) x y z => three_below hl2 u x y z (w.heap.size + 1) (by omega)
  have HBX := Lib.hid hbx
  clear hb2 hr2 hl2 hbx
  go_wp2_with fail
  clear c0 c1 k0 k1 k2 g0 g1 g2
  refine wp_region_ext_tail 7 (by kernel_rfl) (by simp) (by kernel_rfl) (by kernel_rfl) (by kernel_rfl) (by kernel_rfl) (by kernel_rfl) ?_
  simp only [List.take_succ_cons, List.take_zero, List.drop_succ_cons, List.drop_zero]
  repeat (go_big_quiet_step ((go_at_call 163; exact callx_same (refside_any _ _))))
  refine wpQuiet_nil ?_
  intro _ hw'
  obtain ⟨u, hw''⟩ := hw'
  subst hw''
  go_wp2
  exact bodyPost_ret (v := .agg #[.int .i64 r, .int .i64 (sideI a - 1), .bool au]) (by simp [results, Tryz.results145, go_sem, l0, l1, l2]) rfl ⟨rfl, HBX.out _ _ _ _⟩
set_option maxRecDepth 100000 in
theorem raft_t_l (r c : Int) (p : Bool) (a : Int) (au : Bool) (w : World) (hc : -9223372036854775808 ≤ c) (h2 : c < sideI a - 2) : Calls Tryz.prog 145 #[.agg #[.int .i64 r, .int .i64 c, .bool p], .int .i64 2, .int .i64 a, .bool au] w (Gives w (.agg #[.int .i64 r, .int .i64 (c + 2), .bool false])) := by
  have ka := sideI_bd a
  go_enter Tryz.func145, Tryz.ntmps145
  go_wp2_with fail
  obtain ⟨W, hW, hb, hr, hl⟩ := boxes w (Value.int .i64 r) (.int .i64 c) (.bool p)
  rw [← hW]
  have HB := Lib.hid hb
  have HR := Lib.hid hr
  have HL := Lib.hid hl
  have e1 := ext_cell (hb.cell 1 _ rfl)
  clear hb hr hl hW
  refine wp_region_ext (by kernel_rfl) (by kernel_rfl) ?_
  repeat (go_big_quiet_step ((go_at_call 163; exact callx_same (refside_any _ _))))
  refine wpQuiet_nil ?_
  intro _ hw'
  obtain ⟨u, hw''⟩ := hw'
  subst hw''
  obtain ⟨W2, hW2⟩ : ∃ W2, W2 = ext W u := ⟨_, rfl⟩
  rw [← hW2]
  have hb2 : Has W2 w.heap.size [Value.int .i64 r, .int .i64 c, .bool p] 24 := by rw [hW2]; exact HB.out.below u.ok HB.out.lt
  have hr2 : Has W2 (w.heap.size + 1) [Value.int .i64 0, .int .i64 0, .bool false] 24 := by rw [hW2]; exact HR.out.below u.ok HR.out.lt
  have hl2 : Below w.heap.size w W2 := by rw [hW2]; exact ext_below HL.out u
  clear hW2 HB HR HL e1
  have c0 := hb2.cell 0 _ rfl
  have c1 := hb2.cell 1 _ rfl
  have k0 := hr2.cell 0 _ rfl
  have k1 := hr2.cell 1 _ rfl
  have k2 := hr2.cell 2 _ rfl
  have g0 := hr2.free 0
  have g1 := hr2.free 1
  have g2 := hr2.free 2
  have hlt := hr2.lt
  have hbl := fun x y z => hl2.trans ((zero3 W2 (w.heap.size + 1) x y z).below (B' := w.heap.size) hl2.size (by omega))
  have HBL := Lib.hid hbl
  clear hb2 hr2 hl2 hbl
  go_wp2
  exact bodyPost_ret (v := .agg #[.int .i64 r, .int .i64 (c + 2), .bool false]) (by simp [results, Tryz.results145, go_sem, k0, k1, k2] <;> omega) rfl ⟨rfl, HBL.out _ _ _⟩
set_option maxRecDepth 100000 in
theorem raft_t_g (r c : Int) (p : Bool) (a : Int) (au : Bool) (w : World) (hc : -9223372036854775808 ≤ c) (h2 : ¬ c < sideI a - 2) : Calls Tryz.prog 145 #[.agg #[.int .i64 r, .int .i64 c, .bool p], .int .i64 2, .int .i64 a, .bool au] w (Gives w (.agg #[.int .i64 r, .int .i64 (sideI a - 1), .bool au])) := by
  have ka := sideI_bd a
  go_enter Tryz.func145, Tryz.ntmps145
  go_wp2_with fail
  obtain ⟨W, hW, hb, hr, hl⟩ := boxes w (Value.int .i64 r) (.int .i64 c) (.bool p)
  rw [← hW]
  have HB := Lib.hid hb
  have HR := Lib.hid hr
  have HL := Lib.hid hl
  have e1 := ext_cell (hb.cell 1 _ rfl)
  clear hb hr hl hW
  refine wp_region_ext (by kernel_rfl) (by kernel_rfl) ?_
  repeat (go_big_quiet_step ((go_at_call 163; exact callx_same (refside_any _ _))))
  refine wpQuiet_nil ?_
  intro _ hw'
  obtain ⟨u, hw''⟩ := hw'
  subst hw''
  obtain ⟨W2, hW2⟩ : ∃ W2, W2 = ext W u := ⟨_, rfl⟩
  rw [← hW2]
  have hb2 : Has W2 w.heap.size [Value.int .i64 r, .int .i64 c, .bool p] 24 := by rw [hW2]; exact HB.out.below u.ok HB.out.lt
  have hr2 : Has W2 (w.heap.size + 1) [Value.int .i64 0, .int .i64 0, .bool false] 24 := by rw [hW2]; exact HR.out.below u.ok HR.out.lt
  have hl2 : Below w.heap.size w W2 := by rw [hW2]; exact ext_below HL.out u
  clear hW2 HB HR HL e1
  have c0 := hb2.cell 0 _ rfl
  have c1 := hb2.cell 1 _ rfl
  have k0 := hr2.cell 0 _ rfl
  have k1 := hr2.cell 1 _ rfl
  have k2 := hr2.cell 2 _ rfl
  have g0 := hr2.free 0
  have g1 := hr2.free 1
  have g2 := hr2.free 2
  have hlt := hr2.lt
  have e0 := ext_cell c0
  have l0 := ext_cell k0
  have l1 := ext_cell k1
  have l2 := ext_cell k2
  have f0 := ext_free (by simpa using hlt) g0
  have f1 := ext_free (by simpa using hlt) g1
  have f2 := ext_free (by simpa using hlt) g2
  have hbx := fun (u : Growth W2) x y z => three_below hl2 u x y z (w.heap.size + 1) (by omega)
  have HBX := Lib.hid hbx
  clear hb2 hr2 hl2 hbx
  go_wp2_with fail
  clear c0 c1 k0 k1 k2 g0 g1 g2
  refine wp_region_ext_tail 7 (by kernel_rfl) (by simp) (by kernel_rfl) (by kernel_rfl) (by kernel_rfl) (by kernel_rfl) (by kernel_rfl) ?_
  simp only [List.take_succ_cons, List.take_zero, List.drop_succ_cons, List.drop_zero]
  repeat (go_big_quiet_step ((go_at_call 163; exact callx_same (refside_any _ _))))
  refine wpQuiet_nil ?_
  intro _ hw'
  obtain ⟨u, hw''⟩ := hw'
  subst hw''
  go_wp2
  exact bodyPost_ret (v := .agg #[.int .i64 r, .int .i64 (sideI a - 1), .bool au]) (by simp [results, Tryz.results145, go_sem, l0, l1, l2]) rfl ⟨rfl, HBX.out _ _ _ _⟩
set_option maxRecDepth 100000 in
theorem raft_m_l (r c : Int) (p : Bool) (n : Int) (hn : 2 < n) (a : Int) (au : Bool) (w : World) (hc : -9223372036854775808 ≤ c) (h2 : c < sideI a - 2) : Calls Tryz.prog 145 #[.agg #[.int .i64 r, .int .i64 c, .bool p], .int .i64 n, .int .i64 a, .bool au] w (Gives w (.agg #[.int .i64 r, .int .i64 (c + 2), .bool false])) := by
  have ka := sideI_bd a
  go_enter Tryz.func145, Tryz.ntmps145
  go_wp2_with fail
  obtain ⟨W, hW, hb, hr, hl⟩ := boxes w (Value.int .i64 r) (.int .i64 c) (.bool p)
  rw [← hW]
  have HB := Lib.hid hb
  have HR := Lib.hid hr
  have HL := Lib.hid hl
  have e1 := ext_cell (hb.cell 1 _ rfl)
  clear hb hr hl hW
  refine wp_region_ext (by kernel_rfl) (by kernel_rfl) ?_
  repeat (go_big_quiet_step ((go_at_call 163; exact callx_same (refside_any _ _))))
  refine wpQuiet_nil ?_
  intro _ hw'
  obtain ⟨u, hw''⟩ := hw'
  subst hw''
  obtain ⟨W2, hW2⟩ : ∃ W2, W2 = ext W u := ⟨_, rfl⟩
  rw [← hW2]
  have hb2 : Has W2 w.heap.size [Value.int .i64 r, .int .i64 c, .bool p] 24 := by rw [hW2]; exact HB.out.below u.ok HB.out.lt
  have hr2 : Has W2 (w.heap.size + 1) [Value.int .i64 0, .int .i64 0, .bool false] 24 := by rw [hW2]; exact HR.out.below u.ok HR.out.lt
  have hl2 : Below w.heap.size w W2 := by rw [hW2]; exact ext_below HL.out u
  clear hW2 HB HR HL e1
  have c0 := hb2.cell 0 _ rfl
  have c1 := hb2.cell 1 _ rfl
  have k0 := hr2.cell 0 _ rfl
  have k1 := hr2.cell 1 _ rfl
  have k2 := hr2.cell 2 _ rfl
  have g0 := hr2.free 0
  have g1 := hr2.free 1
  have g2 := hr2.free 2
  have hlt := hr2.lt
  have hbl := fun x y z => hl2.trans ((zero3 W2 (w.heap.size + 1) x y z).below (B' := w.heap.size) hl2.size (by omega))
  have HBL := Lib.hid hbl
  clear hb2 hr2 hl2 hbl
  go_wp2
  exact bodyPost_ret (v := .agg #[.int .i64 r, .int .i64 (c + 2), .bool false]) (by simp [results, Tryz.results145, go_sem, k0, k1, k2] <;> omega) rfl ⟨rfl, HBL.out _ _ _⟩
set_option maxRecDepth 100000 in
theorem raft_m_g (r c : Int) (p : Bool) (n : Int) (hn : 2 < n) (a : Int) (au : Bool) (w : World) (hc : -9223372036854775808 ≤ c) (h2 : ¬ c < sideI a - 2) : Calls Tryz.prog 145 #[.agg #[.int .i64 r, .int .i64 c, .bool p], .int .i64 n, .int .i64 a, .bool au] w (Gives w (.agg #[.int .i64 r, .int .i64 (sideI a - 1), .bool au])) := by
  have ka := sideI_bd a
  go_enter Tryz.func145, Tryz.ntmps145
  go_wp2_with fail
  obtain ⟨W, hW, hb, hr, hl⟩ := boxes w (Value.int .i64 r) (.int .i64 c) (.bool p)
  rw [← hW]
  have HB := Lib.hid hb
  have HR := Lib.hid hr
  have HL := Lib.hid hl
  have e1 := ext_cell (hb.cell 1 _ rfl)
  clear hb hr hl hW
  refine wp_region_ext (by kernel_rfl) (by kernel_rfl) ?_
  repeat (go_big_quiet_step ((go_at_call 163; exact callx_same (refside_any _ _))))
  refine wpQuiet_nil ?_
  intro _ hw'
  obtain ⟨u, hw''⟩ := hw'
  subst hw''
  obtain ⟨W2, hW2⟩ : ∃ W2, W2 = ext W u := ⟨_, rfl⟩
  rw [← hW2]
  have hb2 : Has W2 w.heap.size [Value.int .i64 r, .int .i64 c, .bool p] 24 := by rw [hW2]; exact HB.out.below u.ok HB.out.lt
  have hr2 : Has W2 (w.heap.size + 1) [Value.int .i64 0, .int .i64 0, .bool false] 24 := by rw [hW2]; exact HR.out.below u.ok HR.out.lt
  have hl2 : Below w.heap.size w W2 := by rw [hW2]; exact ext_below HL.out u
  clear hW2 HB HR HL e1
  have c0 := hb2.cell 0 _ rfl
  have c1 := hb2.cell 1 _ rfl
  have k0 := hr2.cell 0 _ rfl
  have k1 := hr2.cell 1 _ rfl
  have k2 := hr2.cell 2 _ rfl
  have g0 := hr2.free 0
  have g1 := hr2.free 1
  have g2 := hr2.free 2
  have hlt := hr2.lt
  have e0 := ext_cell c0
  have l0 := ext_cell k0
  have l1 := ext_cell k1
  have l2 := ext_cell k2
  have f0 := ext_free (by simpa using hlt) g0
  have f1 := ext_free (by simpa using hlt) g1
  have f2 := ext_free (by simpa using hlt) g2
  have hbx := fun (u : Growth W2) x y z => three_below hl2 u x y z (w.heap.size + 1) (by omega)
  have HBX := Lib.hid hbx
  clear hb2 hr2 hl2 hbx
  go_wp2_with fail
  clear c0 c1 k0 k1 k2 g0 g1 g2
  refine wp_region_ext_tail 7 (by kernel_rfl) (by simp) (by kernel_rfl) (by kernel_rfl) (by kernel_rfl) (by kernel_rfl) (by kernel_rfl) ?_
  simp only [List.take_succ_cons, List.take_zero, List.drop_succ_cons, List.drop_zero]
  repeat (go_big_quiet_step ((go_at_call 163; exact callx_same (refside_any _ _))))
  refine wpQuiet_nil ?_
  intro _ hw'
  obtain ⟨u, hw''⟩ := hw'
  subst hw''
  go_wp2
  exact bodyPost_ret (v := .agg #[.int .i64 r, .int .i64 (sideI a - 1), .bool au]) (by simp [results, Tryz.results145, go_sem, l0, l1, l2]) rfl ⟨rfl, HBX.out _ _ _ _⟩
theorem rafter_any (r c : Int) (p : Bool) (n a : Int) (au : Bool) (w : World) (hc : -9223372036854775808 ≤ c) : Calls Tryz.prog 145 #[.agg #[.int .i64 r, .int .i64 c, .bool p], .int .i64 n, .int .i64 a, .bool au] w (Gives w (.agg #[.int .i64 r, .int .i64 (aftC c n a), .bool (aftP c n a au)])) := by
  unfold aftC aftP stepI
  rcases (by omega : n < 1 ∨ n = 1 ∨ n = 2 ∨ 2 < n) with h | rfl | rfl | h
  · rw [if_neg (show ¬ 1 < n by omega)]
    by_cases h2 : c < sideI a - 1
    · rw [if_pos h2, if_pos h2]; exact raft_z_l r c p n h a au w hc h2
    · rw [if_neg h2, if_neg h2]; exact raft_z_g r c p n h a au w hc h2
  · rw [if_neg (show ¬ (1 : Int) < 1 by omega)]
    by_cases h2 : c < sideI a - 1
    · rw [if_pos h2, if_pos h2]; exact raft_o_l r c p a au w hc h2
    · rw [if_neg h2, if_neg h2]; exact raft_o_g r c p a au w hc h2
  · rw [if_pos (show (1 : Int) < 2 by omega)]
    by_cases h2 : c < sideI a - 2
    · rw [if_pos h2, if_pos h2]; exact raft_t_l r c p a au w hc h2
    · rw [if_neg h2, if_neg h2]; exact raft_t_g r c p a au w hc h2
  · rw [if_pos (show 1 < n by omega)]
    by_cases h2 : c < sideI a - 2
    · rw [if_pos h2, if_pos h2]; exact raft_m_l r c p n h a au w hc h2
    · rw [if_neg h2, if_neg h2]; exact raft_m_g r c p n h a au w hc h2
end Go.Proofs.YtoeggiplcaegoaaGreatDoor
