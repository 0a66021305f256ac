/- cursor.Return, Back, Down; a pen's hold, down, goOn. -/
import Derived.Test.YtoeggiplcaegoaaGreatDoorMg8
import Derived.Test.YtoeggiplcaegoaaGreatDoorCursorE
import Derived.Test.YtoeggiplcaegoaaGreatDoorMg1
namespace Go.Proofs.YtoeggiplcaegoaaGreatDoor
open Go.RowKit Go.ChangeShapes Go.WideShapes
variable {Yo : Zone}
theorem boxes2 (w : World) (a0 a1 a2 b0 b1 b2 : Value) : ∃ W, W = (w.alloc (.cells #[a0, a1, a2] 24)).alloc (.cells #[b0, b1, b2] 24) ∧
    Has W w.heap.size [a0, a1, a2] 24 ∧ Has W (w.heap.size + 1) [b0, b1, b2] 24 ∧ Below w.heap.size w W := by
  refine ⟨_, rfl, (Has.new w _ _).alloc _, ?_, ((Below.refl _ _).alloc (Nat.le_refl _) _).alloc (by simp) _⟩
  have := Has.new (w.alloc (.cells #[a0, a1, a2] 24)) [b0, b1, b2] 24
  simpa using this
set_option maxRecDepth 100000 in
theorem cret_any (r c : Int) (p : Bool) (w : World) : Calls Tryz.prog 185 #[.agg #[.int .i64 r, .int .i64 c, .bool p]] w (Gives w (.agg #[.int .i64 r, .int .i64 0, .bool false])) := by
  go_enter Tryz.func185, Tryz.ntmps185
  go_wp2_with fail
  obtain ⟨W, hW, hb, hr, hl⟩ := boxes2 w (Value.int .i64 r) (.int .i64 c) (.bool p) (Value.int .i64 r) (.int .i64 0) (.bool false)
  rw [← hW]
  have k0 := hr.cell 0 _ rfl
  have k1 := hr.cell 1 _ rfl
  have k2 := hr.cell 2 _ rfl
  exact bodyPost_ret (v := .agg #[.int .i64 r, .int .i64 0, .bool false]) (by simp [results, Tryz.results185, go_sem, k0, k1, k2]) rfl ⟨rfl, hl⟩
/-- A cursor's box that was turned, beside the result's. -/
theorem cur_turn {w W : World} {g : Nat} {a b c x y z : Value} (h : Has W g [a, b, c] 24) (k : Has W (g + 1) [x, y, z] 24) (hb : Below w.heap.size w W) (hg : w.heap.size ≤ g) (i : Nat) (v : Value) : ∃ W', W' = W.setCell ⟨g, i, none⟩ v ∧ Has W' g ([a, b, c].set i v) 24 ∧ Has W' (g + 1) [x, y, z] 24 ∧ Below w.heap.size w W' :=
  ⟨_, rfl, h.set i v, k.setOther _ _ (by show g + 1 ≠ g; omega), hb.trans (((Upd.refl (fun b => w.heap.size ≤ b) W).setCell (p := ⟨g, i, none⟩) (.inl hg) v).below hb.size fun _ e => e)⟩
set_option maxRecDepth 100000 in
theorem cback_any (r : Int) (c : Nat) (p : Bool) (w : World) (hc : c ≤ 2000) : Calls Tryz.prog 187 #[.agg #[.int .i64 r, .int .i64 ((c : Int) + 1), .bool p]] w (Gives w (.agg #[.int .i64 r, .int .i64 (c : Int), .bool false])) := by
  have hd : decide ((0 : Int) < (c : Int) + 1) = true := by rw [decide_eq_true_eq]; omega
  obtain ⟨d, hd0⟩ : ∃ d : Int, d = (c : Int) + 1 := ⟨_, rfl⟩
  have hw : IntKind.i64.wrap (d - 1) = (c : Int) := by rw [hd0, IntKind.wrap_i64]; omega
  rw [← hd0] at hd ⊢
  clear hd0
  go_enter Tryz.func187, Tryz.ntmps187
  go_wp2_with fail
  obtain ⟨W, hW, hb, hr, hl⟩ := boxes2 w (Value.int .i64 r) (.int .i64 (c : Int)) (.bool false) (Value.int .i64 r) (.int .i64 (c : Int)) (.bool false)
  rw [← hW]
  have k0 := hr.cell 0 _ rfl
  have k1 := hr.cell 1 _ rfl
  have k2 := hr.cell 2 _ rfl
  exact bodyPost_ret (v := .agg #[.int .i64 r, .int .i64 (c : Int), .bool false]) (by simp [results, Tryz.results187, go_sem, k0, k1, k2]) rfl ⟨rfl, hl⟩
set_option maxRecDepth 100000 in
theorem cdown_end (r c : Int) (p : Bool) (n : Nat) (w : World) (h1 : 1 ≤ n) (h2 : n ≤ 1024) (hr : (n : Int) - 1 ≤ r) : Calls Tryz.prog 235 #[.agg #[.int .i64 r, .int .i64 c, .bool p], .int .i64 n] w (Gives w (.tuple #[.agg #[.int .i64 r, .int .i64 c, .bool false], .bool true])) := by
  have hsi : sideI n = (n : Int) := by unfold sideI; omega
  obtain ⟨s, hs⟩ : ∃ s : Int, s = (n : Int) := ⟨_, rfl⟩
  have HSD := Lib.hid (fun w => show Calls Tryz.prog 180 #[.int .i64 n] w (fun e w' => e = .returned (.int .i64 s) ∧ w = w') from by have h := cside_any (n : Int) w; rw [hsi] at h; rw [hs]; exact h)
  have hd : decide (s - 1 ≤ r) = true := by rw [decide_eq_true_eq]; omega
  have hw : IntKind.i64.wrap (s - 1) = s - 1 := by rw [IntKind.wrap_i64]; omega
  clear hsi hs
  go_enter Tryz.func235, Tryz.ntmps235
  go_wp2_with fail
  obtain ⟨W, hW, hb, hq, hl⟩ := boxes2 w (Value.int .i64 r) (.int .i64 c) (.bool false) (Value.int .i64 0) (.int .i64 0) (.bool false)
  rw [← hW]
  clear hW
  have e0 := ext_cell (hb.cell 0 _ rfl)
  have HB := Lib.hid hb
  have HQ := Lib.hid hq
  have HL := Lib.hid hl
  clear hb hq hl
  refine wp_region_ext (by kernel_rfl) (by kernel_rfl) ?_
  repeat (go_big_quiet_step ((go_at_call 180; exact callx_same (HSD.out _))))
  refine wpQuiet_nil ?_
  intro _ hw'
  obtain ⟨u, hw''⟩ := hw'
  subst hw''
  obtain ⟨W2, hW2⟩ : ∃ W2, W2 = ext W u := ⟨_, rfl⟩
  rw [← hW2]
  have hb1 : Has W2 w.heap.size [Value.int .i64 r, .int .i64 c, .bool false] 24 := by rw [hW2]; exact HB.out.below u.ok HB.out.lt
  have hr1 : Has W2 (w.heap.size + 1) [Value.int .i64 0, .int .i64 0, .bool false] 24 := by rw [hW2]; exact HQ.out.below u.ok HQ.out.lt
  have hl1 : Below w.heap.size w W2 := by rw [hW2]; exact ext_below HL.out u
  clear hW2 HB HQ HL e0
  have c0 := hb1.cell 0 _ rfl
  have c1 := hb1.cell 1 _ rfl
  have c2 := hb1.cell 2 _ rfl
  have k0 := hr1.cell 0 _ rfl
  have k1 := hr1.cell 1 _ rfl
  have k2 := hr1.cell 2 _ rfl
  have g0 := hr1.free 0
  have g1 := hr1.free 1
  have g2 := hr1.free 2
  have hlt := hr1.lt
  have hbl := fun x y z => hl1.trans ((zero3 W2 (w.heap.size + 1) x y z).below (B' := w.heap.size) hl1.size (by omega))
  have HBL := Lib.hid hbl
  clear hb1 hr1 hl1 hbl
  go_wp2
  exact bodyPost_ret (v := .tuple #[.agg #[.int .i64 r, .int .i64 c, .bool false], .bool true]) (by simp [results, Tryz.results235, go_sem, k0, k1, k2]) rfl ⟨rfl, HBL.out _ _ _⟩
set_option maxRecDepth 100000 in
theorem cdown_more (r c : Int) (p : Bool) (n : Nat) (w : World) (h1 : 1 ≤ n) (h2 : n ≤ 1024) (hr : r < (n : Int) - 1) (h0 : 0 ≤ r) : Calls Tryz.prog 235 #[.agg #[.int .i64 r, .int .i64 c, .bool p], .int .i64 n] w (Gives w (.tuple #[.agg #[.int .i64 (r + 1), .int .i64 c, .bool false], .bool false])) := by
  have hsi : sideI n = (n : Int) := by unfold sideI; omega
  obtain ⟨s, hs⟩ : ∃ s : Int, s = (n : Int) := ⟨_, rfl⟩
  have HSD := Lib.hid (fun w => show Calls Tryz.prog 180 #[.int .i64 n] w (fun e w' => e = .returned (.int .i64 s) ∧ w = w') from by have h := cside_any (n : Int) w; rw [hsi] at h; rw [hs]; exact h)
  have hd : decide (s - 1 ≤ r) = false := by rw [decide_eq_false_iff_not]; omega
  have hw : IntKind.i64.wrap (s - 1) = s - 1 := by rw [IntKind.wrap_i64]; omega
  obtain ⟨d, hde⟩ : ∃ d : Int, d = r + 1 := ⟨_, rfl⟩
  have hwr : IntKind.i64.wrap (r + 1) = d := by rw [IntKind.wrap_i64]; omega
  rw [← hde]
  clear hde
  clear hsi hs
  go_enter Tryz.func235, Tryz.ntmps235
  go_wp2_with fail
  obtain ⟨W, hW, hb, hq, hl⟩ := boxes2 w (Value.int .i64 r) (.int .i64 c) (.bool false) (Value.int .i64 0) (.int .i64 0) (.bool false)
  rw [← hW]
  clear hW
  have e0 := ext_cell (hb.cell 0 _ rfl)
  have HB := Lib.hid hb
  have HQ := Lib.hid hq
  have HL := Lib.hid hl
  clear hb hq hl
  refine wp_region_ext (by kernel_rfl) (by kernel_rfl) ?_
  repeat (go_big_quiet_step ((go_at_call 180; exact callx_same (HSD.out _))))
  refine wpQuiet_nil ?_
  intro _ hw'
  obtain ⟨u, hw''⟩ := hw'
  subst hw''
  obtain ⟨W2, hW2⟩ : ∃ W2, W2 = ext W u := ⟨_, rfl⟩
  rw [← hW2]
  have hb1 : Has W2 w.heap.size [Value.int .i64 r, .int .i64 c, .bool false] 24 := by rw [hW2]; exact HB.out.below u.ok HB.out.lt
  have hr1 : Has W2 (w.heap.size + 1) [Value.int .i64 0, .int .i64 0, .bool false] 24 := by rw [hW2]; exact HQ.out.below u.ok HQ.out.lt
  have hl1 : Below w.heap.size w W2 := by rw [hW2]; exact ext_below HL.out u
  clear hW2 HB HQ HL e0
  have q0 := hb1.cell 0 _ rfl
  have f0 := hb1.free 0
  go_upto_region 5 with (fail)
  obtain ⟨W3, hW3, hb3, hr3, hl3⟩ := cur_turn hb1 hr1 hl1 (Nat.le_refl _) 0 (.int .i64 d)
  rw [← hW3]
  clear hW3 hb1 hr1 hl1 q0 f0
  have c0 := hb3.cell 0 _ rfl
  have c1 := hb3.cell 1 _ rfl
  have c2 := hb3.cell 2 _ rfl
  have k0 := hr3.cell 0 _ rfl
  have k1 := hr3.cell 1 _ rfl
  have k2 := hr3.cell 2 _ rfl
  have g0 := hr3.free 0
  have g1 := hr3.free 1
  have g2 := hr3.free 2
  have hlt := hr3.lt
  have hbl := fun x y z => hl3.trans ((zero3 W3 (w.heap.size + 1) x y z).below (B' := w.heap.size) hl3.size (by omega))
  have HBL := Lib.hid hbl
  clear hb3 hr3 hl3 hbl
  go_wp2
  exact bodyPost_ret (v := .tuple #[.agg #[.int .i64 d, .int .i64 c, .bool false], .bool false]) (by simp [results, Tryz.results235, go_sem, k0, k1, k2]) rfl ⟨rfl, HBL.out _ _ _⟩
/-- A pen's cursor was written. -/
theorem pen_set3 {w : World} {g : Nat} {p a b c d : Value} (h : Has w g [p, a, b, c, d] 42) (x y z : Value) : Has (((w.setCell ⟨g, 1, none⟩ x).setCell ⟨g, 2, none⟩ y).setCell ⟨g, 3, none⟩ z) g [p, x, y, z, d] 42 ∧ Upd (fun b => b = g) w (((w.setCell ⟨g, 1, none⟩ x).setCell ⟨g, 2, none⟩ y).setCell ⟨g, 3, none⟩ z) :=
  ⟨((h.set 1 x).set 2 y).set 3 z, (((Upd.refl (fun b => b = g) w).setCell (p := ⟨g, 1, none⟩) (.inl rfl) x).setCell (p := ⟨g, 2, none⟩) (.inl rfl) y).setCell (p := ⟨g, 3, none⟩) (.inl rfl) z⟩
/-- The pen turned its own cursor, behind what made memory alone. -/
theorem PDoY.cur {w W : World} {B gp gg gr wd : Nat} {Rs : List Rw} {Ls : List Ln} {r c : Int} {pd au : Bool} (h : PenY Yo w B gp gg gr wd Rs Ls r c pd au) (hb : Below w.heap.size w W) (r' c' : Int) (pd' : Bool) : PDoY Yo w B gp gg gr wd Rs Ls r' c' pd' au (((W.setCell ⟨gp, 1, none⟩ (.int .i64 r')).setCell ⟨gp, 2, none⟩ (.int .i64 c')).setCell ⟨gp, 3, none⟩ (.bool pd')) := by
  have h1 := h.below hb
  have h2 := pen_set3 h1.1 (.int .i64 r') (.int .i64 c') (.bool pd')
  exact PDoY.trans (.ofBelow hb) (RowsFrom.self _ _) (PDoY.turn h1 h2.1 h2.2)
set_option maxRecDepth 100000 in
theorem phold_any (B gp gg gr wd : Nat) (Rs : List Rw) (Ls : List Ln) (r c : Int) (pd au : Bool) (w : World) (h : PenY Yo w B gp gg gr wd Rs Ls r c pd au) : Calls Tryz.prog 112 #[.pointer (some ⟨gp, 0, none⟩)] w (fun e w' => e = .returned (.bool true) ∧ PDoY Yo w B gp gg gr wd Rs Ls (inI r (sideI Ls.length)) (inI c (sideI wd)) (holdP c pd wd) au w') := by
  have hl := h.lt
  have hrl := h.sizes.2.2.2.2.1
  have c0 := h.1.cell 0 _ rfl
  have e0 := ext_cell c0
  have e1 := ext_cell (h.1.cell 1 _ rfl)
  have e2 := ext_cell (h.1.cell 2 _ rfl)
  have e3 := ext_cell (h.1.cell 3 _ rfl)
  have f1 := ext_free (a := ⟨gp, 1, none⟩) hl (h.1.free 1)
  have f2 := ext_free (a := ⟨gp, 2, none⟩) hl (h.1.free 2)
  have f3 := ext_free (a := ⟨gp, 3, none⟩) hl (h.1.free 3)
  have HG := Lib.hid (show ∀ u : Growth w, GridY Yo (ext w u) B gg gr wd Rs from fun u => h.2.2.1.below u.ok)
  have H := Lib.hid h
  rw [← hrl]
  clear h hrl
  go_enter Tryz.func112, Tryz.ntmps112
  go_wp2_with fail
  refine wp_region_ext_tail 18 (by kernel_rfl) (by simp) (by kernel_rfl) (by kernel_rfl) (by kernel_rfl) (by kernel_rfl) (by kernel_rfl) ?_
  simp only [List.take_succ_cons, List.take_zero, List.drop_succ_cons, List.drop_zero]
  repeat (go_big_quiet_step ((first | (go_at_call 106; exact callx_same (gwide_any B gg gr wd Rs _ (HG.out _))) | (go_at_call 95; exact callx_same (ghigh_any B gg gr wd Rs _ (HG.out _))) | (go_at_call 108; exact callx (chold_any r c pd wd Rs.length _)))))
  refine wpQuiet_nil ?_
  intro _ hw'
  obtain ⟨u, hw''⟩ := hw'
  subst hw''
  have HF := Lib.hid (PDoY.cur H.out u.ok (inI r (sideI Rs.length)) (inI c (sideI wd)) (holdP c pd wd))
  go_wp2
  go_ret
  exact ⟨(ret_eq (by first | rfl | (simp <;> omega))), HF.out⟩
theorem down_more {Ls : List Ln} {r : Nat} (h : r + 1 < Ls.length) : downL Ls r = Ls ∧ downR Ls r = r + 1 := ⟨if_pos h, if_pos h⟩
theorem down_end {Ls : List Ln} {r : Nat} (h : ¬ r + 1 < Ls.length) : downL Ls r = mvd Ls 0 Ls.length 1 true ∧ downR Ls r = r := ⟨if_neg h, if_neg h⟩
set_option maxRecDepth 100000 in
set_option maxHeartbeats 2000000 in
theorem pdown_any (B gp gg gr wd : Nat) (Rs : List Rw) (Ls : List Ln) (r : Nat) (c : Int) (pd au : Bool) (w : World) (h : PenY Yo w B gp gg gr wd Rs Ls r c pd au) (hr : r < Ls.length) : Calls Tryz.prog 186 #[.pointer (some ⟨gp, 0, none⟩)] w (fun e w' => e = .returned (.tuple #[]) ∧ PDoY Yo w B gp gg gr wd Rs (downL Ls r) (downR Ls r : Nat) c false au w') := by
  have hl := h.lt
  have hsz := h.sizes
  have hrl := h.sizes.2.2.2.2.1
  have H := Lib.hid h
  have HRL := Lib.hid hrl
  by_cases hm : r + 1 < Ls.length
  · have HD := Lib.hid (fun w => cdown_more (r : Int) c pd Rs.length w (by omega) (by omega) (by omega) (by omega))
    rw [(down_more hm).1, (down_more hm).2]
    obtain ⟨d, hde⟩ : ∃ d : Int, d = (r : Int) + 1 := ⟨_, rfl⟩
    rw [show ((r + 1 : Nat) : Int) = d from by omega]
    rw [← hde] at HD
    clear h hrl hm hsz hr hde
    go_enter Tryz.func186, Tryz.ntmps186
    obtain ⟨Erg, hErg⟩ : ∃ EE : Nat → Value → World → Prop, EE = fun jj xx ww => match jj with
        | 0 => xx = .pointer (some ⟨gp, 0, none⟩)
        | 1 => xx = .pointer (some ⟨gp, 0, none⟩)
        | 2 => xx = .pointer (some ⟨gp, 1, none⟩)
        | 3 => xx = .agg #[.int .i64 r, .int .i64 c, .bool pd]
        | 4 => xx = .pointer (some ⟨gp, 0, none⟩)
        | 5 => xx = .pointer (some ⟨gp, 0, none⟩)
        | 6 => xx = .pointer (some ⟨gp, 0, none⟩)
        | 7 => xx = .pointer (some ⟨gg, 0, none⟩)
        | 8 => xx = .int .i64 Rs.length
        | 9 => xx = .tuple #[.agg #[.int .i64 d, .int .i64 c, .bool false], .bool false]
        | 10 => xx = .tuple #[.agg #[.int .i64 d, .int .i64 c, .bool false], .bool false]
        | 11 => xx = .agg #[.int .i64 d, .int .i64 c, .bool false]
        | 12 => xx = .bool false
        | 13 => (fun x w' => True) xx ww
        | 14 => xx = undef
        | 15 => xx = .bool false
        | _ => True := ⟨_, rfl⟩
    have erg0 : ∀ xx ww, Erg 0 xx ww = (xx = .pointer (some ⟨gp, 0, none⟩)) := fun xx ww => congrFun (congrFun (congrFun hErg 0) xx) ww
    have erg1 : ∀ xx ww, Erg 1 xx ww = (xx = .pointer (some ⟨gp, 0, none⟩)) := fun xx ww => congrFun (congrFun (congrFun hErg 1) xx) ww
    have erg2 : ∀ xx ww, Erg 2 xx ww = (xx = .pointer (some ⟨gp, 1, none⟩)) := fun xx ww => congrFun (congrFun (congrFun hErg 2) xx) ww
    have erg3 : ∀ xx ww, Erg 3 xx ww = (xx = .agg #[.int .i64 r, .int .i64 c, .bool pd]) := fun xx ww => congrFun (congrFun (congrFun hErg 3) xx) ww
    have erg4 : ∀ xx ww, Erg 4 xx ww = (xx = .pointer (some ⟨gp, 0, none⟩)) := fun xx ww => congrFun (congrFun (congrFun hErg 4) xx) ww
    have erg5 : ∀ xx ww, Erg 5 xx ww = (xx = .pointer (some ⟨gp, 0, none⟩)) := fun xx ww => congrFun (congrFun (congrFun hErg 5) xx) ww
    have erg6 : ∀ xx ww, Erg 6 xx ww = (xx = .pointer (some ⟨gp, 0, none⟩)) := fun xx ww => congrFun (congrFun (congrFun hErg 6) xx) ww
    have erg7 : ∀ xx ww, Erg 7 xx ww = (xx = .pointer (some ⟨gg, 0, none⟩)) := fun xx ww => congrFun (congrFun (congrFun hErg 7) xx) ww
    have erg8 : ∀ xx ww, Erg 8 xx ww = (xx = .int .i64 Rs.length) := fun xx ww => congrFun (congrFun (congrFun hErg 8) xx) ww
    have erg9 : ∀ xx ww, Erg 9 xx ww = (xx = .tuple #[.agg #[.int .i64 d, .int .i64 c, .bool false], .bool false]) := fun xx ww => congrFun (congrFun (congrFun hErg 9) xx) ww
    have erg10 : ∀ xx ww, Erg 10 xx ww = (xx = .tuple #[.agg #[.int .i64 d, .int .i64 c, .bool false], .bool false]) := fun xx ww => congrFun (congrFun (congrFun hErg 10) xx) ww
    have erg11 : ∀ xx ww, Erg 11 xx ww = (xx = .agg #[.int .i64 d, .int .i64 c, .bool false]) := fun xx ww => congrFun (congrFun (congrFun hErg 11) xx) ww
    have erg12 : ∀ xx ww, Erg 12 xx ww = (xx = .bool false) := fun xx ww => congrFun (congrFun (congrFun hErg 12) xx) ww
    have erg13 : ∀ xx ww, Erg 13 xx ww = ((fun x w' => True) xx ww) := fun xx ww => congrFun (congrFun (congrFun hErg 13) xx) ww
    have erg14 : ∀ xx ww, Erg 14 xx ww = (xx = undef) := fun xx ww => congrFun (congrFun (congrFun hErg 14) xx) ww
    have erg15 : ∀ xx ww, Erg 15 xx ww = (xx = .bool false) := fun xx ww => congrFun (congrFun (congrFun hErg 15) xx) ww
    obtain ⟨Crg, hCrg⟩ : ∃ CC : Array Bool → Value → World → Prop, CC = fun L8 x w' => Below w.heap.size w w' ∧ (Mix.one L8 13 = 1 → ∃ g, x = .pointer (some ⟨g, 0, none⟩) ∧ w.heap.size ≤ g ∧ (Mix.one L8 14 = 0 → Has w' g [.int .i64 0, .int .i64 0, .bool false] 24) ∧ (Mix.one L8 14 = 1 → Has w' g [.int .i64 d, .int .i64 c, .bool false] 24)) := ⟨_, rfl⟩
    have krg : ∀ i L {x : Value} w, i ≠ 13 → i ≠ 14 →  Crg L x w → Crg (L.setIfInBounds i true) x w := by
      intro i L x w q13 q14 h
      rw [hCrg] at h ⊢
      simp only [Mix.one_ne q13, Mix.one_ne q14]; exact h
    obtain ⟨Xrg, hXrg⟩ : ∃ XX : World → World → Prop, XX = fun _ _ => True := ⟨_, rfl⟩
    have xrg : ∀ w, Xrg w w := fun w => by rw [hXrg]; exact trivial
    have strg : ∀ j x w w1, Xrg w w1 → Erg j x w → Erg j x w1 := by
      intro j x w w1 hx h
      rw [hXrg] at hx
      match j with
      | 0 => rw [erg0] at h ⊢; exact h
      | 1 => rw [erg1] at h ⊢; exact h
      | 2 => rw [erg2] at h ⊢; exact h
      | 3 => rw [erg3] at h ⊢; exact h
      | 4 => rw [erg4] at h ⊢; exact h
      | 5 => rw [erg5] at h ⊢; exact h
      | 6 => rw [erg6] at h ⊢; exact h
      | 7 => rw [erg7] at h ⊢; exact h
      | 8 => rw [erg8] at h ⊢; exact h
      | 9 => rw [erg9] at h ⊢; exact h
      | 10 => rw [erg10] at h ⊢; exact h
      | 11 => rw [erg11] at h ⊢; exact h
      | 12 => rw [erg12] at h ⊢; exact h
      | 13 => rw [erg13] at h ⊢; (exact h)
      | 14 => rw [erg14] at h ⊢; exact h
      | 15 => rw [erg15] at h ⊢; exact h
      | j + 16 => rw [hErg]; trivial
    have crg : ∀ x, Crg (Array.replicate 16 false) x w.drew := fun x => by rw [hCrg]; exact ⟨(Below.refl _ _).drew, fun e => absurd e (by decide)⟩
    have brg : ∀ L {x : Value} w w1, Crg L x w → Below w.heap.size w w1 → Crg L x w1 := by
      intro L x w w1 h hb
      rw [hCrg] at h ⊢
      (obtain ⟨q1, q2⟩ := h; exact ⟨q1.trans (hb.mono q1.size), fun e => by obtain ⟨g, e1, e2, e3, e4⟩ := q2 e; exact ⟨g, e1, e2, fun f => (e3 f).below hb (e3 f).lt, fun f => (e4 f).below hb (e4 f).lt⟩⟩)
    have xbrg : ∀ w w1, Below w.heap.size w w1 → Xrg w w1 := by
      intro w w1 hb
      rw [hXrg]
      trivial
    have Hrgb : Go.RowKit.Hid (∀ L {x : Value} w w1, Crg L x w → Below w.heap.size w w1 → Crg L x w1) := @brg
    have Hrgxb := Lib.hid xbrg
    clear brg xbrg
    clear hErg
    have Hrgk : Go.RowKit.Hid (∀ i L {x : Value} w, i ≠ 13 → i ≠ 14 →  Crg L x w → Crg (L.setIfInBounds i true) x w) := @krg
    have Hrgx := Lib.hid xrg
    have Hrgst := Lib.hid strg
    have Hrgc := Lib.hid crg
    have HrghC := Lib.hid hCrg
    have HrghX := Lib.hid hXrg
    have Hrge0 := Lib.hid erg0
    have Hrge1 := Lib.hid erg1
    have Hrge2 := Lib.hid erg2
    have Hrge3 := Lib.hid erg3
    have Hrge4 := Lib.hid erg4
    have Hrge5 := Lib.hid erg5
    have Hrge6 := Lib.hid erg6
    have Hrge7 := Lib.hid erg7
    have Hrge8 := Lib.hid erg8
    have Hrge9 := Lib.hid erg9
    have Hrge10 := Lib.hid erg10
    have Hrge11 := Lib.hid erg11
    have Hrge12 := Lib.hid erg12
    have Hrge13 := Lib.hid erg13
    have Hrge14 := Lib.hid erg14
    have Hrge15 := Lib.hid erg15
    clear krg xrg strg crg hCrg hXrg erg0 erg1 erg2 erg3 erg4 erg5 erg6 erg7 erg8 erg9 erg10 erg11 erg12 erg13 erg14 erg15
    go_wp2_with fail
    refine RegC.regionF 13 Erg Crg Xrg Hrgst.out (by kernel_rfl) (by kernel_rfl) (by kernel_rfl) Hrgc.out (fun Frg hFrg => ?_)
    simp only [Reg.frame, Reg.dsts, List.map_cons, List.map_nil, Mix.put_lit, Reg.put_none, List.set_cons_succ, List.set_cons_zero, Nat.zero_add, Nat.reduceAdd] at hFrg
    refine ⟨?_, ?_⟩
    · refine ⟨?_, ?_, ?_, ?_, ?_, ?_, ?_, ?_, ?_, ?_, ?_, ?_, ?_, ?_, ?_, ?_, trivial⟩
      · intro Lq wq xq hh
        simp only [hFrg]
        refine .inl ⟨rfl, ?_⟩
        unfold Reg.upon
        have hk := Hrgk.out 0 Lq wq (by decide) (by decide)  hh.cls
        have hx := Hrgx.out wq
        have he : Erg 0 (.pointer (some ⟨gp, 0, none⟩)) wq := by rw [Hrge0.out]
        have HK := Lib.hid (And.intro hk (And.intro he hx))
        clear hk hx he
        go_simp
        exact HK.out
      · intro Lq wq xq hh
        have d0 : Erg 0 (xq 0) wq := hh.val 0 (by kernel_rfl) (by kernel_rfl)
        rw [Hrge0.out] at d0
        simp only [hFrg, d0]
        clear d0
        refine .inl ⟨rfl, ?_⟩
        unfold Reg.upon
        have hk := Hrgk.out 1 Lq wq (by decide) (by decide)  hh.cls
        have hx := Hrgx.out wq
        have he : Erg 1 (.pointer (some ⟨gp, 0, none⟩)) wq := by rw [Hrge1.out]
        have HK := Lib.hid (And.intro hk (And.intro he hx))
        clear hk hx he
        go_simp
        exact HK.out
      · intro Lq wq xq hh
        have d1 : Erg 1 (xq 1) wq := hh.val 1 (by kernel_rfl) (by kernel_rfl)
        rw [Hrge1.out] at d1
        simp only [hFrg, d1]
        clear d1
        refine .inl ⟨rfl, ?_⟩
        unfold Reg.upon
        have hk := Hrgk.out 2 Lq wq (by decide) (by decide)  hh.cls
        have hx := Hrgx.out wq
        have he : Erg 2 (.pointer (some ⟨gp, 1, none⟩)) wq := by rw [Hrge2.out]
        have HK := Lib.hid (And.intro hk (And.intro he hx))
        clear hk hx he
        go_simp
        exact HK.out
      · intro Lq wq xq hh
        have d2 : Erg 2 (xq 2) wq := hh.val 2 (by kernel_rfl) (by kernel_rfl)
        rw [Hrge2.out] at d2
        simp only [hFrg, d2]
        clear d2
        refine .inl ⟨rfl, ?_⟩
        unfold Reg.upon
        have hc : Crg Lq (xq 13) wq := hh.cls
        rw [HrghC.out] at hc
        have hp := H.out.below hc.1
        have q1 := hp.1.cell 1 _ rfl
        have q2 := hp.1.cell 2 _ rfl
        have q3 := hp.1.cell 3 _ rfl
        clear hc
        have hk := Hrgk.out 3 Lq wq (by decide) (by decide)  hh.cls
        have hx := Hrgx.out wq
        have he : Erg 3 (.agg #[.int .i64 r, .int .i64 c, .bool pd]) wq := by rw [Hrge3.out]
        have HK := Lib.hid (And.intro hk (And.intro he hx))
        clear hk hx he
        go_simp
        exact HK.out
      · intro Lq wq xq hh
        simp only [hFrg]
        refine .inl ⟨rfl, ?_⟩
        unfold Reg.upon
        have hk := Hrgk.out 4 Lq wq (by decide) (by decide)  hh.cls
        have hx := Hrgx.out wq
        have he : Erg 4 (.pointer (some ⟨gp, 0, none⟩)) wq := by rw [Hrge4.out]
        have HK := Lib.hid (And.intro hk (And.intro he hx))
        clear hk hx he
        go_simp
        exact HK.out
      · intro Lq wq xq hh
        have d4 : Erg 4 (xq 4) wq := hh.val 4 (by kernel_rfl) (by kernel_rfl)
        rw [Hrge4.out] at d4
        simp only [hFrg, d4]
        clear d4
        refine .inl ⟨rfl, ?_⟩
        unfold Reg.upon
        have hk := Hrgk.out 5 Lq wq (by decide) (by decide)  hh.cls
        have hx := Hrgx.out wq
        have he : Erg 5 (.pointer (some ⟨gp, 0, none⟩)) wq := by rw [Hrge5.out]
        have HK := Lib.hid (And.intro hk (And.intro he hx))
        clear hk hx he
        go_simp
        exact HK.out
      · intro Lq wq xq hh
        have d5 : Erg 5 (xq 5) wq := hh.val 5 (by kernel_rfl) (by kernel_rfl)
        rw [Hrge5.out] at d5
        simp only [hFrg, d5]
        clear d5
        refine .inl ⟨rfl, ?_⟩
        unfold Reg.upon
        have hk := Hrgk.out 6 Lq wq (by decide) (by decide)  hh.cls
        have hx := Hrgx.out wq
        have he : Erg 6 (.pointer (some ⟨gp, 0, none⟩)) wq := by rw [Hrge6.out]
        have HK := Lib.hid (And.intro hk (And.intro he hx))
        clear hk hx he
        go_simp
        exact HK.out
      · intro Lq wq xq hh
        have d6 : Erg 6 (xq 6) wq := hh.val 6 (by kernel_rfl) (by kernel_rfl)
        rw [Hrge6.out] at d6
        simp only [hFrg, d6]
        clear d6
        refine .inl ⟨rfl, ?_⟩
        unfold Reg.upon
        have hc : Crg Lq (xq 13) wq := hh.cls
        rw [HrghC.out] at hc
        have hp := H.out.below hc.1
        have q0 := hp.1.cell 0 _ rfl
        clear hc
        have hk := Hrgk.out 7 Lq wq (by decide) (by decide)  hh.cls
        have hx := Hrgx.out wq
        have he : Erg 7 (.pointer (some ⟨gg, 0, none⟩)) wq := by rw [Hrge7.out]
        have HK := Lib.hid (And.intro hk (And.intro he hx))
        clear hk hx he
        go_simp
        exact HK.out
      · intro Lq wq xq hh
        have d7 : Erg 7 (xq 7) wq := hh.val 7 (by kernel_rfl) (by kernel_rfl)
        rw [Hrge7.out] at d7
        simp only [hFrg, d7]
        clear d7
        refine .inl ⟨rfl, ?_⟩
        unfold Reg.upon
        have hc : Crg Lq (xq 13) wq := hh.cls
        rw [HrghC.out] at hc
        go_simp
        refine (ghigh_any B gg gr wd Rs wq (H.out.below hc.1).2.2.1).mono ?_
        rintro e w2 ⟨rfl, rfl⟩
        exact ⟨_, rfl, Hrgk.out 8 Lq wq (by decide) (by decide)  hh.cls, (by rw [Hrge8.out]; try rfl), Hrgx.out _⟩
      · intro Lq wq xq hh
        have d3 : Erg 3 (xq 3) wq := hh.val 3 (by kernel_rfl) (by kernel_rfl)
        rw [Hrge3.out] at d3
        have d8 : Erg 8 (xq 8) wq := hh.val 8 (by kernel_rfl) (by kernel_rfl)
        rw [Hrge8.out] at d8
        simp only [hFrg, d3, d8]
        clear d3 d8
        refine .inl ⟨rfl, ?_⟩
        unfold Reg.upon
        have hc : Crg Lq (xq 13) wq := hh.cls
        rw [HrghC.out] at hc
        go_simp
        refine (HD.out wq).mono ?_
        rintro e w2 ⟨rfl, hb⟩
        exact ⟨_, rfl, Hrgk.out 9 Lq w2 (by decide) (by decide)  (Hrgb.out Lq wq w2 hh.cls hb), (by rw [Hrge9.out]; try rfl), Hrgxb.out wq w2 hb⟩
      · intro Lq wq xq hh
        have d9 : Erg 9 (xq 9) wq := hh.val 9 (by kernel_rfl) (by kernel_rfl)
        rw [Hrge9.out] at d9
        simp only [hFrg, d9]
        clear d9
        refine .inl ⟨rfl, ?_⟩
        unfold Reg.upon
        have hk := Hrgk.out 10 Lq wq (by decide) (by decide)  hh.cls
        have hx := Hrgx.out wq
        have he : Erg 10 (.tuple #[.agg #[.int .i64 d, .int .i64 c, .bool false], .bool false]) wq := by rw [Hrge10.out]
        have HK := Lib.hid (And.intro hk (And.intro he hx))
        clear hk hx he
        go_simp
        exact HK.out
      · intro Lq wq xq hh
        have d10 : Erg 10 (xq 10) wq := hh.val 10 (by kernel_rfl) (by kernel_rfl)
        rw [Hrge10.out] at d10
        simp only [hFrg, d10]
        clear d10
        refine .inl ⟨rfl, ?_⟩
        unfold Reg.upon
        have hk := Hrgk.out 11 Lq wq (by decide) (by decide)  hh.cls
        have hx := Hrgx.out wq
        have he : Erg 11 (.agg #[.int .i64 d, .int .i64 c, .bool false]) wq := by rw [Hrge11.out]
        have HK := Lib.hid (And.intro hk (And.intro he hx))
        clear hk hx he
        go_simp
        exact HK.out
      · intro Lq wq xq hh
        have d10 : Erg 10 (xq 10) wq := hh.val 10 (by kernel_rfl) (by kernel_rfl)
        rw [Hrge10.out] at d10
        simp only [hFrg, d10]
        clear d10
        refine .inl ⟨rfl, ?_⟩
        unfold Reg.upon
        have hk := Hrgk.out 12 Lq wq (by decide) (by decide)  hh.cls
        have hx := Hrgx.out wq
        have he : Erg 12 (.bool false) wq := by rw [Hrge12.out]
        have HK := Lib.hid (And.intro hk (And.intro he hx))
        clear hk hx he
        go_simp
        exact HK.out
      · intro Lq wq xq hh
        simp only [hFrg]
        refine .inl ⟨rfl, ?_⟩
        unfold Reg.upon
        have hc : Crg Lq (xq 13) wq := hh.cls
        rw [HrghC.out] at hc
        have hn := Has.new wq [.int .i64 0, .int .i64 0, .bool false] 24
        have hb := (Below.refl wq.heap.size wq).alloc (Nat.le_refl _) (.cells [Value.int .i64 0, .int .i64 0, .bool false].toArray 24)
        have hF : Crg (Lq.setIfInBounds 13 true) (.pointer (some ⟨wq.heap.size, 0, none⟩)) (wq.alloc (.cells [Value.int .i64 0, .int .i64 0, .bool false].toArray 24)) := by
          rw [HrghC.out]
          refine ⟨hc.1.trans (hb.mono hc.1.size), fun _ => ⟨_, rfl, hc.1.size, fun _ => hn, fun e => ?_⟩⟩
          rw [Mix.one_ne (by decide), Mix.one_un (hh.notYet 14 (by kernel_rfl))] at e
          exact absurd e (by decide)
        have hE : Erg 13 (.pointer (some ⟨wq.heap.size, 0, none⟩)) (wq.alloc (.cells [Value.int .i64 0, .int .i64 0, .bool false].toArray 24)) := by rw [Hrge13.out]; trivial
        have hX : Xrg wq (wq.alloc (.cells [Value.int .i64 0, .int .i64 0, .bool false].toArray 24)) := by rw [HrghX.out]; trivial
        go_simp
        exact ⟨hF, hE, hX⟩
      · intro Lq wq xq hh
        have d11 : Erg 11 (xq 11) wq := hh.val 11 (by kernel_rfl) (by kernel_rfl)
        rw [Hrge11.out] at d11
        have d13 : Erg 13 (xq 13) wq := hh.val 13 (by kernel_rfl) (by kernel_rfl)
        rw [Hrge13.out] at d13
        simp only [hFrg, d11]
        clear d11
        refine .inl ⟨rfl, ?_⟩
        unfold Reg.upon
        have hc : Crg Lq (xq 13) wq := hh.cls
        rw [HrghC.out] at hc
        obtain ⟨g, e1, e2, e3, e4⟩ := hc.2 (hh.isDone 13 (by kernel_rfl))
        have hz := e3 hh.un
        have q0 := hz.cell 0 _ rfl
        have q1 := hz.cell 1 _ rfl
        have q2 := hz.cell 2 _ rfl
        have g0 := hz.free 0
        have g1 := hz.free 1
        have g2 := hz.free 2
        have hF : Crg (Lq.setIfInBounds 14 true) (xq 13) (((wq.setCell ⟨g, 0, none⟩ (.int .i64 d)).setCell ⟨g, 1, none⟩ (.int .i64 c)).setCell ⟨g, 2, none⟩ (.bool false)) := by
          rw [HrghC.out]
          refine ⟨hc.1.trans ((((Upd.refl (fun b => w.heap.size ≤ b) wq).setCell (p := ⟨g, 0, none⟩) (.inl e2) _).setCell (p := ⟨g, 1, none⟩) (.inl e2) _).setCell (p := ⟨g, 2, none⟩) (.inl e2) _ |>.below hc.1.size fun _ e => e), fun _ => ⟨g, e1, e2, fun e => ?_, fun _ => ((hz.set 0 _).set 1 _).set 2 _⟩⟩
          rw [Mix.one_set (by rw [hh.size]; decide)] at e
          exact absurd e (by decide)
        have hE : Erg 14 undef (((wq.setCell ⟨g, 0, none⟩ (.int .i64 d)).setCell ⟨g, 1, none⟩ (.int .i64 c)).setCell ⟨g, 2, none⟩ (.bool false)) := by rw [Hrge14.out]
        have hX : Xrg wq (((wq.setCell ⟨g, 0, none⟩ (.int .i64 d)).setCell ⟨g, 1, none⟩ (.int .i64 c)).setCell ⟨g, 2, none⟩ (.bool false)) := by rw [HrghX.out]; trivial
        rw [e1]
        clear hc e3 e4
        go_simp
        exact ⟨hF, hE, hX⟩
      · intro Lq wq xq hh
        have d12 : Erg 12 (xq 12) wq := hh.val 12 (by kernel_rfl) (by kernel_rfl)
        rw [Hrge12.out] at d12
        simp only [hFrg, d12]
        clear d12
        refine .inl ⟨rfl, ?_⟩
        unfold Reg.upon
        have hk := Hrgk.out 15 Lq wq (by decide) (by decide)  hh.cls
        have hx := Hrgx.out wq
        have he : Erg 15 (.bool false) wq := by rw [Hrge15.out]
        have HK := Lib.hid (And.intro hk (And.intro he hx))
        clear hk hx he
        go_simp
        exact HK.out
    intro xq wrg hcrg hvrg
    rw [HrghC.out] at hcrg
    simp only [hFrg]
    have vrg13 : Erg 13 (xq 13) wrg := hvrg 13 (by decide)
    rw [Hrge13.out] at vrg13
    have vrg15 : Erg 15 (xq 15) wrg := hvrg 15 (by decide)
    rw [Hrge15.out] at vrg15
    rw [vrg15]
    clear hvrg hFrg Hrgk Hrgx Hrgst Hrgc HrghC HrghX Hrgb Hrgxb Hrge0 Hrge1 Hrge2 Hrge3 Hrge4 Hrge5 Hrge6 Hrge7 Hrge8 Hrge9 Hrge10 Hrge11 Hrge12 Hrge13 Hrge14 Hrge15
    obtain ⟨hb, h13⟩ := hcrg
    obtain ⟨g, e1, hg, _, h14⟩ := h13 (by kernel_rfl)
    have h4 := h14 (by kernel_rfl)
    have hp := H.out.below hb
    have HB := Lib.hid hb
    rw [e1]
    clear vrg13 vrg15 e1 h13 h14
    have q0 := h4.cell 0 _ rfl
    have q1 := h4.cell 1 _ rfl
    have q2 := h4.cell 2 _ rfl
    have p1 := hp.1.cell 1 _ rfl
    have p2 := hp.1.cell 2 _ rfl
    have p3 := hp.1.cell 3 _ rfl
    have f1 := hp.1.free 1
    have f2 := hp.1.free 2
    have f3 := hp.1.free 3
    have HF := Lib.hid (PDoY.cur H.out HB.out d c false)
    clear hb hp h4
    go_wp2
    exact bodyPost_end (by kernel_rfl) rfl ⟨rfl, HF.out⟩
  · have HD := Lib.hid (fun w => cdown_end (r : Int) c pd Rs.length w (by omega) (by omega) (by omega))
    rw [(down_end hm).1, (down_end hm).2]
    clear h hrl hm hsz hr
    go_enter Tryz.func186, Tryz.ntmps186
    obtain ⟨Erg, hErg⟩ : ∃ EE : Nat → Value → World → Prop, EE = fun jj xx ww => match jj with
        | 0 => xx = .pointer (some ⟨gp, 0, none⟩)
        | 1 => xx = .pointer (some ⟨gp, 0, none⟩)
        | 2 => xx = .pointer (some ⟨gp, 1, none⟩)
        | 3 => xx = .agg #[.int .i64 r, .int .i64 c, .bool pd]
        | 4 => xx = .pointer (some ⟨gp, 0, none⟩)
        | 5 => xx = .pointer (some ⟨gp, 0, none⟩)
        | 6 => xx = .pointer (some ⟨gp, 0, none⟩)
        | 7 => xx = .pointer (some ⟨gg, 0, none⟩)
        | 8 => xx = .int .i64 Rs.length
        | 9 => xx = .tuple #[.agg #[.int .i64 r, .int .i64 c, .bool false], .bool true]
        | 10 => xx = .tuple #[.agg #[.int .i64 r, .int .i64 c, .bool false], .bool true]
        | 11 => xx = .agg #[.int .i64 r, .int .i64 c, .bool false]
        | 12 => xx = .bool true
        | 13 => (fun x w' => True) xx ww
        | 14 => xx = undef
        | 15 => xx = .bool true
        | _ => True := ⟨_, rfl⟩
    have erg0 : ∀ xx ww, Erg 0 xx ww = (xx = .pointer (some ⟨gp, 0, none⟩)) := fun xx ww => congrFun (congrFun (congrFun hErg 0) xx) ww
    have erg1 : ∀ xx ww, Erg 1 xx ww = (xx = .pointer (some ⟨gp, 0, none⟩)) := fun xx ww => congrFun (congrFun (congrFun hErg 1) xx) ww
    have erg2 : ∀ xx ww, Erg 2 xx ww = (xx = .pointer (some ⟨gp, 1, none⟩)) := fun xx ww => congrFun (congrFun (congrFun hErg 2) xx) ww
    have erg3 : ∀ xx ww, Erg 3 xx ww = (xx = .agg #[.int .i64 r, .int .i64 c, .bool pd]) := fun xx ww => congrFun (congrFun (congrFun hErg 3) xx) ww
    have erg4 : ∀ xx ww, Erg 4 xx ww = (xx = .pointer (some ⟨gp, 0, none⟩)) := fun xx ww => congrFun (congrFun (congrFun hErg 4) xx) ww
    have erg5 : ∀ xx ww, Erg 5 xx ww = (xx = .pointer (some ⟨gp, 0, none⟩)) := fun xx ww => congrFun (congrFun (congrFun hErg 5) xx) ww
    have erg6 : ∀ xx ww, Erg 6 xx ww = (xx = .pointer (some ⟨gp, 0, none⟩)) := fun xx ww => congrFun (congrFun (congrFun hErg 6) xx) ww
    have erg7 : ∀ xx ww, Erg 7 xx ww = (xx = .pointer (some ⟨gg, 0, none⟩)) := fun xx ww => congrFun (congrFun (congrFun hErg 7) xx) ww
    have erg8 : ∀ xx ww, Erg 8 xx ww = (xx = .int .i64 Rs.length) := fun xx ww => congrFun (congrFun (congrFun hErg 8) xx) ww
    have erg9 : ∀ xx ww, Erg 9 xx ww = (xx = .tuple #[.agg #[.int .i64 r, .int .i64 c, .bool false], .bool true]) := fun xx ww => congrFun (congrFun (congrFun hErg 9) xx) ww
    have erg10 : ∀ xx ww, Erg 10 xx ww = (xx = .tuple #[.agg #[.int .i64 r, .int .i64 c, .bool false], .bool true]) := fun xx ww => congrFun (congrFun (congrFun hErg 10) xx) ww
    have erg11 : ∀ xx ww, Erg 11 xx ww = (xx = .agg #[.int .i64 r, .int .i64 c, .bool false]) := fun xx ww => congrFun (congrFun (congrFun hErg 11) xx) ww
    have erg12 : ∀ xx ww, Erg 12 xx ww = (xx = .bool true) := fun xx ww => congrFun (congrFun (congrFun hErg 12) xx) ww
    have erg13 : ∀ xx ww, Erg 13 xx ww = ((fun x w' => True) xx ww) := fun xx ww => congrFun (congrFun (congrFun hErg 13) xx) ww
    have erg14 : ∀ xx ww, Erg 14 xx ww = (xx = undef) := fun xx ww => congrFun (congrFun (congrFun hErg 14) xx) ww
    have erg15 : ∀ xx ww, Erg 15 xx ww = (xx = .bool true) := fun xx ww => congrFun (congrFun (congrFun hErg 15) xx) ww
    obtain ⟨Crg, hCrg⟩ : ∃ CC : Array Bool → Value → World → Prop, CC = fun L8 x w' => Below w.heap.size w w' ∧ (Mix.one L8 13 = 1 → ∃ g, x = .pointer (some ⟨g, 0, none⟩) ∧ w.heap.size ≤ g ∧ (Mix.one L8 14 = 0 → Has w' g [.int .i64 0, .int .i64 0, .bool false] 24) ∧ (Mix.one L8 14 = 1 → Has w' g [.int .i64 r, .int .i64 c, .bool false] 24)) := ⟨_, rfl⟩
    have krg : ∀ i L {x : Value} w, i ≠ 13 → i ≠ 14 →  Crg L x w → Crg (L.setIfInBounds i true) x w := by
      intro i L x w q13 q14 h
      rw [hCrg] at h ⊢
      simp only [Mix.one_ne q13, Mix.one_ne q14]; exact h
    obtain ⟨Xrg, hXrg⟩ : ∃ XX : World → World → Prop, XX = fun _ _ => True := ⟨_, rfl⟩
    have xrg : ∀ w, Xrg w w := fun w => by rw [hXrg]; exact trivial
    have strg : ∀ j x w w1, Xrg w w1 → Erg j x w → Erg j x w1 := by
      intro j x w w1 hx h
      rw [hXrg] at hx
      match j with
      | 0 => rw [erg0] at h ⊢; exact h
      | 1 => rw [erg1] at h ⊢; exact h
      | 2 => rw [erg2] at h ⊢; exact h
      | 3 => rw [erg3] at h ⊢; exact h
      | 4 => rw [erg4] at h ⊢; exact h
      | 5 => rw [erg5] at h ⊢; exact h
      | 6 => rw [erg6] at h ⊢; exact h
      | 7 => rw [erg7] at h ⊢; exact h
      | 8 => rw [erg8] at h ⊢; exact h
      | 9 => rw [erg9] at h ⊢; exact h
      | 10 => rw [erg10] at h ⊢; exact h
      | 11 => rw [erg11] at h ⊢; exact h
      | 12 => rw [erg12] at h ⊢; exact h
      | 13 => rw [erg13] at h ⊢; (exact h)
      | 14 => rw [erg14] at h ⊢; exact h
      | 15 => rw [erg15] at h ⊢; exact h
      | j + 16 => rw [hErg]; trivial
    have crg : ∀ x, Crg (Array.replicate 16 false) x w.drew := fun x => by rw [hCrg]; exact ⟨(Below.refl _ _).drew, fun e => absurd e (by decide)⟩
    have brg : ∀ L {x : Value} w w1, Crg L x w → Below w.heap.size w w1 → Crg L x w1 := by
      intro L x w w1 h hb
      rw [hCrg] at h ⊢
      (obtain ⟨q1, q2⟩ := h; exact ⟨q1.trans (hb.mono q1.size), fun e => by obtain ⟨g, e1, e2, e3, e4⟩ := q2 e; exact ⟨g, e1, e2, fun f => (e3 f).below hb (e3 f).lt, fun f => (e4 f).below hb (e4 f).lt⟩⟩)
    have xbrg : ∀ w w1, Below w.heap.size w w1 → Xrg w w1 := by
      intro w w1 hb
      rw [hXrg]
      trivial
    have Hrgb : Go.RowKit.Hid (∀ L {x : Value} w w1, Crg L x w → Below w.heap.size w w1 → Crg L x w1) := @brg
    have Hrgxb := Lib.hid xbrg
    clear brg xbrg
    clear hErg
    have Hrgk : Go.RowKit.Hid (∀ i L {x : Value} w, i ≠ 13 → i ≠ 14 →  Crg L x w → Crg (L.setIfInBounds i true) x w) := @krg
    have Hrgx := Lib.hid xrg
    have Hrgst := Lib.hid strg
    have Hrgc := Lib.hid crg
    have HrghC := Lib.hid hCrg
    have HrghX := Lib.hid hXrg
    have Hrge0 := Lib.hid erg0
    have Hrge1 := Lib.hid erg1
    have Hrge2 := Lib.hid erg2
    have Hrge3 := Lib.hid erg3
    have Hrge4 := Lib.hid erg4
    have Hrge5 := Lib.hid erg5
    have Hrge6 := Lib.hid erg6
    have Hrge7 := Lib.hid erg7
    have Hrge8 := Lib.hid erg8
    have Hrge9 := Lib.hid erg9
    have Hrge10 := Lib.hid erg10
    have Hrge11 := Lib.hid erg11
    have Hrge12 := Lib.hid erg12
    have Hrge13 := Lib.hid erg13
    have Hrge14 := Lib.hid erg14
    have Hrge15 := Lib.hid erg15
    clear krg xrg strg crg hCrg hXrg erg0 erg1 erg2 erg3 erg4 erg5 erg6 erg7 erg8 erg9 erg10 erg11 erg12 erg13 erg14 erg15
    go_wp2_with fail
    refine RegC.regionF 13 Erg Crg Xrg Hrgst.out (by kernel_rfl) (by kernel_rfl) (by kernel_rfl) Hrgc.out (fun Frg hFrg => ?_)
    simp only [Reg.frame, Reg.dsts, List.map_cons, List.map_nil, Mix.put_lit, Reg.put_none, List.set_cons_succ, List.set_cons_zero, Nat.zero_add, Nat.reduceAdd] at hFrg
    refine ⟨?_, ?_⟩
    · refine ⟨?_, ?_, ?_, ?_, ?_, ?_, ?_, ?_, ?_, ?_, ?_, ?_, ?_, ?_, ?_, ?_, trivial⟩
      · intro Lq wq xq hh
        simp only [hFrg]
        refine .inl ⟨rfl, ?_⟩
        unfold Reg.upon
        have hk := Hrgk.out 0 Lq wq (by decide) (by decide)  hh.cls
        have hx := Hrgx.out wq
        have he : Erg 0 (.pointer (some ⟨gp, 0, none⟩)) wq := by rw [Hrge0.out]
        have HK := Lib.hid (And.intro hk (And.intro he hx))
        clear hk hx he
        go_simp
        exact HK.out
      · intro Lq wq xq hh
        have d0 : Erg 0 (xq 0) wq := hh.val 0 (by kernel_rfl) (by kernel_rfl)
        rw [Hrge0.out] at d0
        simp only [hFrg, d0]
        clear d0
        refine .inl ⟨rfl, ?_⟩
        unfold Reg.upon
        have hk := Hrgk.out 1 Lq wq (by decide) (by decide)  hh.cls
        have hx := Hrgx.out wq
        have he : Erg 1 (.pointer (some ⟨gp, 0, none⟩)) wq := by rw [Hrge1.out]
        have HK := Lib.hid (And.intro hk (And.intro he hx))
        clear hk hx he
        go_simp
        exact HK.out
      · intro Lq wq xq hh
        have d1 : Erg 1 (xq 1) wq := hh.val 1 (by kernel_rfl) (by kernel_rfl)
        rw [Hrge1.out] at d1
        simp only [hFrg, d1]
        clear d1
        refine .inl ⟨rfl, ?_⟩
        unfold Reg.upon
        have hk := Hrgk.out 2 Lq wq (by decide) (by decide)  hh.cls
        have hx := Hrgx.out wq
        have he : Erg 2 (.pointer (some ⟨gp, 1, none⟩)) wq := by rw [Hrge2.out]
        have HK := Lib.hid (And.intro hk (And.intro he hx))
        clear hk hx he
        go_simp
        exact HK.out
      · intro Lq wq xq hh
        have d2 : Erg 2 (xq 2) wq := hh.val 2 (by kernel_rfl) (by kernel_rfl)
        rw [Hrge2.out] at d2
        simp only [hFrg, d2]
        clear d2
        refine .inl ⟨rfl, ?_⟩
        unfold Reg.upon
        have hc : Crg Lq (xq 13) wq := hh.cls
        rw [HrghC.out] at hc
        have hp := H.out.below hc.1
        have q1 := hp.1.cell 1 _ rfl
        have q2 := hp.1.cell 2 _ rfl
        have q3 := hp.1.cell 3 _ rfl
        clear hc
        have hk := Hrgk.out 3 Lq wq (by decide) (by decide)  hh.cls
        have hx := Hrgx.out wq
        have he : Erg 3 (.agg #[.int .i64 r, .int .i64 c, .bool pd]) wq := by rw [Hrge3.out]
        have HK := Lib.hid (And.intro hk (And.intro he hx))
        clear hk hx he
        go_simp
        exact HK.out
      · intro Lq wq xq hh
        simp only [hFrg]
        refine .inl ⟨rfl, ?_⟩
        unfold Reg.upon
        have hk := Hrgk.out 4 Lq wq (by decide) (by decide)  hh.cls
        have hx := Hrgx.out wq
        have he : Erg 4 (.pointer (some ⟨gp, 0, none⟩)) wq := by rw [Hrge4.out]
        have HK := Lib.hid (And.intro hk (And.intro he hx))
        clear hk hx he
        go_simp
        exact HK.out
      · intro Lq wq xq hh
        have d4 : Erg 4 (xq 4) wq := hh.val 4 (by kernel_rfl) (by kernel_rfl)
        rw [Hrge4.out] at d4
        simp only [hFrg, d4]
        clear d4
        refine .inl ⟨rfl, ?_⟩
        unfold Reg.upon
        have hk := Hrgk.out 5 Lq wq (by decide) (by decide)  hh.cls
        have hx := Hrgx.out wq
        have he : Erg 5 (.pointer (some ⟨gp, 0, none⟩)) wq := by rw [Hrge5.out]
        have HK := Lib.hid (And.intro hk (And.intro he hx))
        clear hk hx he
        go_simp
        exact HK.out
      · intro Lq wq xq hh
        have d5 : Erg 5 (xq 5) wq := hh.val 5 (by kernel_rfl) (by kernel_rfl)
        rw [Hrge5.out] at d5
        simp only [hFrg, d5]
        clear d5
        refine .inl ⟨rfl, ?_⟩
        unfold Reg.upon
        have hk := Hrgk.out 6 Lq wq (by decide) (by decide)  hh.cls
        have hx := Hrgx.out wq
        have he : Erg 6 (.pointer (some ⟨gp, 0, none⟩)) wq := by rw [Hrge6.out]
        have HK := Lib.hid (And.intro hk (And.intro he hx))
        clear hk hx he
        go_simp
        exact HK.out
      · intro Lq wq xq hh
        have d6 : Erg 6 (xq 6) wq := hh.val 6 (by kernel_rfl) (by kernel_rfl)
        rw [Hrge6.out] at d6
        simp only [hFrg, d6]
        clear d6
        refine .inl ⟨rfl, ?_⟩
        unfold Reg.upon
        have hc : Crg Lq (xq 13) wq := hh.cls
        rw [HrghC.out] at hc
        have hp := H.out.below hc.1
        have q0 := hp.1.cell 0 _ rfl
        clear hc
        have hk := Hrgk.out 7 Lq wq (by decide) (by decide)  hh.cls
        have hx := Hrgx.out wq
        have he : Erg 7 (.pointer (some ⟨gg, 0, none⟩)) wq := by rw [Hrge7.out]
        have HK := Lib.hid (And.intro hk (And.intro he hx))
        clear hk hx he
        go_simp
        exact HK.out
      · intro Lq wq xq hh
        have d7 : Erg 7 (xq 7) wq := hh.val 7 (by kernel_rfl) (by kernel_rfl)
        rw [Hrge7.out] at d7
        simp only [hFrg, d7]
        clear d7
        refine .inl ⟨rfl, ?_⟩
        unfold Reg.upon
        have hc : Crg Lq (xq 13) wq := hh.cls
        rw [HrghC.out] at hc
        go_simp
        refine (ghigh_any B gg gr wd Rs wq (H.out.below hc.1).2.2.1).mono ?_
        rintro e w2 ⟨rfl, rfl⟩
        exact ⟨_, rfl, Hrgk.out 8 Lq wq (by decide) (by decide)  hh.cls, (by rw [Hrge8.out]; try rfl), Hrgx.out _⟩
      · intro Lq wq xq hh
        have d3 : Erg 3 (xq 3) wq := hh.val 3 (by kernel_rfl) (by kernel_rfl)
        rw [Hrge3.out] at d3
        have d8 : Erg 8 (xq 8) wq := hh.val 8 (by kernel_rfl) (by kernel_rfl)
        rw [Hrge8.out] at d8
        simp only [hFrg, d3, d8]
        clear d3 d8
        refine .inl ⟨rfl, ?_⟩
        unfold Reg.upon
        have hc : Crg Lq (xq 13) wq := hh.cls
        rw [HrghC.out] at hc
        go_simp
        refine (HD.out wq).mono ?_
        rintro e w2 ⟨rfl, hb⟩
        exact ⟨_, rfl, Hrgk.out 9 Lq w2 (by decide) (by decide)  (Hrgb.out Lq wq w2 hh.cls hb), (by rw [Hrge9.out]; try rfl), Hrgxb.out wq w2 hb⟩
      · intro Lq wq xq hh
        have d9 : Erg 9 (xq 9) wq := hh.val 9 (by kernel_rfl) (by kernel_rfl)
        rw [Hrge9.out] at d9
        simp only [hFrg, d9]
        clear d9
        refine .inl ⟨rfl, ?_⟩
        unfold Reg.upon
        have hk := Hrgk.out 10 Lq wq (by decide) (by decide)  hh.cls
        have hx := Hrgx.out wq
        have he : Erg 10 (.tuple #[.agg #[.int .i64 r, .int .i64 c, .bool false], .bool true]) wq := by rw [Hrge10.out]
        have HK := Lib.hid (And.intro hk (And.intro he hx))
        clear hk hx he
        go_simp
        exact HK.out
      · intro Lq wq xq hh
        have d10 : Erg 10 (xq 10) wq := hh.val 10 (by kernel_rfl) (by kernel_rfl)
        rw [Hrge10.out] at d10
        simp only [hFrg, d10]
        clear d10
        refine .inl ⟨rfl, ?_⟩
        unfold Reg.upon
        have hk := Hrgk.out 11 Lq wq (by decide) (by decide)  hh.cls
        have hx := Hrgx.out wq
        have he : Erg 11 (.agg #[.int .i64 r, .int .i64 c, .bool false]) wq := by rw [Hrge11.out]
        have HK := Lib.hid (And.intro hk (And.intro he hx))
        clear hk hx he
        go_simp
        exact HK.out
      · intro Lq wq xq hh
        have d10 : Erg 10 (xq 10) wq := hh.val 10 (by kernel_rfl) (by kernel_rfl)
        rw [Hrge10.out] at d10
        simp only [hFrg, d10]
        clear d10
        refine .inl ⟨rfl, ?_⟩
        unfold Reg.upon
        have hk := Hrgk.out 12 Lq wq (by decide) (by decide)  hh.cls
        have hx := Hrgx.out wq
        have he : Erg 12 (.bool true) wq := by rw [Hrge12.out]
        have HK := Lib.hid (And.intro hk (And.intro he hx))
        clear hk hx he
        go_simp
        exact HK.out
      · intro Lq wq xq hh
        simp only [hFrg]
        refine .inl ⟨rfl, ?_⟩
        unfold Reg.upon
        have hc : Crg Lq (xq 13) wq := hh.cls
        rw [HrghC.out] at hc
        have hn := Has.new wq [.int .i64 0, .int .i64 0, .bool false] 24
        have hb := (Below.refl wq.heap.size wq).alloc (Nat.le_refl _) (.cells [Value.int .i64 0, .int .i64 0, .bool false].toArray 24)
        have hF : Crg (Lq.setIfInBounds 13 true) (.pointer (some ⟨wq.heap.size, 0, none⟩)) (wq.alloc (.cells [Value.int .i64 0, .int .i64 0, .bool false].toArray 24)) := by
          rw [HrghC.out]
          refine ⟨hc.1.trans (hb.mono hc.1.size), fun _ => ⟨_, rfl, hc.1.size, fun _ => hn, fun e => ?_⟩⟩
          rw [Mix.one_ne (by decide), Mix.one_un (hh.notYet 14 (by kernel_rfl))] at e
          exact absurd e (by decide)
        have hE : Erg 13 (.pointer (some ⟨wq.heap.size, 0, none⟩)) (wq.alloc (.cells [Value.int .i64 0, .int .i64 0, .bool false].toArray 24)) := by rw [Hrge13.out]; trivial
        have hX : Xrg wq (wq.alloc (.cells [Value.int .i64 0, .int .i64 0, .bool false].toArray 24)) := by rw [HrghX.out]; trivial
        go_simp
        exact ⟨hF, hE, hX⟩
      · intro Lq wq xq hh
        have d11 : Erg 11 (xq 11) wq := hh.val 11 (by kernel_rfl) (by kernel_rfl)
        rw [Hrge11.out] at d11
        have d13 : Erg 13 (xq 13) wq := hh.val 13 (by kernel_rfl) (by kernel_rfl)
        rw [Hrge13.out] at d13
        simp only [hFrg, d11]
        clear d11
        refine .inl ⟨rfl, ?_⟩
        unfold Reg.upon
        have hc : Crg Lq (xq 13) wq := hh.cls
        rw [HrghC.out] at hc
        obtain ⟨g, e1, e2, e3, e4⟩ := hc.2 (hh.isDone 13 (by kernel_rfl))
        have hz := e3 hh.un
        have q0 := hz.cell 0 _ rfl
        have q1 := hz.cell 1 _ rfl
        have q2 := hz.cell 2 _ rfl
        have g0 := hz.free 0
        have g1 := hz.free 1
        have g2 := hz.free 2
        have hF : Crg (Lq.setIfInBounds 14 true) (xq 13) (((wq.setCell ⟨g, 0, none⟩ (.int .i64 r)).setCell ⟨g, 1, none⟩ (.int .i64 c)).setCell ⟨g, 2, none⟩ (.bool false)) := by
          rw [HrghC.out]
          refine ⟨hc.1.trans ((((Upd.refl (fun b => w.heap.size ≤ b) wq).setCell (p := ⟨g, 0, none⟩) (.inl e2) _).setCell (p := ⟨g, 1, none⟩) (.inl e2) _).setCell (p := ⟨g, 2, none⟩) (.inl e2) _ |>.below hc.1.size fun _ e => e), fun _ => ⟨g, e1, e2, fun e => ?_, fun _ => ((hz.set 0 _).set 1 _).set 2 _⟩⟩
          rw [Mix.one_set (by rw [hh.size]; decide)] at e
          exact absurd e (by decide)
        have hE : Erg 14 undef (((wq.setCell ⟨g, 0, none⟩ (.int .i64 r)).setCell ⟨g, 1, none⟩ (.int .i64 c)).setCell ⟨g, 2, none⟩ (.bool false)) := by rw [Hrge14.out]
        have hX : Xrg wq (((wq.setCell ⟨g, 0, none⟩ (.int .i64 r)).setCell ⟨g, 1, none⟩ (.int .i64 c)).setCell ⟨g, 2, none⟩ (.bool false)) := by rw [HrghX.out]; trivial
        rw [e1]
        clear hc e3 e4
        go_simp
        exact ⟨hF, hE, hX⟩
      · intro Lq wq xq hh
        have d12 : Erg 12 (xq 12) wq := hh.val 12 (by kernel_rfl) (by kernel_rfl)
        rw [Hrge12.out] at d12
        simp only [hFrg, d12]
        clear d12
        refine .inl ⟨rfl, ?_⟩
        unfold Reg.upon
        have hk := Hrgk.out 15 Lq wq (by decide) (by decide)  hh.cls
        have hx := Hrgx.out wq
        have he : Erg 15 (.bool true) wq := by rw [Hrge15.out]
        have HK := Lib.hid (And.intro hk (And.intro he hx))
        clear hk hx he
        go_simp
        exact HK.out
    intro xq wrg hcrg hvrg
    rw [HrghC.out] at hcrg
    simp only [hFrg]
    have vrg13 : Erg 13 (xq 13) wrg := hvrg 13 (by decide)
    rw [Hrge13.out] at vrg13
    have vrg15 : Erg 15 (xq 15) wrg := hvrg 15 (by decide)
    rw [Hrge15.out] at vrg15
    rw [vrg15]
    clear hvrg hFrg Hrgk Hrgx Hrgst Hrgc HrghC HrghX Hrgb Hrgxb Hrge0 Hrge1 Hrge2 Hrge3 Hrge4 Hrge5 Hrge6 Hrge7 Hrge8 Hrge9 Hrge10 Hrge11 Hrge12 Hrge13 Hrge14 Hrge15
    obtain ⟨hb, h13⟩ := hcrg
    obtain ⟨g, e1, hg, _, h14⟩ := h13 (by kernel_rfl)
    have h4 := h14 (by kernel_rfl)
    have hp := H.out.below hb
    have HB := Lib.hid hb
    rw [e1]
    clear vrg13 vrg15 e1 h13 h14
    have q0 := h4.cell 0 _ rfl
    have q1 := h4.cell 1 _ rfl
    have q2 := h4.cell 2 _ rfl
    have p1 := hp.1.cell 1 _ rfl
    have p2 := hp.1.cell 2 _ rfl
    have p3 := hp.1.cell 3 _ rfl
    have f1 := hp.1.free 1
    have f2 := hp.1.free 2
    have f3 := hp.1.free 3
    obtain ⟨W5, hW5⟩ : ∃ W5, W5 = (((wrg.setCell ⟨gp, 1, none⟩ (.int .i64 r)).setCell ⟨gp, 2, none⟩ (.int .i64 c)).setCell ⟨gp, 3, none⟩ (.bool false)) := ⟨_, rfl⟩
    have hs5 := pen_set3 hp.1 (.int .i64 r) (.int .i64 c) (.bool false)
    rw [← hW5] at hs5
    have h5 := hp.turn hs5.1 hs5.2
    have HU5 := Lib.hid (show Upd (PZ w gp gr Rs) w W5 from (Upd.ofBelow HB.out).trans (hs5.2.mono fun b _ e => .inl e))
    have HW5 := Lib.hid hW5
    clear hb hp h4 hs5 hW5
    go_upto_region 3 with (fail)
    rw [← HW5.out]
    clear q0 q1 q2 p1 p2 p3 f1 f2 f3 HW5
    have H5 := Lib.hid h5
    have e0 := ext_cell (h5.1.cell 0 _ rfl)
    have HG := Lib.hid (show ∀ u : Growth W5, GridY Yo (ext W5 u) B gg gr wd Rs from fun u => H5.out.2.2.1.below u.ok)
    clear h5
    refine wp_region_ext_tail 9 (by kernel_rfl) (by simp) (by kernel_rfl) (by kernel_rfl) (by kernel_rfl) (by kernel_rfl) (by kernel_rfl) ?_
    simp only [List.take_succ_cons, List.take_zero, List.drop_succ_cons, List.drop_zero]
    repeat (go_big_quiet_step ((go_at_call 95; exact callx_same (ghigh_any B gg gr wd Rs _ (HG.out _)))))
    refine wpQuiet_nil ?_
    intro _ hw'
    obtain ⟨u, hw''⟩ := hw'
    subst hw''
    have h6 := H5.out.below u.ok
    have hup := scup_all B gg gr wd Rs Ls 0 Rs.length 1 (ext W5 u) (HG.out u) h6.2.2.2
    rw [HRL.out] at hup
    have H6 := Lib.hid h6
    have HU6 := Lib.hid (HU5.out.trans (.ofBelow u.ok))
    rw [HRL.out]
    clear h6
    go_wp2_with fail
    refine hup.mono ?_
    rintro e w7 ⟨rfl, R7, hg7, hm7, hu7, hf7⟩
    have HF := Lib.hid (PDoY.trans HU6.out (RowsFrom.self _ _) (PDoY.grid H6.out hg7 hm7 hu7 hf7))
    clear hg7 hm7 hu7 hf7 hup
    go_wp2
    exact bodyPost_end (by kernel_rfl) rfl ⟨rfl, HF.out⟩
end Go.Proofs.YtoeggiplcaegoaaGreatDoor
