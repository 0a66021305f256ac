/- Contracts of cwidth's Gauge. -/
import Derived.Test.YtkpmmkokfllafaaGreatBasewW
import Derived.Test.YtkpmmkokfllafaaGreatMg1
namespace Go.Proofs.YtkpmmkokfllafaaGreat
open Go.RowKit Go.ChangeShapes Go.WideShapes
def GaugeAt (w : World) (g : Nat) (told pic two : Bool) : Prop := Has w g [.bool told, .bool pic, .bool two] 72
def widB (told pic : Bool) (r br : Int) (pc : Bool) (ea : Int) : Bool := basewI br ea == 2 || ((r == 65039 && pic) || (told && (pc || br == 6)))
theorem wid_cases (told pic : Bool) (r br : Int) (pc : Bool) (ea : Int) : ((basewI br ea == 2) = true ∧ widB told pic r br pc ea = true) ∨ ((basewI br ea == 2) = false ∧ (r == 65039) = true ∧ pic = true ∧ widB told pic r br pc ea = true)
    ∨ ((basewI br ea == 2) = false ∧ ((r == 65039) = true ∧ pic = false ∨ (r == 65039) = false) ∧ (told = false ∧ widB told pic r br pc ea = false ∨ told = true ∧ pc = true ∧ widB told pic r br pc ea = true ∨ told = true ∧ pc = false ∧ widB told pic r br pc ea = (br == 6))) := by
  unfold widB
  cases h1 : (basewI br ea == 2) <;> cases h2 : (r == 65039) <;> cases pic <;> cases told <;> cases pc <;> simp
theorem three_set {w : World} {g : Nat} {C0 C1 C2 : Value} {t : TypeId} (a b c : Value) (h : Has w g [C0, C1, C2] t) : Has (((w.setCell ⟨g, 0, none⟩ a).setCell ⟨g, 1, none⟩ b).setCell ⟨g, 2, none⟩ c) g [a, b, c] t ∧ But g w.heap.size w (((w.setCell ⟨g, 0, none⟩ a).setCell ⟨g, 1, none⟩ b).setCell ⟨g, 2, none⟩ c) :=
  ⟨((h.set 0 a).set 1 b).set 2 c, (((But.refl _ _ _).set 0 _).set 1 _).set 2 _⟩
theorem gbox (w : World) (br : Int) (pc : Bool) (cj ea : Int) : ∃ W, W = w.alloc (.cells #[Value.int .i64 br, .bool pc, .int .i64 cj, .int .i64 ea] 62) ∧ Has W w.heap.size [Value.int .i64 br, .bool pc, .int .i64 cj, .int .i64 ea] 62 ∧ Below w.heap.size w W :=
  ⟨_, rfl, Has.new w _ _, (Below.refl _ _).alloc (Nat.le_refl _) _⟩
set_option maxRecDepth 100000 in
set_option maxHeartbeats 1000000 in
theorem widens_any (g : Nat) (told pic two : Bool) (r br : Int) (pc : Bool) (cv ea : Int) (w : World) (hg : GaugeAt w g told pic two) :
    Calls Tryz.prog 66 #[.pointer (some ⟨g, 0, none⟩), .int .i32 r, .agg #[.int .i64 br, .bool pc, .int .i64 cv, .int .i64 ea]] w (Gives w (.bool (widB told pic r br pc ea))) := by
  have H0 := Lib.hid (show ∀ w1, Below (w.alloc (.cells #[.int .i64 br, .bool pc, .int .i64 cv, .int .i64 ea] 62)).heap.size (w.alloc (.cells #[.int .i64 br, .bool pc, .int .i64 cv, .int .i64 ea] 62)) w1 → GaugeAt w1 g told pic two ∧ Has w1 w.heap.size [.int .i64 br, .bool pc, .int .i64 cv, .int .i64 ea] 62 ∧ Below w.heap.size w w1 from fun w1 b1 =>
    ⟨Has.below (Has.alloc hg _) b1 (Has.alloc hg _).lt, Has.below (Has.new w _ _) b1 (Has.new w _ _).lt, ((Below.refl _ _).alloc (Nat.le_refl _) _).trans (b1.mono (by simp))⟩)
  have HO := Lib.hid (fun w => bof_any br pc cv ea w)
  clear hg
  have hcs := wid_cases told pic r br pc ea
  generalize basewI br ea = x at *
  rcases hcs with ⟨h1, hs⟩ | ⟨h1, h2, rfl, hs⟩ | ⟨h1, ⟨h2, rfl⟩ | h2, ⟨rfl, hs⟩ | ⟨rfl, rfl, hs⟩ | ⟨rfl, rfl, hs⟩⟩
  all_goals
    have HS := Lib.hid hs
    clear hs
    go_enter Tryz.func66, Tryz.ntmps66
    go_wp2_with fail
    refine (HO.out _).mono ?_
    rintro e w1 ⟨rfl, b1⟩
    obtain ⟨hg, hp, hl⟩ := H0.out w1 b1
    have g0 := hg.cell 0 _ rfl
    have g1 := hg.cell 1 _ rfl
    have p0 := hp.cell 0 _ rfl
    have p1 := hp.cell 1 _ rfl
    have hlt := hg.lt
    clear hg hp b1
    go_wp2
    go_ret
    exact ⟨ret_eq (by rw [HS.out]; first | rfl | simp), hl⟩
def GStepped (w : World) (g : Nat) (told pic two : Bool) (e : Ending) (w' : World) : Prop := e = .returned (.int .i64 (if two = true then 2 else 1)) ∧ GaugeAt w' g told pic two ∧ But g w.heap.size w w'
set_option maxRecDepth 100000 in
set_option maxHeartbeats 1000000 in
theorem gstep_any (g : Nat) (told pic two : Bool) (r br : Int) (pc : Bool) (cv ea : Int) (w : World) (hg : GaugeAt w g told pic two) :
    Calls Tryz.prog 48 #[.pointer (some ⟨g, 0, none⟩), .int .i32 r, .agg #[.int .i64 br, .bool pc, .int .i64 cv, .int .i64 ea]] w (GStepped w g true pc (two || widB told pic r br pc ea)) := by
  obtain ⟨y, hy⟩ : ∃ y, widB told pic r br pc ea = y := ⟨_, rfl⟩
  have HW := Lib.hid (fun w (h : GaugeAt w g told pic two) => hy ▸ widens_any g told pic two r br pc cv ea w h : ∀ w, GaugeAt w g told pic two → Calls Tryz.prog 66 #[.pointer (some ⟨g, 0, none⟩), .int .i32 r, .agg #[.int .i64 br, .bool pc, .int .i64 cv, .int .i64 ea]] w (Gives w (.bool y)))
  rw [hy]
  have hlt := hg.lt
  have HG := Lib.hid hg
  clear hg hy
  cases two
  all_goals cases y
  all_goals
    go_enter Tryz.func48, Tryz.ntmps48
    go_wp2_with fail
    obtain ⟨W, hW, hb, hl⟩ := gbox w br pc cv ea
    rw [← hW]
    have hg := HG.out.alloc (.cells #[.int .i64 br, .bool pc, .int .i64 cv, .int .i64 ea] 62)
    rw [← hW] at hg
    have HG2 := Lib.hid (show GaugeAt W g told pic _ from hg)
    have HL := Lib.hid hl
    have p0 := ext_cell (hb.cell 0 _ rfl)
    have p1 := ext_cell (hb.cell 1 _ rfl)
    have p2 := ext_cell (hb.cell 2 _ rfl)
    have p3 := ext_cell (hb.cell 3 _ rfl)
    have s2 := ext_cell (hg.cell 2 _ rfl)
    have f0 := ext_free (by simpa using hg.lt) (hg.free 0)
    have f1 := ext_free (by simpa using hg.lt) (hg.free 1)
    have f2 := ext_free (by simpa using hg.lt) (hg.free 2)
    have c0 := ext_cell (hg.cell 0 _ rfl)
    have c1 := ext_cell (hg.cell 1 _ rfl)
    have HX := Lib.hid (show ∀ u : Growth W, GaugeAt (ext W u) g told pic _ from fun u => Has.below HG2.out u.ok HG2.out.lt)
    clear hg hb hl hW
    refine wp_region_ext_tail 15 (by kernel_rfl) (by simp) (by kernel_rfl) (by kernel_rfl) (by kernel_rfl) (by kernel_rfl) (by kernel_rfl) ?_
    simp only [List.take_succ_cons, List.take_zero, List.drop_succ_cons, List.drop_zero]
    repeat (go_big_quiet_step ((go_at_call 66; exact callx (HW.out _ (HX.out _)))))
    refine wpQuiet_nil ?_
    intro _ hw'
    obtain ⟨u, hw''⟩ := hw'
    subst hw''
    have hg3 : GaugeAt (ext W u) g told pic _ := Has.below HG2.out u.ok HG2.out.lt
    have hl3 := ext_below HL.out u
    have hz := fun x => three_set (.bool true) (.bool pc) (.bool x) hg3
    have HZ := Lib.hid hz
    have HL3 := Lib.hid hl3
    clear hz hg3 hl3 HG2 HX HW
    go_wp2
    go_ret
    exact ⟨(ret_eq (by first | rfl | (simp <;> omega))), (HZ.out _).1, (But.ofBelow HL3.out).trans ((HZ.out _).2.mono HL3.out.size)⟩
end Go.Proofs.YtkpmmkokfllafaaGreat
