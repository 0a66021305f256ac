/- Texts put together: FedB, Known, GraC, GraI, GraK, GraL, GraN, GraO, GraT, GraQ, GraR, FedM, UcdC, UcdD, BasewC, BasewW, GaugeC. -/
import Derived.Test.YtoeggiplcaegoaaGreatDoorFedA
import Derived.Test.YtoeggiplcaegoaaGreatDoorUcdK
import Derived.Test.YtoeggiplcaegoaaGreatDoorMg1
import Derived.Test.YtoeggiplcaegoaaGreatDoorMg3
import Derived.Sort.CutIn
import Derived.Test.YtoeggiplcaegoaaGreatDoorMg4
/- seg's methods upon a feeder's block. -/
namespace Go.Proofs.YtoeggiplcaegoaaGreatDoor
open Go.RowKit Go.ChangeShapes Go.WideShapes
structure FY where
  gp : Nat
  l : Int
  b : Int
  h : Int
  op : Value
def FSeg (X : FY) (w : World) (g : Nat) (tl : Bool) (la cj pi : Int) (od : Bool) : Prop := Has w g [.pointer (some ⟨X.gp, 0, none⟩), .int .u8 X.l, .int .i32 X.b, .int .i64 X.h, .bool tl, .int .i64 la, .int .u8 cj, .int .u8 pi, .bool od, X.op] 143
section
variable {X : FY}
set_option maxRecDepth 100000 in
set_option maxHeartbeats 4000000 in
theorem fs_joins_any (g : Nat) (tl : Bool) (la cj pi : Int) (od : Bool) (br : Int) (pc : Bool) (cv ea : Int) (w : World) (hs : FSeg X w g tl la cj pi od) :
    Calls Tryz.prog 201 #[.pointer (some ⟨g, 4, none⟩), .agg #[.int .i64 br, .bool pc, .int .i64 cv, .int .i64 ea]] w (Gives w (.bool (joinsB tl la cj pi od br pc cv))) := by
  rcases joins_cases tl la cj pi od br pc cv with ⟨rfl, hv⟩ | ⟨rfl, h1, hv⟩ | ⟨rfl, h1, h2, h3, hv⟩ | ⟨rfl, h1, h2 | ⟨h2, h2'⟩, rfl, h3, hv⟩ | ⟨rfl, h1, h2 | ⟨h2, h2'⟩, rfl | ⟨rfl, h3⟩, ⟨h4, hv⟩ | ⟨h4, hv⟩⟩
  · rw [hv]
    have c0 := hs.cell 4 _ rfl
    have hl := hs.lt
    clear hs hv
    go_enter Tryz.func201, Tryz.ntmps201
    go_wp2
    go_ret
    exact ⟨(ret_eq (by first | rfl | (simp <;> omega))), (Below.refl _ _).alloc (Nat.le_refl _) _⟩
  all_goals
    have HV := Lib.hid hv
    have cw := hs.cell 4 _ rfl
    have hlw := hs.lt
    clear hv
    go_enter Tryz.func201, Tryz.ntmps201
    go_wp2_with fail
    obtain ⟨W, hW, hb, hl⟩ := pbox w br _ cv ea
    rw [← hW]
    have hs1 : FSeg X W g true la cj pi od := by rw [hW]; exact hs.alloc _
    have c0 := hs1.cell 4 _ rfl
    have e0 := ext_cell (hb.cell 0 _ rfl)
    have e1 := ext_cell (hs1.cell 5 _ rfl)
    have HB := Lib.hid hb
    have HS := Lib.hid hs1
    have HL := Lib.hid hl
    clear hb hs1 hl hW hs cw hlw
    refine wp_region_ext (by kernel_rfl) (by kernel_rfl) ?_
    repeat (go_big_quiet_step ((go_at_call 249; exact callx_same (join_any la br _))))
    refine wpQuiet_nil ?_
    intro _ hw'
    obtain ⟨u, hw''⟩ := hw'
    subst hw''
    obtain ⟨W2, hW2⟩ : ∃ W2, W2 = ext W u := ⟨_, rfl⟩
    rw [← hW2]
    have hb2 := HB.out.below u.ok HB.out.lt
    rw [show u.tz9 = W2 from hW2.symm] at hb2
    have hs2 : FSeg X W2 g true la cj pi od := by rw [hW2]; exact HS.out.below u.ok HS.out.lt
    have hl2 : Below w.heap.size w W2 := by rw [hW2]; exact ext_below HL.out u
    clear hW2 HB HS HL e0 e1 c0
    have b0 := hb2.cell 0 _ rfl
    have b1 := hb2.cell 1 _ rfl
    have b2 := hb2.cell 2 _ rfl
    have c2 := hs2.cell 6 _ rfl
    have c3 := hs2.cell 7 _ rfl
    have c4 := hs2.cell 8 _ rfl
    clear hb2 hs2
    go_wp2
    go_ret
    exact ⟨ret_eq (by rw [HV.out]; rfl), hl2⟩
def fs_SegStepped (X : FY) (w : World) (g : Nat) (j : Bool) (tl : Bool) (la cj pi : Int) (od : Bool) (e : Ending) (w' : World) : Prop := e = .returned (.bool j) ∧ FSeg X w' g tl la cj pi od ∧ But g w.heap.size w w'
theorem fs_seg_five (w : World) (g : Nat) (a b c d e : Value) {tl : Bool} {la cj pi : Int} {od : Bool} (h : FSeg X w g tl la cj pi od) :
    Has (((((w.setCell ⟨g, 4, none⟩ a).setCell ⟨g, 5, none⟩ b).setCell ⟨g, 6, none⟩ c).setCell ⟨g, 7, none⟩ d).setCell ⟨g, 8, none⟩ e) g [.pointer (some ⟨X.gp, 0, none⟩), .int .u8 X.l, .int .i32 X.b, .int .i64 X.h, a, b, c, d, e, X.op] 143 ∧
    But g w.heap.size w (((((w.setCell ⟨g, 4, none⟩ a).setCell ⟨g, 5, none⟩ b).setCell ⟨g, 6, none⟩ c).setCell ⟨g, 7, none⟩ d).setCell ⟨g, 8, none⟩ e) :=
  ⟨((((h.set 4 a).set 5 b).set 6 c).set 7 d).set 8 e, (((((But.refl _ _ _).set 4 _).set 5 _).set 6 _).set 7 _).set 8 _⟩
set_option maxRecDepth 100000 in
set_option maxHeartbeats 2000000 in
theorem fs_step_false_no (g : Nat) (tl : Bool) (la cj pi : Int) (br : Int) (pc : Bool) (cv ea : Int) (w : World) (hs : FSeg X w g tl la cj pi false) (c0 : 0 ≤ cj) (c1 : cj ≤ 255) (p0 : 0 ≤ pi) (p1 : pi ≤ 255) (h6 : (br == 6) = false) :
    Calls Tryz.prog 150 #[.pointer (some ⟨g, 4, none⟩), .agg #[.int .i64 br, .bool pc, .int .i64 cv, .int .i64 ea]] w (fs_SegStepped X w g (joinsB tl la cj pi false br pc cv) true br (conjI cj cv) (picI pi br pc) false) := by
  have HS := Lib.hid hs
  have hg := hs.lt
  clear hs
  go_enter Tryz.func150, Tryz.ntmps150
  go_wp2_with fail
  obtain ⟨W, hW, hb, hl⟩ := pbox w br pc cv ea
  rw [← hW]
  have hs1 : FSeg X W g tl la cj pi false := by rw [hW]; exact HS.out.alloc _
  clear hW HS
  refine (fs_joins_any g tl la cj pi false br pc cv ea W hs1).mono ?_
  rintro e w1 ⟨rfl, b1⟩
  have hs2 : FSeg X w1 g tl la cj pi false := hs1.below b1 hs1.lt
  have hb2 := hb.below b1 hb.lt
  have hl2 := hl.trans (b1.mono hl.size)
  clear hs1 hb hl b1
  have e0 := ext_cell (hb2.cell 0 _ rfl)
  have e1 := ext_cell (hb2.cell 1 _ rfl)
  have e2 := ext_cell (hb2.cell 2 _ rfl)
  have e3 := ext_cell (hb2.cell 3 _ rfl)
  have s0 := ext_cell (hs2.cell 4 _ rfl)
  have s1 := ext_cell (hs2.cell 5 _ rfl)
  have s2 := ext_cell (hs2.cell 6 _ rfl)
  have s3 := ext_cell (hs2.cell 7 _ rfl)
  have s4 := ext_cell (hs2.cell 8 _ rfl)
  have f0 := ext_free (by simpa using hs2.lt) (hs2.free 4)
  have f1 := ext_free (by simpa using hs2.lt) (hs2.free 5)
  have f2 := ext_free (by simpa using hs2.lt) (hs2.free 6)
  have f3 := ext_free (by simpa using hs2.lt) (hs2.free 7)
  have f4 := ext_free (by simpa using hs2.lt) (hs2.free 8)
  have HS2 := Lib.hid hs2
  have HL2 := Lib.hid hl2
  clear hs2 hb2 hl2
  go_wp2_with fail
  refine wp_region_ext_tail 27 (by kernel_rfl) (by simp) (by kernel_rfl) (by kernel_rfl) (by kernel_rfl) (by kernel_rfl) (by kernel_rfl) ?_
  simp only [List.take_succ_cons, List.take_zero, List.drop_succ_cons, List.drop_zero]
  repeat (go_big_quiet_step ((first | (go_at_call 202; exact callx (conj_any cj br pc cv ea _ c0 c1)) | (go_at_call 203; exact callx (pic_any pi br pc cv ea _ p0 p1)))))
  refine wpQuiet_nil ?_
  intro _ hw'
  obtain ⟨u, hw''⟩ := hw'
  subst hw''
  have hs3 : FSeg X (ext w1 u) g tl la cj pi false := HS2.out.below u.ok HS2.out.lt
  have hl3 := ext_below HL2.out u
  have hz := fs_seg_five (ext w1 u) g (.bool true) (.int .i64 br) (.int .u8 (conjI cj cv)) (.int .u8 (picI pi br pc)) (.bool false) hs3
  have HZ := Lib.hid hz
  have HL3 := Lib.hid hl3
  clear hs3 hl3 hz HS2 HL2
  go_wp2
  go_ret
  exact ⟨rfl, HZ.out.1, (But.ofBelow HL3.out).trans (HZ.out.2.mono HL3.out.size)⟩
set_option maxRecDepth 100000 in
set_option maxHeartbeats 2000000 in
theorem fs_step_false_six (g : Nat) (tl : Bool) (la cj pi : Int) (br : Int) (pc : Bool) (cv ea : Int) (w : World) (hs : FSeg X w g tl la cj pi false) (c0 : 0 ≤ cj) (c1 : cj ≤ 255) (p0 : 0 ≤ pi) (p1 : pi ≤ 255) (h6 : (br == 6) = true) :
    Calls Tryz.prog 150 #[.pointer (some ⟨g, 4, none⟩), .agg #[.int .i64 br, .bool pc, .int .i64 cv, .int .i64 ea]] w (fs_SegStepped X w g (joinsB tl la cj pi false br pc cv) true br (conjI cj cv) (picI pi br pc) true) := by
  have HS := Lib.hid hs
  have hg := hs.lt
  clear hs
  go_enter Tryz.func150, Tryz.ntmps150
  go_wp2_with fail
  obtain ⟨W, hW, hb, hl⟩ := pbox w br pc cv ea
  rw [← hW]
  have hs1 : FSeg X W g tl la cj pi false := by rw [hW]; exact HS.out.alloc _
  clear hW HS
  refine (fs_joins_any g tl la cj pi false br pc cv ea W hs1).mono ?_
  rintro e w1 ⟨rfl, b1⟩
  have hs2 : FSeg X w1 g tl la cj pi false := hs1.below b1 hs1.lt
  have hb2 := hb.below b1 hb.lt
  have hl2 := hl.trans (b1.mono hl.size)
  clear hs1 hb hl b1
  have e0 := ext_cell (hb2.cell 0 _ rfl)
  have e1 := ext_cell (hb2.cell 1 _ rfl)
  have e2 := ext_cell (hb2.cell 2 _ rfl)
  have e3 := ext_cell (hb2.cell 3 _ rfl)
  have s0 := ext_cell (hs2.cell 4 _ rfl)
  have s1 := ext_cell (hs2.cell 5 _ rfl)
  have s2 := ext_cell (hs2.cell 6 _ rfl)
  have s3 := ext_cell (hs2.cell 7 _ rfl)
  have s4 := ext_cell (hs2.cell 8 _ rfl)
  have f0 := ext_free (by simpa using hs2.lt) (hs2.free 4)
  have f1 := ext_free (by simpa using hs2.lt) (hs2.free 5)
  have f2 := ext_free (by simpa using hs2.lt) (hs2.free 6)
  have f3 := ext_free (by simpa using hs2.lt) (hs2.free 7)
  have f4 := ext_free (by simpa using hs2.lt) (hs2.free 8)
  have HS2 := Lib.hid hs2
  have HL2 := Lib.hid hl2
  clear hs2 hb2 hl2
  go_wp2_with fail
  refine wp_region_ext_tail 27 (by kernel_rfl) (by simp) (by kernel_rfl) (by kernel_rfl) (by kernel_rfl) (by kernel_rfl) (by kernel_rfl) ?_
  simp only [List.take_succ_cons, List.take_zero, List.drop_succ_cons, List.drop_zero]
  repeat (go_big_quiet_step ((first | (go_at_call 202; exact callx (conj_any cj br pc cv ea _ c0 c1)) | (go_at_call 203; exact callx (pic_any pi br pc cv ea _ p0 p1)))))
  refine wpQuiet_nil ?_
  intro _ hw'
  obtain ⟨u, hw''⟩ := hw'
  subst hw''
  have hs3 : FSeg X (ext w1 u) g tl la cj pi false := HS2.out.below u.ok HS2.out.lt
  have hl3 := ext_below HL2.out u
  have hz := fs_seg_five (ext w1 u) g (.bool true) (.int .i64 br) (.int .u8 (conjI cj cv)) (.int .u8 (picI pi br pc)) (.bool true) hs3
  have HZ := Lib.hid hz
  have HL3 := Lib.hid hl3
  clear hs3 hl3 hz HS2 HL2
  go_wp2
  go_ret
  exact ⟨rfl, HZ.out.1, (But.ofBelow HL3.out).trans (HZ.out.2.mono HL3.out.size)⟩
set_option maxRecDepth 100000 in
set_option maxHeartbeats 2000000 in
theorem fs_step_true_no (g : Nat) (tl : Bool) (la cj pi : Int) (br : Int) (pc : Bool) (cv ea : Int) (w : World) (hs : FSeg X w g tl la cj pi true) (c0 : 0 ≤ cj) (c1 : cj ≤ 255) (p0 : 0 ≤ pi) (p1 : pi ≤ 255) (h6 : (br == 6) = false) :
    Calls Tryz.prog 150 #[.pointer (some ⟨g, 4, none⟩), .agg #[.int .i64 br, .bool pc, .int .i64 cv, .int .i64 ea]] w (fs_SegStepped X w g (joinsB tl la cj pi true br pc cv) true br (conjI cj cv) (picI pi br pc) false) := by
  have HS := Lib.hid hs
  have hg := hs.lt
  clear hs
  go_enter Tryz.func150, Tryz.ntmps150
  go_wp2_with fail
  obtain ⟨W, hW, hb, hl⟩ := pbox w br pc cv ea
  rw [← hW]
  have hs1 : FSeg X W g tl la cj pi true := by rw [hW]; exact HS.out.alloc _
  clear hW HS
  refine (fs_joins_any g tl la cj pi true br pc cv ea W hs1).mono ?_
  rintro e w1 ⟨rfl, b1⟩
  have hs2 : FSeg X w1 g tl la cj pi true := hs1.below b1 hs1.lt
  have hb2 := hb.below b1 hb.lt
  have hl2 := hl.trans (b1.mono hl.size)
  clear hs1 hb hl b1
  have e0 := ext_cell (hb2.cell 0 _ rfl)
  have e1 := ext_cell (hb2.cell 1 _ rfl)
  have e2 := ext_cell (hb2.cell 2 _ rfl)
  have e3 := ext_cell (hb2.cell 3 _ rfl)
  have s0 := ext_cell (hs2.cell 4 _ rfl)
  have s1 := ext_cell (hs2.cell 5 _ rfl)
  have s2 := ext_cell (hs2.cell 6 _ rfl)
  have s3 := ext_cell (hs2.cell 7 _ rfl)
  have s4 := ext_cell (hs2.cell 8 _ rfl)
  have f0 := ext_free (by simpa using hs2.lt) (hs2.free 4)
  have f1 := ext_free (by simpa using hs2.lt) (hs2.free 5)
  have f2 := ext_free (by simpa using hs2.lt) (hs2.free 6)
  have f3 := ext_free (by simpa using hs2.lt) (hs2.free 7)
  have f4 := ext_free (by simpa using hs2.lt) (hs2.free 8)
  have HS2 := Lib.hid hs2
  have HL2 := Lib.hid hl2
  clear hs2 hb2 hl2
  go_wp2_with fail
  refine wp_region_ext_tail 27 (by kernel_rfl) (by simp) (by kernel_rfl) (by kernel_rfl) (by kernel_rfl) (by kernel_rfl) (by kernel_rfl) ?_
  simp only [List.take_succ_cons, List.take_zero, List.drop_succ_cons, List.drop_zero]
  repeat (go_big_quiet_step ((first | (go_at_call 202; exact callx (conj_any cj br pc cv ea _ c0 c1)) | (go_at_call 203; exact callx (pic_any pi br pc cv ea _ p0 p1)))))
  refine wpQuiet_nil ?_
  intro _ hw'
  obtain ⟨u, hw''⟩ := hw'
  subst hw''
  have hs3 : FSeg X (ext w1 u) g tl la cj pi true := HS2.out.below u.ok HS2.out.lt
  have hl3 := ext_below HL2.out u
  have hz := fs_seg_five (ext w1 u) g (.bool true) (.int .i64 br) (.int .u8 (conjI cj cv)) (.int .u8 (picI pi br pc)) (.bool false) hs3
  have HZ := Lib.hid hz
  have HL3 := Lib.hid hl3
  clear hs3 hl3 hz HS2 HL2
  go_wp2
  go_ret
  exact ⟨rfl, HZ.out.1, (But.ofBelow HL3.out).trans (HZ.out.2.mono HL3.out.size)⟩
set_option maxRecDepth 100000 in
set_option maxHeartbeats 2000000 in
theorem fs_step_true_six (g : Nat) (tl : Bool) (la cj pi : Int) (br : Int) (pc : Bool) (cv ea : Int) (w : World) (hs : FSeg X w g tl la cj pi true) (c0 : 0 ≤ cj) (c1 : cj ≤ 255) (p0 : 0 ≤ pi) (p1 : pi ≤ 255) (h6 : (br == 6) = true) :
    Calls Tryz.prog 150 #[.pointer (some ⟨g, 4, none⟩), .agg #[.int .i64 br, .bool pc, .int .i64 cv, .int .i64 ea]] w (fs_SegStepped X w g (joinsB tl la cj pi true br pc cv) true br (conjI cj cv) (picI pi br pc) false) := by
  have HS := Lib.hid hs
  have hg := hs.lt
  clear hs
  go_enter Tryz.func150, Tryz.ntmps150
  go_wp2_with fail
  obtain ⟨W, hW, hb, hl⟩ := pbox w br pc cv ea
  rw [← hW]
  have hs1 : FSeg X W g tl la cj pi true := by rw [hW]; exact HS.out.alloc _
  clear hW HS
  refine (fs_joins_any g tl la cj pi true br pc cv ea W hs1).mono ?_
  rintro e w1 ⟨rfl, b1⟩
  have hs2 : FSeg X w1 g tl la cj pi true := hs1.below b1 hs1.lt
  have hb2 := hb.below b1 hb.lt
  have hl2 := hl.trans (b1.mono hl.size)
  clear hs1 hb hl b1
  have e0 := ext_cell (hb2.cell 0 _ rfl)
  have e1 := ext_cell (hb2.cell 1 _ rfl)
  have e2 := ext_cell (hb2.cell 2 _ rfl)
  have e3 := ext_cell (hb2.cell 3 _ rfl)
  have s0 := ext_cell (hs2.cell 4 _ rfl)
  have s1 := ext_cell (hs2.cell 5 _ rfl)
  have s2 := ext_cell (hs2.cell 6 _ rfl)
  have s3 := ext_cell (hs2.cell 7 _ rfl)
  have s4 := ext_cell (hs2.cell 8 _ rfl)
  have f0 := ext_free (by simpa using hs2.lt) (hs2.free 4)
  have f1 := ext_free (by simpa using hs2.lt) (hs2.free 5)
  have f2 := ext_free (by simpa using hs2.lt) (hs2.free 6)
  have f3 := ext_free (by simpa using hs2.lt) (hs2.free 7)
  have f4 := ext_free (by simpa using hs2.lt) (hs2.free 8)
  have HS2 := Lib.hid hs2
  have HL2 := Lib.hid hl2
  clear hs2 hb2 hl2
  go_wp2_with fail
  refine wp_region_ext_tail 27 (by kernel_rfl) (by simp) (by kernel_rfl) (by kernel_rfl) (by kernel_rfl) (by kernel_rfl) (by kernel_rfl) ?_
  simp only [List.take_succ_cons, List.take_zero, List.drop_succ_cons, List.drop_zero]
  repeat (go_big_quiet_step ((first | (go_at_call 202; exact callx (conj_any cj br pc cv ea _ c0 c1)) | (go_at_call 203; exact callx (pic_any pi br pc cv ea _ p0 p1)))))
  refine wpQuiet_nil ?_
  intro _ hw'
  obtain ⟨u, hw''⟩ := hw'
  subst hw''
  have hs3 : FSeg X (ext w1 u) g tl la cj pi true := HS2.out.below u.ok HS2.out.lt
  have hl3 := ext_below HL2.out u
  have hz := fs_seg_five (ext w1 u) g (.bool true) (.int .i64 br) (.int .u8 (conjI cj cv)) (.int .u8 (picI pi br pc)) (.bool false) hs3
  have HZ := Lib.hid hz
  have HL3 := Lib.hid hl3
  clear hs3 hl3 hz HS2 HL2
  go_wp2
  go_ret
  exact ⟨rfl, HZ.out.1, (But.ofBelow HL3.out).trans (HZ.out.2.mono HL3.out.size)⟩
theorem fs_step_any (g : Nat) (tl : Bool) (la cj pi : Int) (od : Bool) (br : Int) (pc : Bool) (cv ea : Int) (w : World) (hs : FSeg X w g tl la cj pi od) (c0 : 0 ≤ cj) (c1 : cj ≤ 255) (p0 : 0 ≤ pi) (p1 : pi ≤ 255) :
    Calls Tryz.prog 150 #[.pointer (some ⟨g, 4, none⟩), .agg #[.int .i64 br, .bool pc, .int .i64 cv, .int .i64 ea]] w (fs_SegStepped X w g (joinsB tl la cj pi od br pc cv) true br (conjI cj cv) (picI pi br pc) (br == 6 && !od)) := by
  cases h6 : (br == 6) <;> cases od
  · exact fs_step_false_no g tl la cj pi br pc cv ea w hs c0 c1 p0 p1 h6
  · exact fs_step_true_no g tl la cj pi br pc cv ea w hs c0 c1 p0 p1 h6
  · exact fs_step_false_six g tl la cj pi br pc cv ea w hs c0 c1 p0 p1 h6
  · exact fs_step_true_six g tl la cj pi br pc cv ea w hs c0 c1 p0 p1 h6
end
end Go.Proofs.YtoeggiplcaegoaaGreatDoor
/- The properties of a row of numbers. -/
namespace Go.Proofs.YtoeggiplcaegoaaGreatDoor
open Go.RowKit Go.ChangeShapes Go.WideShapes
def knownPr (r : Int) : Pr := ⟨gcbI r, inTab tPict r, conjO r, eastI r⟩
def knownL (xs : List Int) : List Pr := xs.map knownPr
end Go.Proofs.YtoeggiplcaegoaaGreatDoor
/- Where clusters begin: grapheme.Starts; the reference's Props and Starts. -/
namespace Go.Proofs.YtoeggiplcaegoaaGreatDoor
open Go.RowKit Go.ChangeShapes Go.WideShapes
end Go.Proofs.YtoeggiplcaegoaaGreatDoor
/- grapheme.All: its iterator's contract. -/
namespace Go.Proofs.YtoeggiplcaegoaaGreatDoor
open Go.RowKit Go.ChangeShapes Go.WideShapes
attribute [local go_sem] Oper.semAt_some
theorem jR_zero (xs : List Pr) : jR xs 0 = false := by
  rw [jR_st]
  simp [joinsB]
/-- A cluster that is handed out: from where to where, as which slice. -/
structure Cu where
  p : Nat × Nat
  v : Value
def XCu (xs : List Int) (lo hi : Nat) (x : Cu) (W : World) : Prop := ∃ g, x.v = .slice (some ⟨g, x.p.1, none⟩) (x.p.2 - x.p.1) (x.p.2 - x.p.1) ∧ lo ≤ g ∧ g < hi ∧ g < W.heap.size ∧ x.p.1 < x.p.2 ∧ x.p.2 ≤ xs.length ∧ ∀ i, i < xs.length → W.cell? ⟨g, i, none⟩ = some (.int .i32 (xs.getD i 0))
def clS (xs : List Int) : List (Nat × Nat) := spansB (jR (knownL xs)) xs.length
end Go.Proofs.YtoeggiplcaegoaaGreatDoor
/- grapheme.All and Clusters: contracts. -/
namespace Go.Proofs.YtoeggiplcaegoaaGreatDoor
open Go.RowKit Go.ChangeShapes Go.WideShapes
attribute [local go_sem] Oper.semAt_some
section
variable {P : Program} {F : Fence} {nf : Nat} {α : Type} {E : Elem α} {Z : Zone} {w : World} {v u : Value} {L M : List α} {B : Nat} {ty : TypeId}
end
end Go.Proofs.YtoeggiplcaegoaaGreatDoor
/- grapheme.Clusters: contract. -/
namespace Go.Proofs.YtoeggiplcaegoaaGreatDoor
open Go.RowKit Go.ChangeShapes Go.WideShapes
attribute [local go_sem] Oper.semAt_some
def cluA (xs : List Int) : List (List Int) := (clS xs).map (sliceL xs)
theorem XCu.held {xs : List Int} {lo hi : Nat} {x : Cu} {W : World} (h : XCu xs lo hi x W) : Held .i32 W x.v (sliceL xs x.p) := by
  obtain ⟨g, hv, h1, h2, h3, h4, h5, h6⟩ := h
  have hl := sliceL_len xs x.p (Nat.le_of_lt h4) h5
  rw [hv, ← hl]
  refine held_at h3 fun i hi => ?_
  rw [hl] at hi
  rw [h6 _ (by omega)]
  congr 2
  unfold sliceL
  simp [List.getD, List.getElem?_take, hi, List.getElem?_drop]
theorem XCu.upd {xs : List Int} {lo hi : Nat} {x : Cu} {W W' : World} {S : Zone} (h : XCu xs lo hi x W) (hu : Upd S W W') (hs : ∀ b, lo ≤ b → b < hi → ¬ S b) : XCu xs lo hi x W' := by
  obtain ⟨g, hv, h1, h2, h3, h4, h5, h6⟩ := h
  exact ⟨g, hv, h1, h2, Nat.lt_of_lt_of_le h3 hu.size, h4, h5, fun i hi => (hu.keep.cell h3 (hs g h1 h2)).trans (h6 i hi)⟩
end Go.Proofs.YtoeggiplcaegoaaGreatDoor
/- The reference's Clusters (16); Count. -/
namespace Go.Proofs.YtoeggiplcaegoaaGreatDoor
open Go.RowKit Go.ChangeShapes Go.WideShapes
end Go.Proofs.YtoeggiplcaegoaaGreatDoor
/- Count; the works of layer 16. -/
namespace Go.Proofs.YtoeggiplcaegoaaGreatDoor
open Go.RowKit Go.ChangeShapes Go.WideShapes
end Go.Proofs.YtoeggiplcaegoaaGreatDoor
/- Rows of numbers that are arguments. -/
namespace Go.Proofs.YtoeggiplcaegoaaGreatDoor
open Go.RowKit Go.ChangeShapes Go.WideShapes
end Go.Proofs.YtoeggiplcaegoaaGreatDoor
/- Clusters in a row: what came so far is the beginning of the row. -/
namespace Go.Proofs.YtoeggiplcaegoaaGreatDoor
open Go.RowKit Go.ChangeShapes Go.WideShapes
end Go.Proofs.YtoeggiplcaegoaaGreatDoor
/- Clusters of two rows, of which the second one begins with one that breaks: numbers alone. -/
namespace Go.Proofs.YtoeggiplcaegoaaGreatDoor
open Go.RowKit Go.ChangeShapes Go.WideShapes
def apartT (A B : List (Int × Int)) : Bool := A.all fun p => B.all fun q => decide (p.2 < q.1) || decide (q.2 < p.1)
theorem apart_tab {A B : List (Int × Int)} (h : apartT A B = true) {r : Int} (ha : inTab A r = true) : inTab B r = false := by
  cases hb : inTab B r with
  | false => rfl
  | true =>
    obtain ⟨p, hp, h1⟩ := List.any_eq_true.1 ha
    obtain ⟨q, hq, h2⟩ := List.any_eq_true.1 hb
    have h3 := List.all_eq_true.1 (List.all_eq_true.1 h p hp) q hq
    simp at h1 h2 h3
    omega
theorem ctrl_pict : apartT tControl tPict = true := by decide +kernel
theorem ctrl_cons : apartT tControl tCons = true := by decide +kernel
theorem ctrl_link : apartT tControl tLink = true := by decide +kernel
theorem ctrl_join : apartT tControl tJoin = true := by decide +kernel
theorem class_ends (r : Int) : classI r = 0 ∨ 9 ≤ classI r := by
  unfold classI
  repeat' split
  all_goals omega
/-- What breaks on both sides is no picture, and has no part in a conjunct. -/
theorem ctrl_plain {r : Int} (h : 1 ≤ gcbI r ∧ gcbI r ≤ 3) : inTab tPict r = false ∧ conjO r = 0 := by
  have hc : r = 13 ∨ r = 10 ∨ inTab tControl r = true := by
    by_cases h1 : r = 13
    · exact .inl h1
    by_cases h2 : r = 10
    · exact .inr (.inl h2)
    right; right
    cases hi : inTab tControl r with
    | true => rfl
    | false =>
      exfalso
      unfold gcbI listedI at h
      rw [if_neg h1, if_neg h2, hi] at h
      simp only [Bool.false_eq_true, if_false] at h
      have hcl := class_ends r
      repeat' split at h
      all_goals omega
  rcases hc with rfl | rfl | hc
  · exact ⟨by decide +kernel, by decide +kernel⟩
  · exact ⟨by decide +kernel, by decide +kernel⟩
  · refine ⟨apart_tab ctrl_pict hc, ?_⟩
    unfold conjO
    rw [apart_tab ctrl_cons hc, apart_tab ctrl_link hc, apart_tab ctrl_join hc]
    rfl
theorem sts_congr {xs ys : List Pr} : ∀ k, (∀ i, i < k → xs.getD i Pr.none = ys.getD i Pr.none) → cSt xs k = cSt ys k ∧ pSt xs k = pSt ys k ∧ oSt xs k = oSt ys k ∧ lSt xs k = lSt ys k
  | 0, _ => ⟨rfl, rfl, rfl, rfl⟩
  | k + 1, h => by
    obtain ⟨h1, h2, h3, _⟩ := sts_congr k fun i hi => h i (by omega)
    have h5 := h k (by omega)
    simp only [cSt, pSt, oSt, lSt]
    rw [h1, h2, h3, h5]
    exact ⟨rfl, rfl, rfl, rfl⟩
theorem jR_congr {xs ys : List Pr} (k : Nat) (h : ∀ i, i < k + 1 → xs.getD i Pr.none = ys.getD i Pr.none) : jR xs k = jR ys k := by
  obtain ⟨h1, h2, h3, h4⟩ := sts_congr k fun i hi => h i (by omega)
  rw [jR_st, jR_st, h1, h2, h3, h4, h k (by omega)]
theorem known_left (a b : List Int) (i : Nat) (h : i < a.length) : (knownL (a ++ b)).getD i Pr.none = (knownL a).getD i Pr.none := by
  unfold knownL
  rw [List.map_append]
  simp [List.getD, List.getElem?_append_left (show i < (a.map knownPr).length by simpa using h)]
theorem known_right (a b : List Int) (i : Nat) : (knownL (a ++ b)).getD (a.length + i) Pr.none = (knownL b).getD i Pr.none := by
  unfold knownL
  rw [List.map_append, List.getD, List.getElem?_append_right (by simp)]
  simp [List.getD]
end Go.Proofs.YtoeggiplcaegoaaGreatDoor
/- The feeder's maths: the clusters of a row that grows, and the segmenter's state behind it. Of no program's code. -/
namespace Go.Proofs.YtoeggiplcaegoaaGreatDoor
open Go.RowKit Go.ChangeShapes Go.WideShapes
theorem sil_ctrl {r : Int} (h : silB r = true) : 1 ≤ gcbI r ∧ gcbI r ≤ 3 := by
  have hk : ∀ n : Fin 160, silB ((n.1 : Nat) : Int) = true → 1 ≤ gcbI ((n.1 : Nat) : Int) ∧ gcbI ((n.1 : Nat) : Int) ≤ 3 := by decide +kernel
  have hr : 0 ≤ r ∧ r < 160 := by
    unfold silB at h
    simp at h
    omega
  have := hk ⟨r.toNat, by omega⟩
  simp only [Int.toNat_of_nonneg hr.1] at this
  exact this h
theorem listed_ne (r : Int) : listedI r ≠ 1 ∧ listedI r ≠ 2 := by
  unfold listedI
  repeat' split
  all_goals omega
theorem sil_two {r : Int} (h : silB r = false) : gcbI r ≠ 1 ∧ gcbI r ≠ 2 := by
  have h1 : r ≠ 13 := by rintro rfl; exact absurd h (by decide)
  have h2 : r ≠ 10 := by rintro rfl; exact absurd h (by decide)
  have hl := listed_ne r
  have hc := class_ends r
  unfold gcbI
  rw [if_neg h1, if_neg h2]
  repeat' split
  all_goals omega
theorem join_ctrl {a b : Int} (h : 1 ≤ a ∧ a ≤ 3) : joinI a b = (if a = 1 ∧ clI b = 2 then 1 else 0) := by
  unfold joinI
  have ha : clI a = a := by unfold clI; split <;> omega
  rw [ha]
  unfold pairI
  by_cases e : a = 1 ∧ clI b = 2
  · rw [if_pos e, if_pos e]
  · have hb : brB a = true := by unfold brB; simp; omega
    rw [if_neg e, if_neg e, if_pos (.inl hb)]
theorem snoc_cases (xs : List Int) : xs = [] ∨ ∃ ys r, xs = ys ++ [r] := by
  rcases List.eq_nil_or_concat xs with h | ⟨ys, r, h⟩
  · exact .inl h
  · exact .inr ⟨ys, r, by rw [h, List.concat_eq_append]⟩
theorem cl_two {b : Int} : clI b = 2 ↔ b = 2 := by unfold clI; split <;> omega
section
variable {α : Type}
theorem sliceL_left (T S : List α) (p : Nat × Nat) (h1 : p.1 ≤ p.2) (h2 : p.2 ≤ T.length) : sliceL (T ++ S) p = sliceL T p := by
  unfold sliceL
  rw [List.drop_append_of_le_length (by omega), List.take_append_of_le_length (by rw [List.length_drop]; omega)]
theorem sliceL_end (T : List α) (x : α) (a : Nat) (h : a ≤ T.length) : sliceL (T ++ [x]) (a, T.length + 1) = sliceL T (a, T.length) ++ [x] := by
  unfold sliceL
  rw [List.drop_append_of_le_length h, List.take_of_length_le (by rw [List.length_append, List.length_drop, List.length_singleton]; simp only; omega), List.take_of_length_le (by rw [List.length_drop]; exact Nat.le_refl _)]
end
/-- The clusters that are whole; the last one. -/
def doneC (xs : List Int) : List (List Int) := (doneS (jR (knownL xs)) xs.length).map (sliceL xs)
def lastC (xs : List Int) : List Int := sliceL xs (lastS (jR (knownL xs)) xs.length, xs.length)
theorem cluA_eq {xs : List Int} (h : xs ≠ []) : cluA xs = doneC xs ++ [lastC xs] := by
  have hn : xs.length ≠ 0 := fun e => h (List.length_eq_zero_iff.1 e)
  unfold cluA clS spansB doneC lastC
  rw [if_neg hn, List.map_append]
  rfl
/-- Does a number join the last cluster? -/
def joinC (xs : List Int) (r : Int) : Bool := jR (knownL (xs ++ [r])) xs.length
theorem joinC_nil (r : Int) : joinC [] r = false := jR_zero _
theorem join_same (xs : List Int) (r : Int) : doneS (jR (knownL (xs ++ [r]))) xs.length = doneS (jR (knownL xs)) xs.length ∧ lastS (jR (knownL (xs ++ [r]))) xs.length = lastS (jR (knownL xs)) xs.length :=
  doneS_congr _ _ _ fun i hi => jR_congr i fun k hk => known_left xs [r] k (by omega)
theorem done_left (xs : List Int) (r : Int) : (doneS (jR (knownL xs)) xs.length).map (sliceL (xs ++ [r])) = doneC xs := by
  unfold doneC
  apply List.map_congr_left
  intro p hp
  have := doneS_ok _ _ p hp
  exact sliceL_left _ _ _ (by omega) (by omega)
theorem snoc_join {xs : List Int} {r : Int} (h : joinC xs r = true) : doneC (xs ++ [r]) = doneC xs ∧ lastC (xs ++ [r]) = lastC xs ++ [r] := by
  obtain ⟨h1, h2⟩ := join_same xs r
  have hl : (xs ++ [r]).length = xs.length + 1 := by simp
  constructor
  · rw [← done_left xs r]
    conv => lhs; unfold doneC
    rw [hl, doneS_succ, if_pos (.inl h), h1]
  · conv => lhs; unfold lastC
    rw [hl, lastS_succ, if_pos (.inl h), h2, sliceL_end _ _ _ (lastS_le _ _)]
    rfl
theorem snoc_new {xs : List Int} {r : Int} (h : joinC xs r = false) : doneC (xs ++ [r]) = cluA xs ∧ lastC (xs ++ [r]) = [r] := by
  obtain ⟨h1, h2⟩ := join_same xs r
  have hl : (xs ++ [r]).length = xs.length + 1 := by simp
  have hj : ¬ jR (knownL (xs ++ [r])) xs.length = true := by
    have h : jR (knownL (xs ++ [r])) xs.length = false := h
    rw [h]; decide
  by_cases h0 : xs = []
  · subst h0
    exact ⟨rfl, rfl⟩
  · have hn : xs.length ≠ 0 := fun e => h0 (List.length_eq_zero_iff.1 e)
    have hno : ¬ (jR (knownL (xs ++ [r])) xs.length = true ∨ xs.length = 0) := fun e => e.elim hj hn
    constructor
    · conv => lhs; unfold doneC
      rw [hl, doneS_succ, if_neg hno, List.map_append, h1, done_left, h2, cluA_eq h0]
      congr 1
      show [sliceL (xs ++ [r]) (lastS (jR (knownL xs)) xs.length, xs.length)] = [lastC xs]
      rw [sliceL_left _ _ _ (lastS_le _ _) (Nat.le_refl _)]
      rfl
    · conv => lhs; unfold lastC
      rw [hl, lastS_succ, if_neg hno]
      unfold sliceL
      simp
theorem snoc_ne (xs : List Int) (r : Int) : xs ++ [r] ≠ [] := by simp
/-- Is the last number one that shows something? -/
def openB (xs : List Int) : Bool := match xs.getLast? with | none => false | some r => !silB r
theorem openB_snoc (xs : List Int) (r : Int) : openB (xs ++ [r]) = !silB r := by unfold openB; rw [List.getLast?_concat]
/-- The segmenter's state behind a row. -/
def tolS (xs : List Int) : Bool := openB xs
def lasS (xs : List Int) : Int := if openB xs = true then lSt (knownL xs) xs.length else 0
def conS (xs : List Int) : Int := if openB xs = true then cSt (knownL xs) xs.length else 0
def picS (xs : List Int) : Int := if openB xs = true then pSt (knownL xs) xs.length else 0
def oddS (xs : List Int) : Bool := if openB xs = true then oSt (knownL xs) xs.length else false
theorem st_snoc (xs : List Int) (r : Int) : cSt (knownL (xs ++ [r])) xs.length = cSt (knownL xs) xs.length ∧ pSt (knownL (xs ++ [r])) xs.length = pSt (knownL xs) xs.length ∧ oSt (knownL (xs ++ [r])) xs.length = oSt (knownL xs) xs.length ∧ lSt (knownL (xs ++ [r])) xs.length = lSt (knownL xs) xs.length :=
  sts_congr xs.length fun i hi => known_left xs [r] i hi
theorem known_new (xs : List Int) (r : Int) : (knownL (xs ++ [r])).getD xs.length Pr.none = knownPr r := by
  have := known_right xs [r] 0
  rw [Nat.add_zero] at this
  rw [this]
  rfl
theorem st_next (xs : List Int) (r : Int) : cSt (knownL (xs ++ [r])) (xs ++ [r]).length = conjI (cSt (knownL xs) xs.length) (conjO r) ∧ pSt (knownL (xs ++ [r])) (xs ++ [r]).length = picI (pSt (knownL xs) xs.length) (gcbI r) (inTab tPict r) ∧ oSt (knownL (xs ++ [r])) (xs ++ [r]).length = (gcbI r == 6 && !oSt (knownL xs) xs.length) ∧ lSt (knownL (xs ++ [r])) (xs ++ [r]).length = gcbI r := by
  obtain ⟨h1, h2, h3, h4⟩ := st_snoc xs r
  have hl : (xs ++ [r]).length = xs.length + 1 := by simp
  rw [hl]
  simp only [cSt, pSt, oSt, lSt]
  rw [h1, h2, h3, known_new]
  exact ⟨rfl, rfl, rfl, rfl⟩
/-- Behind what is silent nothing is left of a state. -/
theorem st_silent {xs : List Int} (h : openB xs = false) : cSt (knownL xs) xs.length = 0 ∧ pSt (knownL xs) xs.length = 0 ∧ oSt (knownL xs) xs.length = false := by
  rcases snoc_cases xs with rfl | ⟨ys, r, rfl⟩
  · exact ⟨rfl, rfl, rfl⟩
  · rw [openB_snoc] at h
    have hs : silB r = true := by simpa using h
    have hc := sil_ctrl hs
    obtain ⟨p1, p2⟩ := ctrl_plain hc
    obtain ⟨h1, h2, h3, _⟩ := st_next ys r
    rw [h1, h2, h3, p1, p2]
    refine ⟨by unfold conjI; simp, ?_, ?_⟩
    · unfold picI
      generalize pSt (knownL ys) ys.length = s
      rw [if_neg (by decide)]
      by_cases e : s ≠ 1
      · rw [if_pos e]
      · rw [if_neg e, if_neg (by omega), if_neg (by omega)]
    · have : (gcbI r == 6) = false := by simp; omega
      rw [this]; rfl
theorem st_vals (xs : List Int) : conS xs = cSt (knownL xs) xs.length ∧ picS xs = pSt (knownL xs) xs.length ∧ oddS xs = oSt (knownL xs) xs.length := by
  unfold conS picS oddS
  cases h : openB xs with
  | true => exact ⟨rfl, rfl, rfl⟩
  | false =>
    obtain ⟨h1, h2, h3⟩ := st_silent h
    rw [h1, h2, h3]
    exact ⟨rfl, rfl, rfl⟩
/-- What shows something joins nothing that is silent. -/
theorem join_open {xs : List Int} {r : Int} (hr : silB r = false) (ho : openB xs = false) : joinC xs r = false := by
  rcases snoc_cases xs with rfl | ⟨ys, q, rfl⟩
  · exact joinC_nil r
  · have hq : silB q = true := by rw [openB_snoc] at ho; simpa using ho
    obtain ⟨h1, h2, h3⟩ := st_silent ho
    obtain ⟨k1, k2, k3, k4⟩ := st_snoc (ys ++ [q]) r
    unfold joinC
    rw [jR_st, k1, k2, k3, k4, h1, h2, h3, known_new, (st_next ys q).2.2.2]
    have hj : joinI (gcbI q) (gcbI r) ≠ 1 := by
      rw [join_ctrl (sil_ctrl hq)]
      have := (sil_two hr).2
      rw [if_neg (fun e => this (cl_two.1 e.2))]
      decide
    unfold joinsB knownPr
    simp [hj]
/-- The step of the segmenter. -/
theorem seg_joins {xs : List Int} {r : Int} (hr : silB r = false) : joinsB (tolS xs) (lasS xs) (conS xs) (picS xs) (oddS xs) (gcbI r) (inTab tPict r) (conjO r) = joinC xs r := by
  cases ho : openB xs with
  | false =>
    rw [join_open hr ho]
    unfold joinsB tolS
    rw [ho, if_pos rfl]
  | true =>
    have hn : 0 < xs.length := by
      cases xs with
      | nil => cases ho
      | cons => simp
    obtain ⟨k1, k2, k3, k4⟩ := st_snoc xs r
    obtain ⟨v1, v2, v3⟩ := st_vals xs
    unfold joinC
    rw [jR_st, k1, k2, k3, k4, known_new, v1, v2, v3, decide_eq_true hn]
    unfold tolS lasS
    rw [ho, if_pos rfl]
    rfl
theorem seg_next {xs : List Int} {r : Int} (hr : silB r = false) : tolS (xs ++ [r]) = true ∧ lasS (xs ++ [r]) = gcbI r ∧ conS (xs ++ [r]) = conjI (conS xs) (conjO r) ∧ picS (xs ++ [r]) = picI (picS xs) (gcbI r) (inTab tPict r) ∧ oddS (xs ++ [r]) = (gcbI r == 6 && !oddS xs) := by
  have ho : openB (xs ++ [r]) = true := by rw [openB_snoc, hr]; rfl
  obtain ⟨h1, h2, h3, h4⟩ := st_next xs r
  obtain ⟨v1, v2, v3⟩ := st_vals xs
  obtain ⟨u1, u2, u3⟩ := st_vals (xs ++ [r])
  refine ⟨ho, ?_, ?_, ?_, ?_⟩
  · unfold lasS; rw [if_pos ho, h4]
  · rw [u1, h1, v1]
  · rw [u2, h2, v2]
  · rw [u3, h3, v3]
theorem seg_sil {xs : List Int} {r : Int} (hr : silB r = true) : tolS (xs ++ [r]) = false ∧ lasS (xs ++ [r]) = 0 ∧ conS (xs ++ [r]) = 0 ∧ picS (xs ++ [r]) = 0 ∧ oddS (xs ++ [r]) = false := by
  have ho : openB (xs ++ [r]) = false := by rw [openB_snoc, hr]; rfl
  unfold tolS lasS conS picS oddS
  rw [ho]
  exact ⟨rfl, rfl, rfl, rfl, rfl⟩
theorem seg_bd (xs : List Int) : 0 ≤ conS xs ∧ conS xs ≤ 255 ∧ 0 ≤ picS xs ∧ picS xs ≤ 255 := by
  obtain ⟨v1, v2, _⟩ := st_vals xs
  have h1 := cSt_bd (knownL xs) xs.length
  have h2 := pSt_bd (knownL xs) xs.length
  rw [v1, v2]
  omega
/-- The last cluster's first number: it shows something if the last number does. -/
theorem head_open : ∀ (n : Nat) (xs : List Int), xs.length = n → openB xs = true → silB ((lastC xs).getD 0 0) = false ∧ lastC xs ≠ [] := by
  intro n
  induction n with
  | zero =>
    intro xs hn ho
    rw [List.length_eq_zero_iff.1 hn] at ho
    cases ho
  | succ n ih =>
    intro xs hn ho
    rcases snoc_cases xs with rfl | ⟨ys, r, rfl⟩
    · cases ho
    · have hr : silB r = false := by rw [openB_snoc] at ho; simpa using ho
      cases hj : joinC ys r with
      | false =>
        rw [(snoc_new hj).2]
        exact ⟨hr, by simp⟩
      | true =>
        have hy : openB ys = true := by
          cases h : openB ys with
          | true => rfl
          | false => rw [join_open hr h] at hj; cases hj
        obtain ⟨h1, h2⟩ := ih ys (by simp at hn; exact hn) hy
        rw [(snoc_join hj).2]
        refine ⟨?_, by simp⟩
        obtain ⟨a, t, e⟩ := List.exists_cons_of_ne_nil h2
        rw [e] at h1 ⊢
        exact h1
/-- What is silent joins nothing but a CR that stands alone. -/
theorem join_sil {xs : List Int} {r : Int} (hr : silB r = true) (hj : joinC xs r = true) : lastC xs = [13] ∧ openB xs = false ∧ xs ≠ [] := by
  rcases snoc_cases xs with rfl | ⟨ys, q, rfl⟩
  · rw [joinC_nil] at hj; cases hj
  · obtain ⟨k1, k2, k3, k4⟩ := st_snoc (ys ++ [q]) r
    obtain ⟨p1, p2⟩ := ctrl_plain (sil_ctrl hr)
    have hc := sil_ctrl hr
    have hj0 := hj
    unfold joinC at hj
    rw [jR_st, k1, k2, k3, k4, known_new, (st_next ys q).2.2.2] at hj
    have h1 : joinI (gcbI q) (gcbI r) = 1 := by
      unfold joinsB knownPr at hj
      have h6 : (gcbI r == 6) = false := by simp; omega
      simp only [p1, p2, h6] at hj
      by_cases e : joinI (gcbI q) (gcbI r) = 1
      · exact e
      · simp [e] at hj
    have hq : gcbI q = 1 := by
      unfold joinI pairI at h1
      have hr3 : clI (gcbI r) = gcbI r := by unfold clI; split <;> omega
      have hb : brB (clI (gcbI r)) = true := by rw [hr3]; unfold brB; simp; omega
      by_cases e : clI (gcbI q) = 1 ∧ clI (gcbI r) = 2
      · have := e.1; unfold clI at this; split at this <;> omega
      · rw [if_neg e, if_pos (.inr hb)] at h1
        cases h1
    have hq13 : q = 13 := by
      by_cases e : q = 13
      · exact e
      · exfalso
        have hl := listed_ne q
        have hcl := class_ends q
        unfold gcbI at hq
        rw [if_neg e] at hq
        repeat' split at hq
        all_goals omega
    subst hq13
    have hs : silB 13 = true := by decide
    refine ⟨?_, by rw [openB_snoc, hs]; rfl, snoc_ne _ _⟩
    have hn : joinC ys 13 = false := by
      cases hjy : joinC ys 13 with
      | false => rfl
      | true =>
        exfalso
        rcases snoc_cases ys with rfl | ⟨zs, q2, rfl⟩
        · rw [joinC_nil] at hjy; cases hjy
        · obtain ⟨k1, k2, k3, k4⟩ := st_snoc (zs ++ [q2]) 13
          obtain ⟨p1, p2⟩ := ctrl_plain (sil_ctrl hs)
          unfold joinC at hjy
          rw [jR_st, k1, k2, k3, k4, known_new, (st_next zs q2).2.2.2] at hjy
          have h1 : joinI (gcbI q2) (gcbI 13) = 1 := by
            unfold joinsB knownPr at hjy
            have h6 : (gcbI 13 == 6) = false := by decide
            simp only [p1, p2, h6] at hjy
            by_cases e : joinI (gcbI q2) (gcbI 13) = 1
            · exact e
            · simp [e] at hjy
          have h13 : gcbI 13 = 1 := rfl
          rw [h13] at h1
          unfold joinI pairI at h1
          have e1 : clI 1 = 1 := by decide
          rw [e1] at h1
          rw [if_neg (fun e => absurd e.2 (by decide)), if_pos (.inr (by decide))] at h1
          cases h1
    exact (snoc_new hn).2
end Go.Proofs.YtoeggiplcaegoaaGreatDoor
/- Contracts of ucd: codes. -/
namespace Go.Proofs.YtoeggiplcaegoaaGreatDoor
open Go.RowKit Go.ChangeShapes Go.WideShapes
end Go.Proofs.YtoeggiplcaegoaaGreatDoor
/- ucd.Prop: the property with a code; works of layer 13. -/
namespace Go.Proofs.YtoeggiplcaegoaaGreatDoor
open Go.RowKit Go.ChangeShapes Go.WideShapes
end Go.Proofs.YtoeggiplcaegoaaGreatDoor
/- Contracts of basew and of the reference's; works of layer 18. -/
namespace Go.Proofs.YtoeggiplcaegoaaGreatDoor
open Go.RowKit Go.ChangeShapes Go.WideShapes
end Go.Proofs.YtoeggiplcaegoaaGreatDoor
/- basew.Rune and Silent, the reference's; works of layer 18. -/
namespace Go.Proofs.YtoeggiplcaegoaaGreatDoor
open Go.RowKit Go.ChangeShapes Go.WideShapes
end Go.Proofs.YtoeggiplcaegoaaGreatDoor
/- Contracts of cwidth's Gauge. -/
namespace Go.Proofs.YtoeggiplcaegoaaGreatDoor
open Go.RowKit Go.ChangeShapes Go.WideShapes
end Go.Proofs.YtoeggiplcaegoaaGreatDoor
