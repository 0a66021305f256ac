/- Contracts of seg.State's Step and Reset. -/
import Derived.Test.YtkpmmkokfllafaaGreatSegD
namespace Go.Proofs.YtkpmmkokfllafaaGreat
open Go.RowKit Go.ChangeShapes Go.WideShapes
def SegStepped (w : World) (g : Nat) (j : Bool) (tl : Bool) (la cj pi : Int) (od : Bool) (e : Ending) (w' : World) : Prop := e = .returned (.bool j) ∧ SegAt w' g tl la cj pi od ∧ But g w.heap.size w w'
theorem seg_five (w : World) (g : Nat) (a b c d e : Value) {tl : Bool} {la cj pi : Int} {od : Bool} (h : SegAt w g tl la cj pi od) :
    Has (((((w.setCell ⟨g, 0, none⟩ a).setCell ⟨g, 1, none⟩ b).setCell ⟨g, 2, none⟩ c).setCell ⟨g, 3, none⟩ d).setCell ⟨g, 4, none⟩ e) g [a, b, c, d, e] 59 ∧
    But g w.heap.size w (((((w.setCell ⟨g, 0, none⟩ a).setCell ⟨g, 1, none⟩ b).setCell ⟨g, 2, none⟩ c).setCell ⟨g, 3, none⟩ d).setCell ⟨g, 4, none⟩ e) :=
  ⟨((((h.set 0 a).set 1 b).set 2 c).set 3 d).set 4 e, (((((But.refl _ _ _).set 0 _).set 1 _).set 2 _).set 3 _).set 4 _⟩
set_option maxRecDepth 100000 in
set_option maxHeartbeats 2000000 in
theorem step_false_no (g : Nat) (tl : Bool) (la cj pi : Int) (br : Int) (pc : Bool) (cv ea : Int) (w : World) (hs : SegAt w g tl la cj pi false) (c0 : 0 ≤ cj) (c1 : cj ≤ 255) (p0 : 0 ≤ pi) (p1 : pi ≤ 255) (h6 : (br == 6) = false) :
    Calls Tryz.prog 29 #[.pointer (some ⟨g, 0, none⟩), .agg #[.int .i64 br, .bool pc, .int .i64 cv, .int .i64 ea]] w (SegStepped w g (joinsB tl la cj pi false br pc cv) true br (conjI cj cv) (picI pi br pc) false) := by
  have HS := Lib.hid hs
  have hg := hs.lt
  clear hs
  go_enter Tryz.func29, Tryz.ntmps29
  go_wp2_with fail
  obtain ⟨W, hW, hb, hl⟩ := pbox w br pc cv ea
  rw [← hW]
  have hs1 : SegAt W g tl la cj pi false := by rw [hW]; exact HS.out.alloc _
  clear hW HS
  refine (joins_any g tl la cj pi false br pc cv ea W hs1).mono ?_
  rintro e w1 ⟨rfl, b1⟩
  have hs2 : SegAt w1 g tl la cj pi false := hs1.below b1 hs1.lt
  have hb2 := hb.below b1 hb.lt
  have hl2 := hl.trans (b1.mono hl.size)
  clear hs1 hb hl b1
  have e0 := ext_cell (hb2.cell 0 _ rfl)
  have e1 := ext_cell (hb2.cell 1 _ rfl)
  have e2 := ext_cell (hb2.cell 2 _ rfl)
  have e3 := ext_cell (hb2.cell 3 _ rfl)
  have s0 := ext_cell (hs2.cell 0 _ rfl)
  have s1 := ext_cell (hs2.cell 1 _ rfl)
  have s2 := ext_cell (hs2.cell 2 _ rfl)
  have s3 := ext_cell (hs2.cell 3 _ rfl)
  have s4 := ext_cell (hs2.cell 4 _ rfl)
  have f0 := ext_free (by simpa using hs2.lt) (hs2.free 0)
  have f1 := ext_free (by simpa using hs2.lt) (hs2.free 1)
  have f2 := ext_free (by simpa using hs2.lt) (hs2.free 2)
  have f3 := ext_free (by simpa using hs2.lt) (hs2.free 3)
  have f4 := ext_free (by simpa using hs2.lt) (hs2.free 4)
  have HS2 := Lib.hid hs2
  have HL2 := Lib.hid hl2
  clear hs2 hb2 hl2
  go_wp2_with fail
  refine wp_region_ext_tail 27 (by kernel_rfl) (by simp) (by kernel_rfl) (by kernel_rfl) (by kernel_rfl) (by kernel_rfl) (by kernel_rfl) ?_
  simp only [List.take_succ_cons, List.take_zero, List.drop_succ_cons, List.drop_zero]
  repeat (go_big_quiet_step ((first | (go_at_call 42; exact callx (conj_any cj br pc cv ea _ c0 c1)) | (go_at_call 43; exact callx (pic_any pi br pc cv ea _ p0 p1)))))
  refine wpQuiet_nil ?_
  intro _ hw'
  obtain ⟨u, hw''⟩ := hw'
  subst hw''
  have hs3 : SegAt (ext w1 u) g tl la cj pi false := HS2.out.below u.ok HS2.out.lt
  have hl3 := ext_below HL2.out u
  have hz := seg_five (ext w1 u) g (.bool true) (.int .i64 br) (.int .u8 (conjI cj cv)) (.int .u8 (picI pi br pc)) (.bool false) hs3
  have HZ := Lib.hid hz
  have HL3 := Lib.hid hl3
  clear hs3 hl3 hz HS2 HL2
  go_wp2
  go_ret
  exact ⟨rfl, HZ.out.1, (But.ofBelow HL3.out).trans (HZ.out.2.mono HL3.out.size)⟩
set_option maxRecDepth 100000 in
set_option maxHeartbeats 2000000 in
theorem step_false_six (g : Nat) (tl : Bool) (la cj pi : Int) (br : Int) (pc : Bool) (cv ea : Int) (w : World) (hs : SegAt w g tl la cj pi false) (c0 : 0 ≤ cj) (c1 : cj ≤ 255) (p0 : 0 ≤ pi) (p1 : pi ≤ 255) (h6 : (br == 6) = true) :
    Calls Tryz.prog 29 #[.pointer (some ⟨g, 0, none⟩), .agg #[.int .i64 br, .bool pc, .int .i64 cv, .int .i64 ea]] w (SegStepped w g (joinsB tl la cj pi false br pc cv) true br (conjI cj cv) (picI pi br pc) true) := by
  have HS := Lib.hid hs
  have hg := hs.lt
  clear hs
  go_enter Tryz.func29, Tryz.ntmps29
  go_wp2_with fail
  obtain ⟨W, hW, hb, hl⟩ := pbox w br pc cv ea
  rw [← hW]
  have hs1 : SegAt W g tl la cj pi false := by rw [hW]; exact HS.out.alloc _
  clear hW HS
  refine (joins_any g tl la cj pi false br pc cv ea W hs1).mono ?_
  rintro e w1 ⟨rfl, b1⟩
  have hs2 : SegAt w1 g tl la cj pi false := hs1.below b1 hs1.lt
  have hb2 := hb.below b1 hb.lt
  have hl2 := hl.trans (b1.mono hl.size)
  clear hs1 hb hl b1
  have e0 := ext_cell (hb2.cell 0 _ rfl)
  have e1 := ext_cell (hb2.cell 1 _ rfl)
  have e2 := ext_cell (hb2.cell 2 _ rfl)
  have e3 := ext_cell (hb2.cell 3 _ rfl)
  have s0 := ext_cell (hs2.cell 0 _ rfl)
  have s1 := ext_cell (hs2.cell 1 _ rfl)
  have s2 := ext_cell (hs2.cell 2 _ rfl)
  have s3 := ext_cell (hs2.cell 3 _ rfl)
  have s4 := ext_cell (hs2.cell 4 _ rfl)
  have f0 := ext_free (by simpa using hs2.lt) (hs2.free 0)
  have f1 := ext_free (by simpa using hs2.lt) (hs2.free 1)
  have f2 := ext_free (by simpa using hs2.lt) (hs2.free 2)
  have f3 := ext_free (by simpa using hs2.lt) (hs2.free 3)
  have f4 := ext_free (by simpa using hs2.lt) (hs2.free 4)
  have HS2 := Lib.hid hs2
  have HL2 := Lib.hid hl2
  clear hs2 hb2 hl2
  go_wp2_with fail
  refine wp_region_ext_tail 27 (by kernel_rfl) (by simp) (by kernel_rfl) (by kernel_rfl) (by kernel_rfl) (by kernel_rfl) (by kernel_rfl) ?_
  simp only [List.take_succ_cons, List.take_zero, List.drop_succ_cons, List.drop_zero]
  repeat (go_big_quiet_step ((first | (go_at_call 42; exact callx (conj_any cj br pc cv ea _ c0 c1)) | (go_at_call 43; exact callx (pic_any pi br pc cv ea _ p0 p1)))))
  refine wpQuiet_nil ?_
  intro _ hw'
  obtain ⟨u, hw''⟩ := hw'
  subst hw''
  have hs3 : SegAt (ext w1 u) g tl la cj pi false := HS2.out.below u.ok HS2.out.lt
  have hl3 := ext_below HL2.out u
  have hz := seg_five (ext w1 u) g (.bool true) (.int .i64 br) (.int .u8 (conjI cj cv)) (.int .u8 (picI pi br pc)) (.bool true) hs3
  have HZ := Lib.hid hz
  have HL3 := Lib.hid hl3
  clear hs3 hl3 hz HS2 HL2
  go_wp2
  go_ret
  exact ⟨rfl, HZ.out.1, (But.ofBelow HL3.out).trans (HZ.out.2.mono HL3.out.size)⟩
set_option maxRecDepth 100000 in
set_option maxHeartbeats 2000000 in
theorem step_true_no (g : Nat) (tl : Bool) (la cj pi : Int) (br : Int) (pc : Bool) (cv ea : Int) (w : World) (hs : SegAt w g tl la cj pi true) (c0 : 0 ≤ cj) (c1 : cj ≤ 255) (p0 : 0 ≤ pi) (p1 : pi ≤ 255) (h6 : (br == 6) = false) :
    Calls Tryz.prog 29 #[.pointer (some ⟨g, 0, none⟩), .agg #[.int .i64 br, .bool pc, .int .i64 cv, .int .i64 ea]] w (SegStepped w g (joinsB tl la cj pi true br pc cv) true br (conjI cj cv) (picI pi br pc) false) := by
  have HS := Lib.hid hs
  have hg := hs.lt
  clear hs
  go_enter Tryz.func29, Tryz.ntmps29
  go_wp2_with fail
  obtain ⟨W, hW, hb, hl⟩ := pbox w br pc cv ea
  rw [← hW]
  have hs1 : SegAt W g tl la cj pi true := by rw [hW]; exact HS.out.alloc _
  clear hW HS
  refine (joins_any g tl la cj pi true br pc cv ea W hs1).mono ?_
  rintro e w1 ⟨rfl, b1⟩
  have hs2 : SegAt w1 g tl la cj pi true := hs1.below b1 hs1.lt
  have hb2 := hb.below b1 hb.lt
  have hl2 := hl.trans (b1.mono hl.size)
  clear hs1 hb hl b1
  have e0 := ext_cell (hb2.cell 0 _ rfl)
  have e1 := ext_cell (hb2.cell 1 _ rfl)
  have e2 := ext_cell (hb2.cell 2 _ rfl)
  have e3 := ext_cell (hb2.cell 3 _ rfl)
  have s0 := ext_cell (hs2.cell 0 _ rfl)
  have s1 := ext_cell (hs2.cell 1 _ rfl)
  have s2 := ext_cell (hs2.cell 2 _ rfl)
  have s3 := ext_cell (hs2.cell 3 _ rfl)
  have s4 := ext_cell (hs2.cell 4 _ rfl)
  have f0 := ext_free (by simpa using hs2.lt) (hs2.free 0)
  have f1 := ext_free (by simpa using hs2.lt) (hs2.free 1)
  have f2 := ext_free (by simpa using hs2.lt) (hs2.free 2)
  have f3 := ext_free (by simpa using hs2.lt) (hs2.free 3)
  have f4 := ext_free (by simpa using hs2.lt) (hs2.free 4)
  have HS2 := Lib.hid hs2
  have HL2 := Lib.hid hl2
  clear hs2 hb2 hl2
  go_wp2_with fail
  refine wp_region_ext_tail 27 (by kernel_rfl) (by simp) (by kernel_rfl) (by kernel_rfl) (by kernel_rfl) (by kernel_rfl) (by kernel_rfl) ?_
  simp only [List.take_succ_cons, List.take_zero, List.drop_succ_cons, List.drop_zero]
  repeat (go_big_quiet_step ((first | (go_at_call 42; exact callx (conj_any cj br pc cv ea _ c0 c1)) | (go_at_call 43; exact callx (pic_any pi br pc cv ea _ p0 p1)))))
  refine wpQuiet_nil ?_
  intro _ hw'
  obtain ⟨u, hw''⟩ := hw'
  subst hw''
  have hs3 : SegAt (ext w1 u) g tl la cj pi true := HS2.out.below u.ok HS2.out.lt
  have hl3 := ext_below HL2.out u
  have hz := seg_five (ext w1 u) g (.bool true) (.int .i64 br) (.int .u8 (conjI cj cv)) (.int .u8 (picI pi br pc)) (.bool false) hs3
  have HZ := Lib.hid hz
  have HL3 := Lib.hid hl3
  clear hs3 hl3 hz HS2 HL2
  go_wp2
  go_ret
  exact ⟨rfl, HZ.out.1, (But.ofBelow HL3.out).trans (HZ.out.2.mono HL3.out.size)⟩
set_option maxRecDepth 100000 in
set_option maxHeartbeats 2000000 in
theorem step_true_six (g : Nat) (tl : Bool) (la cj pi : Int) (br : Int) (pc : Bool) (cv ea : Int) (w : World) (hs : SegAt w g tl la cj pi true) (c0 : 0 ≤ cj) (c1 : cj ≤ 255) (p0 : 0 ≤ pi) (p1 : pi ≤ 255) (h6 : (br == 6) = true) :
    Calls Tryz.prog 29 #[.pointer (some ⟨g, 0, none⟩), .agg #[.int .i64 br, .bool pc, .int .i64 cv, .int .i64 ea]] w (SegStepped w g (joinsB tl la cj pi true br pc cv) true br (conjI cj cv) (picI pi br pc) false) := by
  have HS := Lib.hid hs
  have hg := hs.lt
  clear hs
  go_enter Tryz.func29, Tryz.ntmps29
  go_wp2_with fail
  obtain ⟨W, hW, hb, hl⟩ := pbox w br pc cv ea
  rw [← hW]
  have hs1 : SegAt W g tl la cj pi true := by rw [hW]; exact HS.out.alloc _
  clear hW HS
  refine (joins_any g tl la cj pi true br pc cv ea W hs1).mono ?_
  rintro e w1 ⟨rfl, b1⟩
  have hs2 : SegAt w1 g tl la cj pi true := hs1.below b1 hs1.lt
  have hb2 := hb.below b1 hb.lt
  have hl2 := hl.trans (b1.mono hl.size)
  clear hs1 hb hl b1
  have e0 := ext_cell (hb2.cell 0 _ rfl)
  have e1 := ext_cell (hb2.cell 1 _ rfl)
  have e2 := ext_cell (hb2.cell 2 _ rfl)
  have e3 := ext_cell (hb2.cell 3 _ rfl)
  have s0 := ext_cell (hs2.cell 0 _ rfl)
  have s1 := ext_cell (hs2.cell 1 _ rfl)
  have s2 := ext_cell (hs2.cell 2 _ rfl)
  have s3 := ext_cell (hs2.cell 3 _ rfl)
  have s4 := ext_cell (hs2.cell 4 _ rfl)
  have f0 := ext_free (by simpa using hs2.lt) (hs2.free 0)
  have f1 := ext_free (by simpa using hs2.lt) (hs2.free 1)
  have f2 := ext_free (by simpa using hs2.lt) (hs2.free 2)
  have f3 := ext_free (by simpa using hs2.lt) (hs2.free 3)
  have f4 := ext_free (by simpa using hs2.lt) (hs2.free 4)
  have HS2 := Lib.hid hs2
  have HL2 := Lib.hid hl2
  clear hs2 hb2 hl2
  go_wp2_with fail
  refine wp_region_ext_tail 27 (by kernel_rfl) (by simp) (by kernel_rfl) (by kernel_rfl) (by kernel_rfl) (by kernel_rfl) (by kernel_rfl) ?_
  simp only [List.take_succ_cons, List.take_zero, List.drop_succ_cons, List.drop_zero]
  repeat (go_big_quiet_step ((first | (go_at_call 42; exact callx (conj_any cj br pc cv ea _ c0 c1)) | (go_at_call 43; exact callx (pic_any pi br pc cv ea _ p0 p1)))))
  refine wpQuiet_nil ?_
  intro _ hw'
  obtain ⟨u, hw''⟩ := hw'
  subst hw''
  have hs3 : SegAt (ext w1 u) g tl la cj pi true := HS2.out.below u.ok HS2.out.lt
  have hl3 := ext_below HL2.out u
  have hz := seg_five (ext w1 u) g (.bool true) (.int .i64 br) (.int .u8 (conjI cj cv)) (.int .u8 (picI pi br pc)) (.bool false) hs3
  have HZ := Lib.hid hz
  have HL3 := Lib.hid hl3
  clear hs3 hl3 hz HS2 HL2
  go_wp2
  go_ret
  exact ⟨rfl, HZ.out.1, (But.ofBelow HL3.out).trans (HZ.out.2.mono HL3.out.size)⟩
theorem step_any (g : Nat) (tl : Bool) (la cj pi : Int) (od : Bool) (br : Int) (pc : Bool) (cv ea : Int) (w : World) (hs : SegAt w g tl la cj pi od) (c0 : 0 ≤ cj) (c1 : cj ≤ 255) (p0 : 0 ≤ pi) (p1 : pi ≤ 255) :
    Calls Tryz.prog 29 #[.pointer (some ⟨g, 0, none⟩), .agg #[.int .i64 br, .bool pc, .int .i64 cv, .int .i64 ea]] w (SegStepped w g (joinsB tl la cj pi od br pc cv) true br (conjI cj cv) (picI pi br pc) (br == 6 && !od)) := by
  cases h6 : (br == 6) <;> cases od
  · exact step_false_no g tl la cj pi br pc cv ea w hs c0 c1 p0 p1 h6
  · exact step_true_no g tl la cj pi br pc cv ea w hs c0 c1 p0 p1 h6
  · exact step_false_six g tl la cj pi br pc cv ea w hs c0 c1 p0 p1 h6
  · exact step_true_six g tl la cj pi br pc cv ea w hs c0 c1 p0 p1 h6
set_option maxRecDepth 100000 in
theorem step_nil (br : Int) (pc : Bool) (cv ea : Int) (w : World) : Calls Tryz.prog 29 #[.pointer none, .agg #[.int .i64 br, .bool pc, .int .i64 cv, .int .i64 ea]] w (Gives w (.bool false)) := by
  go_enter Tryz.func29, Tryz.ntmps29
  go_wp2
  go_ret
  exact ⟨(ret_eq (by first | rfl | (simp <;> omega))), (Below.refl _ _).alloc (Nat.le_refl _) _⟩
/-- The state of a row so far. -/
theorem conjI_bd (n cj : Int) (n0 : 0 ≤ n) (n1 : n ≤ 255) : 0 ≤ conjI n cj ∧ conjI n cj ≤ 255 := by unfold conjI; omega
theorem picI_bd (n br : Int) (pc : Bool) : 0 ≤ picI n br pc ∧ picI n br pc ≤ 255 := by unfold picI; omega
end Go.Proofs.YtkpmmkokfllafaaGreat
