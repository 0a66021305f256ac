/- CursorTells (31.1, 31.3) answers true at every cursor, sides and auto, and turns nothing. No conditions. -/
import Derived.Test.YtgdknabpdjohgabCursorE
import Derived.Test.YtgdknabpdjohgabFrame
import Derived.Test.YtgdknabpdjohgabRows
import Derived.ProofKit
import Derived.Lib.SmallJoins
namespace Go.Proofs.Ytgdknabpdjohgab.lawCursorTells
open Go.ChangeShapes Go.WideShapes Go.ChangeAt Go.RowKit
open Go.Joins
theorem cells_cur : Try.prog.cellsOf 58 = 3 := by kernel_rfl
theorem cells_side : Try.prog.cellsOf 60 = 3 := by kernel_rfl
theorem open_cur {H : Type} {enc : TypeId × Value → H} {W : World} {base : Nat} {v : Value} {d : DataW H} {p : List MemPlace} (hv : Value.okWide Try.prog W .any base 58 v) (h : DataW.Trod enc Try.prog W 0 (fun _ => true) true 58 v d p) :
    ∃ (r c : Int) (b : Bool), v = .agg #[.int .i64 r, .int .i64 c, .bool b] ∧ -9223372036854775808 ≤ c := by
  obtain ⟨v0, v1, v2, y0, y1, y2, n, rfl, _, _, h0, h1, h2⟩ := open_agg3 Try.underlying58 (by kernel_rfl) cells_cur hv h
  obtain ⟨a, e0, _, wa⟩ := DataW.trod_int Try.underlying3 h0
  obtain ⟨b, e1, _, wb⟩ := DataW.trod_int Try.underlying3 h1
  obtain ⟨c, e2, _⟩ := DataW.trod_bool Try.underlying4 h2
  simp at e0 e1 e2
  subst e0 e1 e2
  exact ⟨a, b, c, rfl, (bounds_i64 wb).1⟩
theorem open_side {H : Type} {enc : TypeId × Value → H} {W : World} {base : Nat} {v : Value} {d : DataW H} {p : List MemPlace} (hv : Value.okWide Try.prog W .any base 60 v) (h : DataW.Trod enc Try.prog W 0 (fun _ => true) true 60 v d p) :
    ∃ (a b n : Int), v = .agg #[.int .i64 a, .int .i64 b, .int .i64 n] := by
  obtain ⟨v0, v1, v2, y0, y1, y2, n, rfl, _, _, h0, h1, h2⟩ := open_agg3 Try.underlying60 (by kernel_rfl) cells_side hv h
  obtain ⟨a, e0, _, wa⟩ := DataW.trod_int Try.underlying3 h0
  obtain ⟨b, e1, _, wb⟩ := DataW.trod_int Try.underlying3 h1
  obtain ⟨c, e2, _, wc⟩ := DataW.trod_int Try.underlying3 h2
  simp at e0 e1 e2
  subst e0 e1 e2
  exact ⟨a, b, c, rfl⟩
theorem two_boxes (w : World) (a0 a1 a2 b0 b1 b2 : Value) (t : TypeId) : ∃ W, W = (w.alloc (.cells #[a0, a1, a2] 58)).alloc (.cells #[b0, b1, b2] t) ∧
    Has W w.heap.size [a0, a1, a2] 58 ∧ Has W (w.heap.size + 1) [b0, b1, b2] t ∧ Below w.heap.size w W := by
  refine ⟨_, rfl, (Has.new w _ _).alloc _, ?_, ((Below.refl _ _).alloc (Nat.le_refl _) _).alloc (by simp) _⟩
  have := Has.new (w.alloc (.cells #[a0, a1, a2] 58)) [b0, b1, b2] t
  simpa using this
set_option maxRecDepth 100000 in
set_option maxHeartbeats 2000000 in
theorem walk_true_true (w : World) (r c : Int) (a b n : Int) (hc : -9223372036854775808 ≤ c) :
    Calls Try.prog 13 #[.agg #[.int .i64 r, .int .i64 c, .bool true], .agg #[.int .i64 a, .int .i64 b, .int .i64 n], .bool true] w (Yes w) := by
  have q1 := cur_eql
  have q2 := cur_neq
  have q3 := curEq_self
  go_enter Try.func13, Try.ntmps13
  go_wp2_with fail
  obtain ⟨W, hW, hb, hr, hl⟩ := two_boxes w (Value.int .i64 r) (.int .i64 c) (.bool true) (.int .i64 a) (.int .i64 b) (.int .i64 n) 60
  rw [← hW]
  have HB := Lib.hid hb
  have HR := Lib.hid hr
  have HL := Lib.hid hl
  have e0 := ext_cell (hb.cell 0 _ rfl)
  have e1 := ext_cell (hb.cell 1 _ rfl)
  have e2 := ext_cell (hb.cell 2 _ rfl)
  have s0 := ext_cell (hr.cell 0 _ rfl)
  have s1 := ext_cell (hr.cell 1 _ rfl)
  have s2 := ext_cell (hr.cell 2 _ rfl)
  clear hb hr hl hW
  refine wp_region_ext (by kernel_rfl) (by kernel_rfl) ?_
  repeat (go_big_quiet_step ((first | (go_at_call 40; exact callx (works31_any _)) | (go_at_call_of 41 (Value.agg #[Value.int .i64 r, Value.int .i64 c, Value.bool true]); exact callx (cright_any r c true a b _)) | (go_at_call_of 41 (Value.agg #[Value.int .i64 r, Value.int .i64 c, Value.bool false]); exact callx (cright_any r c false a b _)) | (go_at_call_of 41 (Value.agg #[Value.int .i64 (inI r (sideI b)), Value.int .i64 (inI c (sideI a)), Value.bool (holdP c true a)]); exact callx (cright_held r c true a b _)) | (go_at_call_of 41 (Value.agg #[Value.int .i64 (inI r (sideI b)), Value.int .i64 (inI c (sideI a)), Value.bool (holdP c false a)]); exact callx (cright_held r c false a b _)) | (go_at_call 42; exact callx (rright_any r c _ a b _)) | (go_at_call 43; exact callx (chold_any r c _ a b _)) | (go_at_call 44; exact callx (rhold_any r c _ a b _)))))
  refine wpQuiet_nil ?_
  intro _ hw'
  obtain ⟨u, hw''⟩ := hw'
  subst hw''
  obtain ⟨W2, hW2⟩ : ∃ W2, W2 = ext W u := ⟨_, rfl⟩
  rw [← hW2]
  have hb2 : Has W2 w.heap.size [Value.int .i64 r, .int .i64 c, .bool true] 58 := by rw [hW2]; exact HB.out.below u.ok HB.out.lt
  have hr2 : Has W2 (w.heap.size + 1) [Value.int .i64 a, .int .i64 b, .int .i64 n] 60 := by rw [hW2]; exact HR.out.below u.ok HR.out.lt
  have hl2 : Below w.heap.size w W2 := by rw [hW2]; exact ext_below HL.out u
  clear hW2 HB HR HL e0 e1 e2 s0 s1 s2
  have c0 := hb2.cell 0 _ rfl
  have c1 := hb2.cell 1 _ rfl
  have c2 := hb2.cell 2 _ rfl
  have f2 := hb2.free 2
  have hlt := hb2.lt
  have a0 := hr2.cell 0 _ rfl
  have a1 := hr2.cell 1 _ rfl
  have HB2 := Lib.hid hb2
  have HR2 := Lib.hid hr2
  have HL2 := Lib.hid hl2
  clear hb2 hr2 hl2
  go_wp2_with fail
  have hb3 : Has (W2.setCell ⟨w.heap.size, 2, none⟩ (.bool true)) w.heap.size [Value.int .i64 r, .int .i64 c, .bool true] 58 := HB2.out.set 2 _
  have hr3 : Has (W2.setCell ⟨w.heap.size, 2, none⟩ (.bool true)) (w.heap.size + 1) [Value.int .i64 a, .int .i64 b, .int .i64 n] 60 := HR2.out.setOther _ _ (by simp)
  have hl3 : Below w.heap.size w (W2.setCell ⟨w.heap.size, 2, none⟩ (.bool true)) := HL2.out.trans (((But.refl w.heap.size w.heap.size W2).set 2 _).below (Nat.le_refl _) (Nat.le_refl _))
  have HB3 := Lib.hid hb3
  have HR3 := Lib.hid hr3
  have HL3 := Lib.hid hl3
  clear hb3 hr3 hl3 HB2 HR2 HL2
  refine (cmove_any r c a b _).mono ?_
  rintro e w4 ⟨rfl, b4⟩
  have hb4 := HB3.out.below b4 HB3.out.lt
  have hr4 := HR3.out.below b4 HR3.out.lt
  have hl4 := HL3.out.trans (b4.mono HL3.out.size)
  clear HB3 HR3 HL3 b4 c0 c1 c2 f2 a0 a1 hlt
  have c0 := hb4.cell 0 _ rfl
  have hlt := hb4.lt
  have HB4 := Lib.hid hb4
  have HR4 := Lib.hid hr4
  have HL4 := Lib.hid hl4
  clear hb4 hr4 hl4
  go_wp2_with fail
  obtain ⟨W5, hW5⟩ : ∃ W5, W5 = w4.alloc (.cells [Value.int .i64 (inI r (sideI b)), .int .i64 (inI c (sideI a)), .bool false].toArray 58) := ⟨_, rfl⟩
  have hm5 : Has W5 w4.heap.size [Value.int .i64 (inI r (sideI b)), .int .i64 (inI c (sideI a)), .bool false] 58 := by rw [hW5]; exact Has.new w4 _ _
  have hb5 : Has W5 w.heap.size [Value.int .i64 r, .int .i64 c, .bool true] 58 := by rw [hW5]; exact HB4.out.alloc _
  have hr5 : Has W5 (w.heap.size + 1) [Value.int .i64 a, .int .i64 b, .int .i64 n] 60 := by rw [hW5]; exact HR4.out.alloc _
  have hl5 : Below w.heap.size w W5 := by rw [hW5]; exact HL4.out.alloc HL4.out.size _
  have E5 : w4.alloc (.cells #[Value.int .i64 (inI r (sideI b)), .int .i64 (inI c (sideI a)), .bool false] 58) = W5 := hW5.symm
  rw [E5]
  have m0 := ext_cell (hm5.cell 0 _ rfl)
  have m1 := ext_cell (hm5.cell 1 _ rfl)
  have m2 := ext_cell (hm5.cell 2 _ rfl)
  have e0 := ext_cell (hb5.cell 0 _ rfl)
  have e1 := ext_cell (hb5.cell 1 _ rfl)
  have e2 := ext_cell (hb5.cell 2 _ rfl)
  have s0 := ext_cell (hr5.cell 0 _ rfl)
  have s1 := ext_cell (hr5.cell 1 _ rfl)
  have s2 := ext_cell (hr5.cell 2 _ rfl)
  have q4 : ∀ c a, holdP c false a = false := fun _ _ => rfl
  have HL5 := Lib.hid hl5
  clear hm5 hb5 hr5 hl5 E5 hW5 HB4 HR4 HL4 c0 hlt
  refine wp_region_ext (by kernel_rfl) (by kernel_rfl) ?_
  repeat (go_big_quiet_step ((first | (go_at_call 46; exact callx (cafter_any r c true n a true _ hc)) | (go_at_call 47; exact callx (rafter_any r c true n a true _ hc)) | (go_at_call 44; exact callx (rhold_any r c false a b _)))))
  refine wpQuiet_nil ?_
  intro _ hw'
  obtain ⟨u, hw''⟩ := hw'
  subst hw''
  have hbl := ext_below HL5.out u
  go_wp2
  go_ret
  exact ⟨(ret_eq (by first | rfl | (simp <;> omega))), hbl⟩
set_option maxRecDepth 100000 in
set_option maxHeartbeats 2000000 in
theorem walk_true_false (w : World) (r c : Int) (a b n : Int) (hc : -9223372036854775808 ≤ c) :
    Calls Try.prog 13 #[.agg #[.int .i64 r, .int .i64 c, .bool true], .agg #[.int .i64 a, .int .i64 b, .int .i64 n], .bool false] w (Yes w) := by
  have q1 := cur_eql
  have q2 := cur_neq
  have q3 := curEq_self
  go_enter Try.func13, Try.ntmps13
  go_wp2_with fail
  obtain ⟨W, hW, hb, hr, hl⟩ := two_boxes w (Value.int .i64 r) (.int .i64 c) (.bool true) (.int .i64 a) (.int .i64 b) (.int .i64 n) 60
  rw [← hW]
  have HB := Lib.hid hb
  have HR := Lib.hid hr
  have HL := Lib.hid hl
  have e0 := ext_cell (hb.cell 0 _ rfl)
  have e1 := ext_cell (hb.cell 1 _ rfl)
  have e2 := ext_cell (hb.cell 2 _ rfl)
  have s0 := ext_cell (hr.cell 0 _ rfl)
  have s1 := ext_cell (hr.cell 1 _ rfl)
  have s2 := ext_cell (hr.cell 2 _ rfl)
  clear hb hr hl hW
  refine wp_region_ext (by kernel_rfl) (by kernel_rfl) ?_
  repeat (go_big_quiet_step ((first | (go_at_call 40; exact callx (works31_any _)) | (go_at_call_of 41 (Value.agg #[Value.int .i64 r, Value.int .i64 c, Value.bool true]); exact callx (cright_any r c true a b _)) | (go_at_call_of 41 (Value.agg #[Value.int .i64 r, Value.int .i64 c, Value.bool false]); exact callx (cright_any r c false a b _)) | (go_at_call_of 41 (Value.agg #[Value.int .i64 (inI r (sideI b)), Value.int .i64 (inI c (sideI a)), Value.bool (holdP c true a)]); exact callx (cright_held r c true a b _)) | (go_at_call_of 41 (Value.agg #[Value.int .i64 (inI r (sideI b)), Value.int .i64 (inI c (sideI a)), Value.bool (holdP c false a)]); exact callx (cright_held r c false a b _)) | (go_at_call 42; exact callx (rright_any r c _ a b _)) | (go_at_call 43; exact callx (chold_any r c _ a b _)) | (go_at_call 44; exact callx (rhold_any r c _ a b _)))))
  refine wpQuiet_nil ?_
  intro _ hw'
  obtain ⟨u, hw''⟩ := hw'
  subst hw''
  obtain ⟨W2, hW2⟩ : ∃ W2, W2 = ext W u := ⟨_, rfl⟩
  rw [← hW2]
  have hb2 : Has W2 w.heap.size [Value.int .i64 r, .int .i64 c, .bool true] 58 := by rw [hW2]; exact HB.out.below u.ok HB.out.lt
  have hr2 : Has W2 (w.heap.size + 1) [Value.int .i64 a, .int .i64 b, .int .i64 n] 60 := by rw [hW2]; exact HR.out.below u.ok HR.out.lt
  have hl2 : Below w.heap.size w W2 := by rw [hW2]; exact ext_below HL.out u
  clear hW2 HB HR HL e0 e1 e2 s0 s1 s2
  have c0 := hb2.cell 0 _ rfl
  have c1 := hb2.cell 1 _ rfl
  have c2 := hb2.cell 2 _ rfl
  have f2 := hb2.free 2
  have hlt := hb2.lt
  have a0 := hr2.cell 0 _ rfl
  have a1 := hr2.cell 1 _ rfl
  have HB2 := Lib.hid hb2
  have HR2 := Lib.hid hr2
  have HL2 := Lib.hid hl2
  clear hb2 hr2 hl2
  go_wp2_with fail
  have hb3 : Has (W2.setCell ⟨w.heap.size, 2, none⟩ (.bool false)) w.heap.size [Value.int .i64 r, .int .i64 c, .bool false] 58 := HB2.out.set 2 _
  have hr3 : Has (W2.setCell ⟨w.heap.size, 2, none⟩ (.bool false)) (w.heap.size + 1) [Value.int .i64 a, .int .i64 b, .int .i64 n] 60 := HR2.out.setOther _ _ (by simp)
  have hl3 : Below w.heap.size w (W2.setCell ⟨w.heap.size, 2, none⟩ (.bool false)) := HL2.out.trans (((But.refl w.heap.size w.heap.size W2).set 2 _).below (Nat.le_refl _) (Nat.le_refl _))
  have HB3 := Lib.hid hb3
  have HR3 := Lib.hid hr3
  have HL3 := Lib.hid hl3
  clear hb3 hr3 hl3 HB2 HR2 HL2
  refine (cmove_any r c a b _).mono ?_
  rintro e w4 ⟨rfl, b4⟩
  have hb4 := HB3.out.below b4 HB3.out.lt
  have hr4 := HR3.out.below b4 HR3.out.lt
  have hl4 := HL3.out.trans (b4.mono HL3.out.size)
  clear HB3 HR3 HL3 b4 c0 c1 c2 f2 a0 a1 hlt
  have c0 := hb4.cell 0 _ rfl
  have hlt := hb4.lt
  have HB4 := Lib.hid hb4
  have HR4 := Lib.hid hr4
  have HL4 := Lib.hid hl4
  clear hb4 hr4 hl4
  go_wp2_with fail
  obtain ⟨W5, hW5⟩ : ∃ W5, W5 = w4.alloc (.cells [Value.int .i64 (inI r (sideI b)), .int .i64 (inI c (sideI a)), .bool false].toArray 58) := ⟨_, rfl⟩
  have hm5 : Has W5 w4.heap.size [Value.int .i64 (inI r (sideI b)), .int .i64 (inI c (sideI a)), .bool false] 58 := by rw [hW5]; exact Has.new w4 _ _
  have hb5 : Has W5 w.heap.size [Value.int .i64 r, .int .i64 c, .bool false] 58 := by rw [hW5]; exact HB4.out.alloc _
  have hr5 : Has W5 (w.heap.size + 1) [Value.int .i64 a, .int .i64 b, .int .i64 n] 60 := by rw [hW5]; exact HR4.out.alloc _
  have hl5 : Below w.heap.size w W5 := by rw [hW5]; exact HL4.out.alloc HL4.out.size _
  have E5 : w4.alloc (.cells #[Value.int .i64 (inI r (sideI b)), .int .i64 (inI c (sideI a)), .bool false] 58) = W5 := hW5.symm
  rw [E5]
  have m0 := ext_cell (hm5.cell 0 _ rfl)
  have m1 := ext_cell (hm5.cell 1 _ rfl)
  have m2 := ext_cell (hm5.cell 2 _ rfl)
  have e0 := ext_cell (hb5.cell 0 _ rfl)
  have e1 := ext_cell (hb5.cell 1 _ rfl)
  have e2 := ext_cell (hb5.cell 2 _ rfl)
  have s0 := ext_cell (hr5.cell 0 _ rfl)
  have s1 := ext_cell (hr5.cell 1 _ rfl)
  have s2 := ext_cell (hr5.cell 2 _ rfl)
  have q4 : ∀ c a, holdP c false a = false := fun _ _ => rfl
  have HL5 := Lib.hid hl5
  clear hm5 hb5 hr5 hl5 E5 hW5 HB4 HR4 HL4 c0 hlt
  refine wp_region_ext (by kernel_rfl) (by kernel_rfl) ?_
  repeat (go_big_quiet_step ((first | (go_at_call 46; exact callx (cafter_any r c false n a false _ hc)) | (go_at_call 47; exact callx (rafter_any r c false n a false _ hc)) | (go_at_call 44; exact callx (rhold_any r c false a b _)))))
  refine wpQuiet_nil ?_
  intro _ hw'
  obtain ⟨u, hw''⟩ := hw'
  subst hw''
  have hbl := ext_below HL5.out u
  go_wp2
  go_ret
  exact ⟨(ret_eq (by first | rfl | (simp <;> omega))), hbl⟩
set_option maxRecDepth 100000 in
set_option maxHeartbeats 2000000 in
theorem walk_false_true (w : World) (r c : Int) (a b n : Int) (hc : -9223372036854775808 ≤ c) :
    Calls Try.prog 13 #[.agg #[.int .i64 r, .int .i64 c, .bool false], .agg #[.int .i64 a, .int .i64 b, .int .i64 n], .bool true] w (Yes w) := by
  have q1 := cur_eql
  have q2 := cur_neq
  have q3 := curEq_self
  go_enter Try.func13, Try.ntmps13
  go_wp2_with fail
  obtain ⟨W, hW, hb, hr, hl⟩ := two_boxes w (Value.int .i64 r) (.int .i64 c) (.bool false) (.int .i64 a) (.int .i64 b) (.int .i64 n) 60
  rw [← hW]
  have HB := Lib.hid hb
  have HR := Lib.hid hr
  have HL := Lib.hid hl
  have e0 := ext_cell (hb.cell 0 _ rfl)
  have e1 := ext_cell (hb.cell 1 _ rfl)
  have e2 := ext_cell (hb.cell 2 _ rfl)
  have s0 := ext_cell (hr.cell 0 _ rfl)
  have s1 := ext_cell (hr.cell 1 _ rfl)
  have s2 := ext_cell (hr.cell 2 _ rfl)
  clear hb hr hl hW
  refine wp_region_ext (by kernel_rfl) (by kernel_rfl) ?_
  repeat (go_big_quiet_step ((first | (go_at_call 40; exact callx (works31_any _)) | (go_at_call_of 41 (Value.agg #[Value.int .i64 r, Value.int .i64 c, Value.bool true]); exact callx (cright_any r c true a b _)) | (go_at_call_of 41 (Value.agg #[Value.int .i64 r, Value.int .i64 c, Value.bool false]); exact callx (cright_any r c false a b _)) | (go_at_call_of 41 (Value.agg #[Value.int .i64 (inI r (sideI b)), Value.int .i64 (inI c (sideI a)), Value.bool (holdP c true a)]); exact callx (cright_held r c true a b _)) | (go_at_call_of 41 (Value.agg #[Value.int .i64 (inI r (sideI b)), Value.int .i64 (inI c (sideI a)), Value.bool (holdP c false a)]); exact callx (cright_held r c false a b _)) | (go_at_call 42; exact callx (rright_any r c _ a b _)) | (go_at_call 43; exact callx (chold_any r c _ a b _)) | (go_at_call 44; exact callx (rhold_any r c _ a b _)))))
  refine wpQuiet_nil ?_
  intro _ hw'
  obtain ⟨u, hw''⟩ := hw'
  subst hw''
  obtain ⟨W2, hW2⟩ : ∃ W2, W2 = ext W u := ⟨_, rfl⟩
  rw [← hW2]
  have hb2 : Has W2 w.heap.size [Value.int .i64 r, .int .i64 c, .bool false] 58 := by rw [hW2]; exact HB.out.below u.ok HB.out.lt
  have hr2 : Has W2 (w.heap.size + 1) [Value.int .i64 a, .int .i64 b, .int .i64 n] 60 := by rw [hW2]; exact HR.out.below u.ok HR.out.lt
  have hl2 : Below w.heap.size w W2 := by rw [hW2]; exact ext_below HL.out u
  clear hW2 HB HR HL e0 e1 e2 s0 s1 s2
  have c0 := hb2.cell 0 _ rfl
  have c1 := hb2.cell 1 _ rfl
  have c2 := hb2.cell 2 _ rfl
  have f2 := hb2.free 2
  have hlt := hb2.lt
  have a0 := hr2.cell 0 _ rfl
  have a1 := hr2.cell 1 _ rfl
  have HB2 := Lib.hid hb2
  have HR2 := Lib.hid hr2
  have HL2 := Lib.hid hl2
  clear hb2 hr2 hl2
  go_wp2_with fail
  have hb3 : Has (W2.setCell ⟨w.heap.size, 2, none⟩ (.bool false)) w.heap.size [Value.int .i64 r, .int .i64 c, .bool false] 58 := HB2.out.set 2 _
  have hr3 : Has (W2.setCell ⟨w.heap.size, 2, none⟩ (.bool false)) (w.heap.size + 1) [Value.int .i64 a, .int .i64 b, .int .i64 n] 60 := HR2.out.setOther _ _ (by simp)
  have hl3 : Below w.heap.size w (W2.setCell ⟨w.heap.size, 2, none⟩ (.bool false)) := HL2.out.trans (((But.refl w.heap.size w.heap.size W2).set 2 _).below (Nat.le_refl _) (Nat.le_refl _))
  have HB3 := Lib.hid hb3
  have HR3 := Lib.hid hr3
  have HL3 := Lib.hid hl3
  clear hb3 hr3 hl3 HB2 HR2 HL2
  refine (cmove_any r c a b _).mono ?_
  rintro e w4 ⟨rfl, b4⟩
  have hb4 := HB3.out.below b4 HB3.out.lt
  have hr4 := HR3.out.below b4 HR3.out.lt
  have hl4 := HL3.out.trans (b4.mono HL3.out.size)
  clear HB3 HR3 HL3 b4 c0 c1 c2 f2 a0 a1 hlt
  have c0 := hb4.cell 0 _ rfl
  have hlt := hb4.lt
  have HB4 := Lib.hid hb4
  have HR4 := Lib.hid hr4
  have HL4 := Lib.hid hl4
  clear hb4 hr4 hl4
  go_wp2_with fail
  obtain ⟨W5, hW5⟩ : ∃ W5, W5 = w4.alloc (.cells [Value.int .i64 (inI r (sideI b)), .int .i64 (inI c (sideI a)), .bool false].toArray 58) := ⟨_, rfl⟩
  have hm5 : Has W5 w4.heap.size [Value.int .i64 (inI r (sideI b)), .int .i64 (inI c (sideI a)), .bool false] 58 := by rw [hW5]; exact Has.new w4 _ _
  have hb5 : Has W5 w.heap.size [Value.int .i64 r, .int .i64 c, .bool false] 58 := by rw [hW5]; exact HB4.out.alloc _
  have hr5 : Has W5 (w.heap.size + 1) [Value.int .i64 a, .int .i64 b, .int .i64 n] 60 := by rw [hW5]; exact HR4.out.alloc _
  have hl5 : Below w.heap.size w W5 := by rw [hW5]; exact HL4.out.alloc HL4.out.size _
  have E5 : w4.alloc (.cells #[Value.int .i64 (inI r (sideI b)), .int .i64 (inI c (sideI a)), .bool false] 58) = W5 := hW5.symm
  rw [E5]
  have m0 := ext_cell (hm5.cell 0 _ rfl)
  have m1 := ext_cell (hm5.cell 1 _ rfl)
  have m2 := ext_cell (hm5.cell 2 _ rfl)
  have e0 := ext_cell (hb5.cell 0 _ rfl)
  have e1 := ext_cell (hb5.cell 1 _ rfl)
  have e2 := ext_cell (hb5.cell 2 _ rfl)
  have s0 := ext_cell (hr5.cell 0 _ rfl)
  have s1 := ext_cell (hr5.cell 1 _ rfl)
  have s2 := ext_cell (hr5.cell 2 _ rfl)
  have q4 : ∀ c a, holdP c false a = false := fun _ _ => rfl
  have HL5 := Lib.hid hl5
  clear hm5 hb5 hr5 hl5 E5 hW5 HB4 HR4 HL4 c0 hlt
  refine wp_region_ext (by kernel_rfl) (by kernel_rfl) ?_
  repeat (go_big_quiet_step ((first | (go_at_call 46; exact callx (cafter_any r c false n a true _ hc)) | (go_at_call 47; exact callx (rafter_any r c false n a true _ hc)) | (go_at_call 44; exact callx (rhold_any r c false a b _)))))
  refine wpQuiet_nil ?_
  intro _ hw'
  obtain ⟨u, hw''⟩ := hw'
  subst hw''
  have hbl := ext_below HL5.out u
  go_wp2
  go_ret
  exact ⟨(ret_eq (by first | rfl | (simp <;> omega))), hbl⟩
set_option maxRecDepth 100000 in
set_option maxHeartbeats 2000000 in
theorem walk_false_false (w : World) (r c : Int) (a b n : Int) (hc : -9223372036854775808 ≤ c) :
    Calls Try.prog 13 #[.agg #[.int .i64 r, .int .i64 c, .bool false], .agg #[.int .i64 a, .int .i64 b, .int .i64 n], .bool false] w (Yes w) := by
  have q1 := cur_eql
  have q2 := cur_neq
  have q3 := curEq_self
  go_enter Try.func13, Try.ntmps13
  go_wp2_with fail
  obtain ⟨W, hW, hb, hr, hl⟩ := two_boxes w (Value.int .i64 r) (.int .i64 c) (.bool false) (.int .i64 a) (.int .i64 b) (.int .i64 n) 60
  rw [← hW]
  have HB := Lib.hid hb
  have HR := Lib.hid hr
  have HL := Lib.hid hl
  have e0 := ext_cell (hb.cell 0 _ rfl)
  have e1 := ext_cell (hb.cell 1 _ rfl)
  have e2 := ext_cell (hb.cell 2 _ rfl)
  have s0 := ext_cell (hr.cell 0 _ rfl)
  have s1 := ext_cell (hr.cell 1 _ rfl)
  have s2 := ext_cell (hr.cell 2 _ rfl)
  clear hb hr hl hW
  refine wp_region_ext (by kernel_rfl) (by kernel_rfl) ?_
  repeat (go_big_quiet_step ((first | (go_at_call 40; exact callx (works31_any _)) | (go_at_call_of 41 (Value.agg #[Value.int .i64 r, Value.int .i64 c, Value.bool true]); exact callx (cright_any r c true a b _)) | (go_at_call_of 41 (Value.agg #[Value.int .i64 r, Value.int .i64 c, Value.bool false]); exact callx (cright_any r c false a b _)) | (go_at_call_of 41 (Value.agg #[Value.int .i64 (inI r (sideI b)), Value.int .i64 (inI c (sideI a)), Value.bool (holdP c true a)]); exact callx (cright_held r c true a b _)) | (go_at_call_of 41 (Value.agg #[Value.int .i64 (inI r (sideI b)), Value.int .i64 (inI c (sideI a)), Value.bool (holdP c false a)]); exact callx (cright_held r c false a b _)) | (go_at_call 42; exact callx (rright_any r c _ a b _)) | (go_at_call 43; exact callx (chold_any r c _ a b _)) | (go_at_call 44; exact callx (rhold_any r c _ a b _)))))
  refine wpQuiet_nil ?_
  intro _ hw'
  obtain ⟨u, hw''⟩ := hw'
  subst hw''
  obtain ⟨W2, hW2⟩ : ∃ W2, W2 = ext W u := ⟨_, rfl⟩
  rw [← hW2]
  have hb2 : Has W2 w.heap.size [Value.int .i64 r, .int .i64 c, .bool false] 58 := by rw [hW2]; exact HB.out.below u.ok HB.out.lt
  have hr2 : Has W2 (w.heap.size + 1) [Value.int .i64 a, .int .i64 b, .int .i64 n] 60 := by rw [hW2]; exact HR.out.below u.ok HR.out.lt
  have hl2 : Below w.heap.size w W2 := by rw [hW2]; exact ext_below HL.out u
  clear hW2 HB HR HL e0 e1 e2 s0 s1 s2
  have c0 := hb2.cell 0 _ rfl
  have c1 := hb2.cell 1 _ rfl
  have c2 := hb2.cell 2 _ rfl
  have f2 := hb2.free 2
  have hlt := hb2.lt
  have a0 := hr2.cell 0 _ rfl
  have a1 := hr2.cell 1 _ rfl
  have HB2 := Lib.hid hb2
  have HR2 := Lib.hid hr2
  have HL2 := Lib.hid hl2
  clear hb2 hr2 hl2
  go_wp2_with fail
  have hb3 : Has (W2.setCell ⟨w.heap.size, 2, none⟩ (.bool false)) w.heap.size [Value.int .i64 r, .int .i64 c, .bool false] 58 := HB2.out.set 2 _
  have hr3 : Has (W2.setCell ⟨w.heap.size, 2, none⟩ (.bool false)) (w.heap.size + 1) [Value.int .i64 a, .int .i64 b, .int .i64 n] 60 := HR2.out.setOther _ _ (by simp)
  have hl3 : Below w.heap.size w (W2.setCell ⟨w.heap.size, 2, none⟩ (.bool false)) := HL2.out.trans (((But.refl w.heap.size w.heap.size W2).set 2 _).below (Nat.le_refl _) (Nat.le_refl _))
  have HB3 := Lib.hid hb3
  have HR3 := Lib.hid hr3
  have HL3 := Lib.hid hl3
  clear hb3 hr3 hl3 HB2 HR2 HL2
  refine (cmove_any r c a b _).mono ?_
  rintro e w4 ⟨rfl, b4⟩
  have hb4 := HB3.out.below b4 HB3.out.lt
  have hr4 := HR3.out.below b4 HR3.out.lt
  have hl4 := HL3.out.trans (b4.mono HL3.out.size)
  clear HB3 HR3 HL3 b4 c0 c1 c2 f2 a0 a1 hlt
  have c0 := hb4.cell 0 _ rfl
  have hlt := hb4.lt
  have HB4 := Lib.hid hb4
  have HR4 := Lib.hid hr4
  have HL4 := Lib.hid hl4
  clear hb4 hr4 hl4
  go_wp2_with fail
  obtain ⟨W5, hW5⟩ : ∃ W5, W5 = w4.alloc (.cells [Value.int .i64 (inI r (sideI b)), .int .i64 (inI c (sideI a)), .bool false].toArray 58) := ⟨_, rfl⟩
  have hm5 : Has W5 w4.heap.size [Value.int .i64 (inI r (sideI b)), .int .i64 (inI c (sideI a)), .bool false] 58 := by rw [hW5]; exact Has.new w4 _ _
  have hb5 : Has W5 w.heap.size [Value.int .i64 r, .int .i64 c, .bool false] 58 := by rw [hW5]; exact HB4.out.alloc _
  have hr5 : Has W5 (w.heap.size + 1) [Value.int .i64 a, .int .i64 b, .int .i64 n] 60 := by rw [hW5]; exact HR4.out.alloc _
  have hl5 : Below w.heap.size w W5 := by rw [hW5]; exact HL4.out.alloc HL4.out.size _
  have E5 : w4.alloc (.cells #[Value.int .i64 (inI r (sideI b)), .int .i64 (inI c (sideI a)), .bool false] 58) = W5 := hW5.symm
  rw [E5]
  have m0 := ext_cell (hm5.cell 0 _ rfl)
  have m1 := ext_cell (hm5.cell 1 _ rfl)
  have m2 := ext_cell (hm5.cell 2 _ rfl)
  have e0 := ext_cell (hb5.cell 0 _ rfl)
  have e1 := ext_cell (hb5.cell 1 _ rfl)
  have e2 := ext_cell (hb5.cell 2 _ rfl)
  have s0 := ext_cell (hr5.cell 0 _ rfl)
  have s1 := ext_cell (hr5.cell 1 _ rfl)
  have s2 := ext_cell (hr5.cell 2 _ rfl)
  have q4 : ∀ c a, holdP c false a = false := fun _ _ => rfl
  have HL5 := Lib.hid hl5
  clear hm5 hb5 hr5 hl5 E5 hW5 HB4 HR4 HL4 c0 hlt
  refine wp_region_ext (by kernel_rfl) (by kernel_rfl) ?_
  repeat (go_big_quiet_step ((first | (go_at_call 46; exact callx (cafter_any r c false n a false _ hc)) | (go_at_call 47; exact callx (rafter_any r c false n a false _ hc)) | (go_at_call 44; exact callx (rhold_any r c false a b _)))))
  refine wpQuiet_nil ?_
  intro _ hw'
  obtain ⟨u, hw''⟩ := hw'
  subst hw''
  have hbl := ext_below HL5.out u
  go_wp2
  go_ret
  exact ⟨(ret_eq (by first | rfl | (simp <;> omega))), hbl⟩
theorem walk (W : World) {H : Type} {enc : TypeId × Value → H} {base : Nat} (v0 : Value) {d0 : DataW H} {p0 : List MemPlace} (k0 : Value.okWide Try.prog W .any base 58 v0) (h0 : DataW.Trod enc Try.prog W 0 (fun _ => true) true 58 v0 d0 p0)
    (v1 : Value) {d1 : DataW H} {p1 : List MemPlace} (k1 : Value.okWide Try.prog W .any base 60 v1) (h1 : DataW.Trod enc Try.prog W 0 (fun _ => true) true 60 v1 d1 p1) (x2 : Bool) :
    Calls Try.prog 13 #[v0, v1, .bool x2] W (Yes W) := by
  obtain ⟨r, c, b, rfl, hc⟩ := open_cur k0 h0
  obtain ⟨a, b', n, rfl⟩ := open_side k1 h1
  cases b <;> cases x2
  · exact walk_false_false W r c a b' n hc
  · exact walk_false_true W r c a b' n hc
  · exact walk_true_false W r c a b' n hc
  · exact walk_true_true W r c a b' n hc

set_option maxRecDepth 100000 in
theorem lifted (os : Os) (started : os.Started) (H : Type) (enc : TypeId × Value → H) :
    ReturnsInHanded {} Try.checked os 13 .any (Rows.cursorTellsSpec.pre6 enc Try.prog Try.f13 Rows.cursorTellsRow.domain false) (Rows.cursorTellsSpec.post enc Try.prog Try.f13 false true false false) := by
  refine law_frame_plain (C := Try.checked) (tb := 4) (by kernel_rfl) started (by kernel_rfl) Try.func13 (by kernel_rfl) (by kernel_rfl) Try.underlying4 rfl
    (by rw [Try.params13]; intro t ht; simp at ht; rcases ht with rfl | rfl | rfl <;> exact ⟨by kernel_rfl, of_decide_eq_true (by kernel_rfl)⟩)
    (by rw [Try.params13]; intro ds hd; match ds, hd with | [_, _, _], _ => rfl)
    (ChangeSpec.witness6 (enc := enc) (C := Try.checked) false ⟨#[], #[.agg #[.int .i64 0, .int .i64 0, .bool false], .agg #[.int .i64 0, .int .i64 0, .int .i64 0], .bool false], []⟩ 8 (by kernel_rfl) (by kernel_rfl) (by kernel_rfl) (by kernel_rfl)) ?_
  intro W base args ds before hval hA
  rw [Try.params13] at hA hval
  obtain ⟨v0, vs0, d0, ds0, p0, q0, hargs, rfl, rfl, h0, r0⟩ := trodAll_cons hA
  obtain ⟨v1, vs1, d1, ds1, p1, q1, rfl, rfl, rfl, h1, r1⟩ := trodAll_cons r0
  obtain ⟨v2, vs2, d2, ds2, p2, q2, rfl, rfl, rfl, h2, r2⟩ := trodAll_cons r1
  obtain ⟨rfl, rfl, rfl⟩ := trodAll_nil r2
  obtain rfl : args = #[v0, v1, v2] := by cases args; simp_all
  obtain ⟨x2, rfl, rfl, rfl⟩ := open_bool Try.underlying4 (hval 2 4 v2 rfl rfl) h2
  exact walk W v0 (hval 0 58 v0 rfl rfl) h0 v1 (hval 1 60 v1 rfl rfl) h1 x2

theorem proved : Rows.CursorTellsSaid :=
  OpenClaim.holds_of_wide 13 Try.f13 rfl rfl rfl rfl rfl rfl rfl ⟨rfl, rfl, rfl, rfl, rfl⟩ rfl rfl rfl rfl rfl (by kernel_rfl) Try.func13 (by kernel_rfl)
    (of_decide_eq_true (by kernel_rfl)) (by unfold Func.isWrapper; first | (rw [if_pos (by decide +kernel)]; kernel_rfl) | (rw [if_neg (by decide +kernel)]; exact ⟨rfl, rfl⟩))
    (fun os started H enc _ => lifted os started H enc)
#print axioms proved

end Go.Proofs.Ytgdknabpdjohgab.lawCursorTells
