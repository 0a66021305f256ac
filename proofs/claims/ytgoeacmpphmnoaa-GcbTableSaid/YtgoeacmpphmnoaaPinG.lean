/- The spans of gcb. -/
import Derived.Test.YtgoeacmpphmnoaaPinT
import Derived.Test.YtgoeacmpphmnoaaTabH
namespace Go.Proofs.Ytgoeacmpphmnoaa
open Go.RowKit Go.ChangeShapes Go.WideShapes
abbrev zPinG_16 : Array Value := #[Value.int .i32 0, Value.int .i32 0, Value.int .i32 0, Value.int .i32 0, Value.int .i32 0, Value.int .i32 0, Value.int .i32 0, Value.int .i32 0, Value.int .i32 0, Value.int .i32 0, Value.int .i32 0, Value.int .i32 0, Value.int .i32 0, Value.int .i32 0, Value.int .i32 0, Value.int .i32 0, Value.int .i32 0, Value.int .i32 0, Value.int .i32 0, Value.int .i32 0, Value.int .i32 0, Value.int .i32 0, Value.int .i32 0, Value.int .i32 0, Value.int .i32 0, Value.int .i32 0, Value.int .i32 0, Value.int .i32 0, Value.int .i32 0, Value.int .i32 0, Value.int .i32 0, Value.int .i32 0]
abbrev zPinG_8 : Array Value := #[Value.int .i32 0, Value.int .i32 0, Value.int .i32 0, Value.int .i32 0, Value.int .i32 0, Value.int .i32 0, Value.int .i32 0, Value.int .i32 0, Value.int .i32 0, Value.int .i32 0, Value.int .i32 0, Value.int .i32 0, Value.int .i32 0, Value.int .i32 0, Value.int .i32 0, Value.int .i32 0]
abbrev zPinG_26 : Array Value := #[Value.int .i32 0, Value.int .i32 0, Value.int .i32 0, Value.int .i32 0, Value.int .i32 0, Value.int .i32 0, Value.int .i32 0, Value.int .i32 0, Value.int .i32 0, Value.int .i32 0, Value.int .i32 0, Value.int .i32 0, Value.int .i32 0, Value.int .i32 0, Value.int .i32 0, Value.int .i32 0, Value.int .i32 0, Value.int .i32 0, Value.int .i32 0, Value.int .i32 0, Value.int .i32 0, Value.int .i32 0, Value.int .i32 0, Value.int .i32 0, Value.int .i32 0, Value.int .i32 0, Value.int .i32 0, Value.int .i32 0, Value.int .i32 0, Value.int .i32 0, Value.int .i32 0, Value.int .i32 0, Value.int .i32 0, Value.int .i32 0, Value.int .i32 0, Value.int .i32 0, Value.int .i32 0, Value.int .i32 0, Value.int .i32 0, Value.int .i32 0, Value.int .i32 0, Value.int .i32 0, Value.int .i32 0, Value.int .i32 0, Value.int .i32 0, Value.int .i32 0, Value.int .i32 0, Value.int .i32 0, Value.int .i32 0, Value.int .i32 0, Value.int .i32 0, Value.int .i32 0]
set_option maxRecDepth 100000 in
set_option maxHeartbeats 4000000 in
theorem gspans_any (w : World) : Calls Try.prog 48 #[] w (PinOk w w.heap.size s09) := by
  have hp : s09.Perm (((((((([] ++ tabSp 1 tCR) ++ tabSp 2 tLF) ++ tabSp 3 tControl) ++ tabSp 4 tExtend) ++ tabSp 5 tZWJ) ++ tabSp 6 tRI) ++ tabSp 7 tPrepend) ++ tabSp 8 tSpacing) := (sortS_perm _).trans (by simp [tabSpans, tabs09, List.append_assoc])
  have HP := Lib.hid hp
  clear hp
  go_enter Try.func48, Try.ntmps48
  go_wp2_with fail
  refine (controls_any _).mono ?_
  rintro e w1 ⟨rfl, b1⟩
  go_wp2_with fail
  refine (extends_any _).mono ?_
  rintro e w2 ⟨rfl, b2⟩
  go_wp2_with fail
  refine (prepends_any _).mono ?_
  rintro e w3 ⟨rfl, b3⟩
  go_wp2_with fail
  refine (spacings_any _).mono ?_
  rintro e w4 ⟨rfl, b4⟩
  have hb1 := b1
  have hb2 := hb1.trans (b2.mono hb1.size)
  have hb3 := hb2.trans (b3.mono hb2.size)
  have hb4 := hb3.trans (b4.mono hb3.size)
  have q0 := hb4.alloc hb4.size (.cells zPinG_16 116)
  have q1 := q0.alloc q0.size (.cells Try.zeroCells118 118)
  have q2 := q1.alloc q1.size (.cells zPinG_8 120)
  have q3 := q2.alloc q2.size (.cells zPinG_26 103)
  have HBZ := Lib.hid (show Below w.heap.size w ((((w4.alloc (.cells zPinG_16 116)).alloc (.cells Try.zeroCells118 118)).alloc (.cells zPinG_8 120)).alloc (.cells zPinG_26 103)) from q3)
  have hz0 : Has ((((w4.alloc (.cells zPinG_16 116)).alloc (.cells Try.zeroCells118 118)).alloc (.cells zPinG_8 120)).alloc (.cells zPinG_26 103)) (w4.heap.size) zPinG_16.toList 116 := by
    have := ((((Has.new w4 zPinG_16.toList 116).alloc (.cells Try.zeroCells118 118)).alloc (.cells zPinG_8 120)).alloc (.cells zPinG_26 103))
    simpa using this
  have HZ0 := Lib.hid hz0
  clear hz0
  have hz1 : Has ((((w4.alloc (.cells zPinG_16 116)).alloc (.cells Try.zeroCells118 118)).alloc (.cells zPinG_8 120)).alloc (.cells zPinG_26 103)) (w4.heap.size + 1) Try.zeroCells118.toList 118 := by
    have := (((Has.new (w4.alloc (.cells zPinG_16 116)) Try.zeroCells118.toList 118).alloc (.cells zPinG_8 120)).alloc (.cells zPinG_26 103))
    simpa using this
  have HZ1 := Lib.hid hz1
  clear hz1
  have hz2 : Has ((((w4.alloc (.cells zPinG_16 116)).alloc (.cells Try.zeroCells118 118)).alloc (.cells zPinG_8 120)).alloc (.cells zPinG_26 103)) (w4.heap.size + 2) zPinG_8.toList 120 := by
    have := ((Has.new ((w4.alloc (.cells zPinG_16 116)).alloc (.cells Try.zeroCells118 118)) zPinG_8.toList 120).alloc (.cells zPinG_26 103))
    simpa using this
  have HZ2 := Lib.hid hz2
  clear hz2
  have hz3 : Has ((((w4.alloc (.cells zPinG_16 116)).alloc (.cells Try.zeroCells118 118)).alloc (.cells zPinG_8 120)).alloc (.cells zPinG_26 103)) (w4.heap.size + 3) zPinG_26.toList 103 := by
    have := (Has.new (((w4.alloc (.cells zPinG_16 116)).alloc (.cells Try.zeroCells118 118)).alloc (.cells zPinG_8 120)) zPinG_26.toList 103)
    simpa using this
  have HZ3 := Lib.hid hz3
  clear hz3
  have HSZ := Lib.hid (show ((((w4.alloc (.cells zPinG_16 116)).alloc (.cells Try.zeroCells118 118)).alloc (.cells zPinG_8 120)).alloc (.cells zPinG_26 103)).heap.size = w4.heap.size + 4 by simp)
  have HLS := Lib.hid hb4.size
  clear b1 hb1 b2 hb2 b3 hb3 b4 hb4 q0 q1 q2 q3
  go_wp2_with (first
    | (refine wpList_store_has rfl 116 (.tmp 1) (.tmp 6) rfl (w4.heap.size) rfl 116 zPinG_16.toList (tabCells .i32 tControl) (2 * 16) rfl HZ0.out (by kernel_rfl) (by kernel_rfl) (tab_two _ _ _ tControl_len) (tab_ones _ _) ?_; intro x0 hs0 bu0)
    | (refine wpList_store_has rfl 118 (.tmp 2) (.tmp 7) rfl (w4.heap.size + 1) rfl 118 Try.zeroCells118.toList (tabCells .i32 tExtend) (2 * 77) rfl (HZ1.out.but bu0 (by rw [HSZ.out]; omega) (by omega)) (by kernel_rfl) (by kernel_rfl) (tab_two _ _ _ tExtend_len) (tab_ones _ _) ?_; intro x1 hs1 bu1)
    | (refine wpList_store_has rfl 120 (.tmp 3) (.tmp 8) rfl (w4.heap.size + 2) rfl 120 zPinG_8.toList (tabCells .i32 tPrepend) (2 * 8) rfl ((HZ2.out.but bu0 (by rw [HSZ.out]; omega) (by omega)).but bu1 (by have h9 : w4.heap.size + 4 ≤ x0.heap.size := (by rw [← HSZ.out]; exact bu0.size); omega) (by omega)) (by kernel_rfl) (by kernel_rfl) (tab_two _ _ _ tPrepend_len) (tab_ones _ _) ?_; intro x2 hs2 bu2)
    | (refine wpList_store_has rfl 103 (.tmp 4) (.tmp 9) rfl (w4.heap.size + 3) rfl 103 zPinG_26.toList (tabCells .i32 tSpacing) (2 * 26) rfl (((HZ3.out.but bu0 (by rw [HSZ.out]; omega) (by omega)).but bu1 (by have h9 : w4.heap.size + 4 ≤ x0.heap.size := (by rw [← HSZ.out]; exact bu0.size); omega) (by omega)).but bu2 (by have h9 : w4.heap.size + 4 ≤ x0.heap.size := (by rw [← HSZ.out]; exact bu0.size); have := bu1.size; omega) (by omega)) (by kernel_rfl) (by kernel_rfl) (tab_two _ _ _ tSpacing_len) (tab_ones _ _) ?_; intro x3 hs3 bu3))
  have HT0 := Lib.hid (((hs0.but bu1 (by have h9 : w4.heap.size + 4 ≤ x0.heap.size := (by rw [← HSZ.out]; exact bu0.size); have := bu1.size; have := bu2.size; have := bu3.size; omega) (by omega)).but bu2 (by have h9 : w4.heap.size + 4 ≤ x0.heap.size := (by rw [← HSZ.out]; exact bu0.size); have := bu1.size; have := bu2.size; have := bu3.size; omega) (by omega)).but bu3 (by have h9 : w4.heap.size + 4 ≤ x0.heap.size := (by rw [← HSZ.out]; exact bu0.size); have := bu1.size; have := bu2.size; have := bu3.size; omega) (by omega))
  have HT1 := Lib.hid ((hs1.but bu2 (by have h9 : w4.heap.size + 4 ≤ x0.heap.size := (by rw [← HSZ.out]; exact bu0.size); have := bu1.size; have := bu2.size; have := bu3.size; omega) (by omega)).but bu3 (by have h9 : w4.heap.size + 4 ≤ x0.heap.size := (by rw [← HSZ.out]; exact bu0.size); have := bu1.size; have := bu2.size; have := bu3.size; omega) (by omega))
  have HT2 := Lib.hid (hs2.but bu3 (by have h9 : w4.heap.size + 4 ≤ x0.heap.size := (by rw [← HSZ.out]; exact bu0.size); have := bu1.size; have := bu2.size; have := bu3.size; omega) (by omega))
  have HT3 := Lib.hid hs3
  have hw0 := HBZ.out.trans (bu0.below (B' := w.heap.size) (by have := HBZ.out.size; have := HLS.out; have h9 : w4.heap.size + 4 ≤ x0.heap.size := (by rw [← HSZ.out]; exact bu0.size); have := bu1.size; have := bu2.size; have := bu3.size; omega) (by have := HLS.out; omega))
  have hw1 := hw0.trans (bu1.below (B' := w.heap.size) (by have := HBZ.out.size; have := HLS.out; have h9 : w4.heap.size + 4 ≤ x0.heap.size := (by rw [← HSZ.out]; exact bu0.size); have := bu1.size; have := bu2.size; have := bu3.size; omega) (by have := HLS.out; omega))
  have hw2 := hw1.trans (bu2.below (B' := w.heap.size) (by have := HBZ.out.size; have := HLS.out; have h9 : w4.heap.size + 4 ≤ x0.heap.size := (by rw [← HSZ.out]; exact bu0.size); have := bu1.size; have := bu2.size; have := bu3.size; omega) (by have := HLS.out; omega))
  have hw3 := hw2.trans (bu3.below (B' := w.heap.size) (by have := HBZ.out.size; have := HLS.out; have h9 : w4.heap.size + 4 ≤ x0.heap.size := (by rw [← HSZ.out]; exact bu0.size); have := bu1.size; have := bu2.size; have := bu3.size; omega) (by have := HLS.out; omega))
  have HB0 := Lib.hid hw3
  clear hw0 hs0 bu0 HZ0 hw1 hs1 bu1 HZ1 hw2 hs2 bu2 HZ2 hw3 hs3 bu3 HZ3 HSZ HBZ HLS
  have HBL1 := Lib.hid (HB0.out.alloc HB0.out.size (.cells [Value.int .i32 13, .int .i32 13].toArray 91))
  have HTL1 := Lib.hid (show Has (x3.alloc (.cells [Value.int .i32 13, .int .i32 13].toArray 91)) x3.heap.size (tabCells .i32 tCR) 91 from Has.new x3 _ _)
  go_wp2_with fail
  refine (add_any (.slice none 0 0) [] 1 x3.heap.size 1 1 tCR 91 _ w.heap.size 0 rfl (World.ownsRow_nil _ _ _ _) HBL1.out.size rfl HTL1.out (by decide) (tab_bds (by decide +kernel)) (by decide +kernel)).mono ?_
  rintro e y1 ⟨v1, n1, rfl, hn1, ho1, bb1, kk1⟩
  have kt1 := (KeepT.alloc x3 (.cells [Value.int .i32 13, .int .i32 13].toArray 91)).trans kk1
  have HB1 := Lib.hid (HBL1.out.trans bb1)
  have HT0_1 := Lib.hid (kt1 _ _ _ (by decide) HT0.out)
  have HT1_1 := Lib.hid (kt1 _ _ _ (by decide) HT1.out)
  have HT2_1 := Lib.hid (kt1 _ _ _ (by decide) HT2.out)
  have HT3_1 := Lib.hid (kt1 _ _ _ (by decide) HT3.out)
  have HN1 := Lib.hid hn1
  have HO1 := Lib.hid ho1
  clear hn1 ho1 bb1 kk1 kt1 HT0 HT1 HT2 HT3
  have HBL2 := Lib.hid (HB1.out.alloc HB1.out.size (.cells [Value.int .i32 10, .int .i32 10].toArray 91))
  have HTL2 := Lib.hid (show Has (y1.alloc (.cells [Value.int .i32 10, .int .i32 10].toArray 91)) y1.heap.size (tabCells .i32 tLF) 91 from Has.new y1 _ _)
  go_wp2_with fail
  refine (add_any (v1) ([] ++ tabSp 1 tCR) 2 y1.heap.size 1 1 tLF 91 _ w.heap.size n1 HN1.out ((HO1.out).alloc _) HBL2.out.size rfl HTL2.out (by decide) (tab_bds (by decide +kernel)) (by rw [HN1.out]; decide +kernel)).mono ?_
  rintro e y2 ⟨v2, n2, rfl, hn2, ho2, bb2, kk2⟩
  have kt2 := (KeepT.alloc y1 (.cells [Value.int .i32 10, .int .i32 10].toArray 91)).trans kk2
  have HB2 := Lib.hid (HBL2.out.trans bb2)
  have HT0_2 := Lib.hid (kt2 _ _ _ (by decide) HT0_1.out)
  have HT1_2 := Lib.hid (kt2 _ _ _ (by decide) HT1_1.out)
  have HT2_2 := Lib.hid (kt2 _ _ _ (by decide) HT2_1.out)
  have HT3_2 := Lib.hid (kt2 _ _ _ (by decide) HT3_1.out)
  have HN2 := Lib.hid hn2
  have HO2 := Lib.hid ho2
  clear hn2 ho2 bb2 kk2 kt2 HT0_1 HT1_1 HT2_1 HT3_1
  go_wp2_with fail
  refine (add_any (v2) (([] ++ tabSp 1 tCR) ++ tabSp 2 tLF) 3 (w4.heap.size) 16 16 tControl 116 _ w.heap.size n2 HN2.out (HO2.out) HB2.out.size tControl_len HT0_2.out (by decide) (tab_bds (by decide +kernel)) (by rw [HN2.out]; decide +kernel)).mono ?_
  rintro e y3 ⟨v3, n3, rfl, hn3, ho3, bb3, kk3⟩
  have kt3 := kk3
  have HB3 := Lib.hid (HB2.out.trans bb3)
  have HT0_3 := Lib.hid (kt3 _ _ _ (by decide) HT0_2.out)
  have HT1_3 := Lib.hid (kt3 _ _ _ (by decide) HT1_2.out)
  have HT2_3 := Lib.hid (kt3 _ _ _ (by decide) HT2_2.out)
  have HT3_3 := Lib.hid (kt3 _ _ _ (by decide) HT3_2.out)
  have HN3 := Lib.hid hn3
  have HO3 := Lib.hid ho3
  clear hn3 ho3 bb3 kk3 kt3 HT0_2 HT1_2 HT2_2 HT3_2
  go_wp2_with fail
  refine (add_any (v3) ((([] ++ tabSp 1 tCR) ++ tabSp 2 tLF) ++ tabSp 3 tControl) 4 (w4.heap.size + 1) 77 77 tExtend 118 _ w.heap.size n3 HN3.out (HO3.out) HB3.out.size tExtend_len HT1_3.out (by decide) (tab_bds (by decide +kernel)) (by rw [HN3.out]; decide +kernel)).mono ?_
  rintro e y4 ⟨v4, n4, rfl, hn4, ho4, bb4, kk4⟩
  have kt4 := kk4
  have HB4 := Lib.hid (HB3.out.trans bb4)
  have HT0_4 := Lib.hid (kt4 _ _ _ (by decide) HT0_3.out)
  have HT1_4 := Lib.hid (kt4 _ _ _ (by decide) HT1_3.out)
  have HT2_4 := Lib.hid (kt4 _ _ _ (by decide) HT2_3.out)
  have HT3_4 := Lib.hid (kt4 _ _ _ (by decide) HT3_3.out)
  have HN4 := Lib.hid hn4
  have HO4 := Lib.hid ho4
  clear hn4 ho4 bb4 kk4 kt4 HT0_3 HT1_3 HT2_3 HT3_3
  have HBL5 := Lib.hid (HB4.out.alloc HB4.out.size (.cells [Value.int .i32 8205, .int .i32 8205].toArray 91))
  have HTL5 := Lib.hid (show Has (y4.alloc (.cells [Value.int .i32 8205, .int .i32 8205].toArray 91)) y4.heap.size (tabCells .i32 tZWJ) 91 from Has.new y4 _ _)
  go_wp2_with fail
  refine (add_any (v4) (((([] ++ tabSp 1 tCR) ++ tabSp 2 tLF) ++ tabSp 3 tControl) ++ tabSp 4 tExtend) 5 y4.heap.size 1 1 tZWJ 91 _ w.heap.size n4 HN4.out ((HO4.out).alloc _) HBL5.out.size rfl HTL5.out (by decide) (tab_bds (by decide +kernel)) (by rw [HN4.out]; decide +kernel)).mono ?_
  rintro e y5 ⟨v5, n5, rfl, hn5, ho5, bb5, kk5⟩
  have kt5 := (KeepT.alloc y4 (.cells [Value.int .i32 8205, .int .i32 8205].toArray 91)).trans kk5
  have HB5 := Lib.hid (HBL5.out.trans bb5)
  have HT0_5 := Lib.hid (kt5 _ _ _ (by decide) HT0_4.out)
  have HT1_5 := Lib.hid (kt5 _ _ _ (by decide) HT1_4.out)
  have HT2_5 := Lib.hid (kt5 _ _ _ (by decide) HT2_4.out)
  have HT3_5 := Lib.hid (kt5 _ _ _ (by decide) HT3_4.out)
  have HN5 := Lib.hid hn5
  have HO5 := Lib.hid ho5
  clear hn5 ho5 bb5 kk5 kt5 HT0_4 HT1_4 HT2_4 HT3_4
  have HBL6 := Lib.hid (HB5.out.alloc HB5.out.size (.cells [Value.int .i32 127462, .int .i32 127487].toArray 91))
  have HTL6 := Lib.hid (show Has (y5.alloc (.cells [Value.int .i32 127462, .int .i32 127487].toArray 91)) y5.heap.size (tabCells .i32 tRI) 91 from Has.new y5 _ _)
  go_wp2_with fail
  refine (add_any (v5) ((((([] ++ tabSp 1 tCR) ++ tabSp 2 tLF) ++ tabSp 3 tControl) ++ tabSp 4 tExtend) ++ tabSp 5 tZWJ) 6 y5.heap.size 1 1 tRI 91 _ w.heap.size n5 HN5.out ((HO5.out).alloc _) HBL6.out.size rfl HTL6.out (by decide) (tab_bds (by decide +kernel)) (by rw [HN5.out]; decide +kernel)).mono ?_
  rintro e y6 ⟨v6, n6, rfl, hn6, ho6, bb6, kk6⟩
  have kt6 := (KeepT.alloc y5 (.cells [Value.int .i32 127462, .int .i32 127487].toArray 91)).trans kk6
  have HB6 := Lib.hid (HBL6.out.trans bb6)
  have HT0_6 := Lib.hid (kt6 _ _ _ (by decide) HT0_5.out)
  have HT1_6 := Lib.hid (kt6 _ _ _ (by decide) HT1_5.out)
  have HT2_6 := Lib.hid (kt6 _ _ _ (by decide) HT2_5.out)
  have HT3_6 := Lib.hid (kt6 _ _ _ (by decide) HT3_5.out)
  have HN6 := Lib.hid hn6
  have HO6 := Lib.hid ho6
  clear hn6 ho6 bb6 kk6 kt6 HT0_5 HT1_5 HT2_5 HT3_5
  go_wp2_with fail
  refine (add_any (v6) (((((([] ++ tabSp 1 tCR) ++ tabSp 2 tLF) ++ tabSp 3 tControl) ++ tabSp 4 tExtend) ++ tabSp 5 tZWJ) ++ tabSp 6 tRI) 7 (w4.heap.size + 2) 8 8 tPrepend 120 _ w.heap.size n6 HN6.out (HO6.out) HB6.out.size tPrepend_len HT2_6.out (by decide) (tab_bds (by decide +kernel)) (by rw [HN6.out]; decide +kernel)).mono ?_
  rintro e y7 ⟨v7, n7, rfl, hn7, ho7, bb7, kk7⟩
  have kt7 := kk7
  have HB7 := Lib.hid (HB6.out.trans bb7)
  have HT0_7 := Lib.hid (kt7 _ _ _ (by decide) HT0_6.out)
  have HT1_7 := Lib.hid (kt7 _ _ _ (by decide) HT1_6.out)
  have HT2_7 := Lib.hid (kt7 _ _ _ (by decide) HT2_6.out)
  have HT3_7 := Lib.hid (kt7 _ _ _ (by decide) HT3_6.out)
  have HN7 := Lib.hid hn7
  have HO7 := Lib.hid ho7
  clear hn7 ho7 bb7 kk7 kt7 HT0_6 HT1_6 HT2_6 HT3_6
  go_wp2_with fail
  refine (add_any (v7) ((((((([] ++ tabSp 1 tCR) ++ tabSp 2 tLF) ++ tabSp 3 tControl) ++ tabSp 4 tExtend) ++ tabSp 5 tZWJ) ++ tabSp 6 tRI) ++ tabSp 7 tPrepend) 8 (w4.heap.size + 3) 26 26 tSpacing 103 _ w.heap.size n7 HN7.out (HO7.out) HB7.out.size tSpacing_len HT3_7.out (by decide) (tab_bds (by decide +kernel)) (by rw [HN7.out]; decide +kernel)).mono ?_
  rintro e y8 ⟨v8, n8, rfl, hn8, ho8, bb8, kk8⟩
  have kt8 := kk8
  have HB8 := Lib.hid (HB7.out.trans bb8)
  have HT0_8 := Lib.hid (kt8 _ _ _ (by decide) HT0_7.out)
  have HT1_8 := Lib.hid (kt8 _ _ _ (by decide) HT1_7.out)
  have HT2_8 := Lib.hid (kt8 _ _ _ (by decide) HT2_7.out)
  have HT3_8 := Lib.hid (kt8 _ _ _ (by decide) HT3_7.out)
  have HN8 := Lib.hid hn8
  have HO8 := Lib.hid ho8
  clear hn8 ho8 bb8 kk8 kt8 HT0_7 HT1_7 HT2_7 HT3_7
  have HF := Lib.hid (pinfew_any v8 (((((((([] ++ tabSp 1 tCR) ++ tabSp 2 tLF) ++ tabSp 3 tControl) ++ tabSp 4 tExtend) ++ tabSp 5 tZWJ) ++ tabSp 6 tRI) ++ tabSp 7 tPrepend) ++ tabSp 8 tSpacing) s09 HP.out s09_right y8 w.heap.size n8 HN8.out HO8.out HB8.out.size (by rw [HN8.out]; decide +kernel))
  go_wp2_with fail
  refine HF.out.mono ?_
  rintro e wz ⟨vz, rfl, hz, bz⟩
  have hbz := HB8.out.trans bz
  go_wp2
  go_ret
  exact ⟨_, rfl, hz, hbz⟩
end Go.Proofs.Ytgoeacmpphmnoaa
