/- The spans of conj. -/
import Derived.Test.YtgoeacmpphmnoaaPinT
import Derived.Test.YtgoeacmpphmnoaaTabH
namespace Go.Proofs.Ytgoeacmpphmnoaa
open Go.RowKit Go.ChangeShapes Go.WideShapes
abbrev zPinU_26 : Array Value := #[Value.int .i32 0, Value.int .i32 0, Value.int .i32 0, Value.int .i32 0, Value.int .i32 0, Value.int .i32 0, Value.int .i32 0, Value.int .i32 0, Value.int .i32 0, Value.int .i32 0, Value.int .i32 0, Value.int .i32 0, Value.int .i32 0, Value.int .i32 0, Value.int .i32 0, Value.int .i32 0, Value.int .i32 0, Value.int .i32 0, Value.int .i32 0, Value.int .i32 0, Value.int .i32 0, Value.int .i32 0, Value.int .i32 0, Value.int .i32 0, Value.int .i32 0, Value.int .i32 0, Value.int .i32 0, Value.int .i32 0, Value.int .i32 0, Value.int .i32 0, Value.int .i32 0, Value.int .i32 0, Value.int .i32 0, Value.int .i32 0, Value.int .i32 0, Value.int .i32 0, Value.int .i32 0, Value.int .i32 0, Value.int .i32 0, Value.int .i32 0, Value.int .i32 0, Value.int .i32 0, Value.int .i32 0, Value.int .i32 0, Value.int .i32 0, Value.int .i32 0, Value.int .i32 0, Value.int .i32 0, Value.int .i32 0, Value.int .i32 0, Value.int .i32 0, Value.int .i32 0]
abbrev zPinU_6 : Array Value := #[Value.int .i32 0, Value.int .i32 0, Value.int .i32 0, Value.int .i32 0, Value.int .i32 0, Value.int .i32 0, Value.int .i32 0, Value.int .i32 0, Value.int .i32 0, Value.int .i32 0, Value.int .i32 0, Value.int .i32 0]
abbrev zPinU_18 : Array Value := #[Value.int .i32 0, Value.int .i32 0, Value.int .i32 0, Value.int .i32 0, Value.int .i32 0, Value.int .i32 0, Value.int .i32 0, Value.int .i32 0, Value.int .i32 0, Value.int .i32 0, Value.int .i32 0, Value.int .i32 0, Value.int .i32 0, Value.int .i32 0, Value.int .i32 0, Value.int .i32 0, Value.int .i32 0, Value.int .i32 0, Value.int .i32 0, Value.int .i32 0, Value.int .i32 0, Value.int .i32 0, Value.int .i32 0, Value.int .i32 0, Value.int .i32 0, Value.int .i32 0, Value.int .i32 0, Value.int .i32 0, Value.int .i32 0, Value.int .i32 0, Value.int .i32 0, Value.int .i32 0, Value.int .i32 0, Value.int .i32 0, Value.int .i32 0, Value.int .i32 0]
set_option maxRecDepth 100000 in
set_option maxHeartbeats 4000000 in
theorem cspans_any (w : World) : Calls Try.prog 39 #[] w (PinOk w w.heap.size s11) := by
  have hp : s11.Perm ((([] ++ tabSp 1 tCons) ++ tabSp 2 tLink) ++ tabSp 3 tJoin) := (sortS_perm _).trans (by simp [tabSpans, tabs11, List.append_assoc])
  have HP := Lib.hid hp
  clear hp
  go_enter Try.func39, Try.ntmps39
  go_wp2_with fail
  refine (consonants_any _).mono ?_
  rintro e w1 ⟨rfl, b1⟩
  go_wp2_with fail
  refine (linkers_any _).mono ?_
  rintro e w2 ⟨rfl, b2⟩
  go_wp2_with fail
  refine (joiners_any _).mono ?_
  rintro e w3 ⟨rfl, b3⟩
  have hb1 := b1
  have hb2 := hb1.trans (b2.mono hb1.size)
  have hb3 := hb2.trans (b3.mono hb2.size)
  have q0 := hb3.alloc hb3.size (.cells zPinU_26 103)
  have q1 := q0.alloc q0.size (.cells zPinU_6 105)
  have q2 := q1.alloc q1.size (.cells zPinU_18 107)
  have HBZ := Lib.hid (show Below w.heap.size w (((w3.alloc (.cells zPinU_26 103)).alloc (.cells zPinU_6 105)).alloc (.cells zPinU_18 107)) from q2)
  have hz0 : Has (((w3.alloc (.cells zPinU_26 103)).alloc (.cells zPinU_6 105)).alloc (.cells zPinU_18 107)) (w3.heap.size) zPinU_26.toList 103 := by
    have := (((Has.new w3 zPinU_26.toList 103).alloc (.cells zPinU_6 105)).alloc (.cells zPinU_18 107))
    simpa using this
  have HZ0 := Lib.hid hz0
  clear hz0
  have hz1 : Has (((w3.alloc (.cells zPinU_26 103)).alloc (.cells zPinU_6 105)).alloc (.cells zPinU_18 107)) (w3.heap.size + 1) zPinU_6.toList 105 := by
    have := ((Has.new (w3.alloc (.cells zPinU_26 103)) zPinU_6.toList 105).alloc (.cells zPinU_18 107))
    simpa using this
  have HZ1 := Lib.hid hz1
  clear hz1
  have hz2 : Has (((w3.alloc (.cells zPinU_26 103)).alloc (.cells zPinU_6 105)).alloc (.cells zPinU_18 107)) (w3.heap.size + 2) zPinU_18.toList 107 := by
    have := (Has.new ((w3.alloc (.cells zPinU_26 103)).alloc (.cells zPinU_6 105)) zPinU_18.toList 107)
    simpa using this
  have HZ2 := Lib.hid hz2
  clear hz2
  have HSZ := Lib.hid (show (((w3.alloc (.cells zPinU_26 103)).alloc (.cells zPinU_6 105)).alloc (.cells zPinU_18 107)).heap.size = w3.heap.size + 3 by simp)
  have HLS := Lib.hid hb3.size
  clear b1 hb1 b2 hb2 b3 hb3 q0 q1 q2
  go_wp2_with (first
    | (refine wpList_store_has rfl 103 (.tmp 1) (.tmp 5) rfl (w3.heap.size) rfl 103 zPinU_26.toList (tabCells .i32 tCons) (2 * 26) rfl HZ0.out (by kernel_rfl) (by kernel_rfl) (tab_two _ _ _ tCons_len) (tab_ones _ _) ?_; intro x0 hs0 bu0)
    | (refine wpList_store_has rfl 105 (.tmp 2) (.tmp 6) rfl (w3.heap.size + 1) rfl 105 zPinU_6.toList (tabCells .i32 tLink) (2 * 6) rfl (HZ1.out.but bu0 (by rw [HSZ.out]; omega) (by omega)) (by kernel_rfl) (by kernel_rfl) (tab_two _ _ _ tLink_len) (tab_ones _ _) ?_; intro x1 hs1 bu1)
    | (refine wpList_store_has rfl 107 (.tmp 3) (.tmp 7) rfl (w3.heap.size + 2) rfl 107 zPinU_18.toList (tabCells .i32 tJoin) (2 * 18) rfl ((HZ2.out.but bu0 (by rw [HSZ.out]; omega) (by omega)).but bu1 (by have h9 : w3.heap.size + 3 ≤ x0.heap.size := (by rw [← HSZ.out]; exact bu0.size); omega) (by omega)) (by kernel_rfl) (by kernel_rfl) (tab_two _ _ _ tJoin_len) (tab_ones _ _) ?_; intro x2 hs2 bu2))
  have HT0 := Lib.hid ((hs0.but bu1 (by have h9 : w3.heap.size + 3 ≤ x0.heap.size := (by rw [← HSZ.out]; exact bu0.size); have := bu1.size; have := bu2.size; omega) (by omega)).but bu2 (by have h9 : w3.heap.size + 3 ≤ x0.heap.size := (by rw [← HSZ.out]; exact bu0.size); have := bu1.size; have := bu2.size; omega) (by omega))
  have HT1 := Lib.hid (hs1.but bu2 (by have h9 : w3.heap.size + 3 ≤ x0.heap.size := (by rw [← HSZ.out]; exact bu0.size); have := bu1.size; have := bu2.size; omega) (by omega))
  have HT2 := Lib.hid hs2
  have hw0 := HBZ.out.trans (bu0.below (B' := w.heap.size) (by have := HBZ.out.size; have := HLS.out; have h9 : w3.heap.size + 3 ≤ x0.heap.size := (by rw [← HSZ.out]; exact bu0.size); have := bu1.size; have := bu2.size; omega) (by have := HLS.out; omega))
  have hw1 := hw0.trans (bu1.below (B' := w.heap.size) (by have := HBZ.out.size; have := HLS.out; have h9 : w3.heap.size + 3 ≤ x0.heap.size := (by rw [← HSZ.out]; exact bu0.size); have := bu1.size; have := bu2.size; omega) (by have := HLS.out; omega))
  have hw2 := hw1.trans (bu2.below (B' := w.heap.size) (by have := HBZ.out.size; have := HLS.out; have h9 : w3.heap.size + 3 ≤ x0.heap.size := (by rw [← HSZ.out]; exact bu0.size); have := bu1.size; have := bu2.size; omega) (by have := HLS.out; omega))
  have HB0 := Lib.hid hw2
  clear hw0 hs0 bu0 HZ0 hw1 hs1 bu1 HZ1 hw2 hs2 bu2 HZ2 HSZ HBZ HLS
  go_wp2_with fail
  refine (add_any (.slice none 0 0) [] 1 (w3.heap.size) 26 26 tCons 103 _ w.heap.size 0 rfl (World.ownsRow_nil _ _ _ _) HB0.out.size tCons_len HT0.out (by decide) (tab_bds (by decide +kernel)) (by decide +kernel)).mono ?_
  rintro e y1 ⟨v1, n1, rfl, hn1, ho1, bb1, kk1⟩
  have kt1 := kk1
  have HB1 := Lib.hid (HB0.out.trans bb1)
  have HT0_1 := Lib.hid (kt1 _ _ _ (by decide) HT0.out)
  have HT1_1 := Lib.hid (kt1 _ _ _ (by decide) HT1.out)
  have HT2_1 := Lib.hid (kt1 _ _ _ (by decide) HT2.out)
  have HN1 := Lib.hid hn1
  have HO1 := Lib.hid ho1
  clear hn1 ho1 bb1 kk1 kt1 HT0 HT1 HT2
  go_wp2_with fail
  refine (add_any (v1) ([] ++ tabSp 1 tCons) 2 (w3.heap.size + 1) 6 6 tLink 105 _ w.heap.size n1 HN1.out (HO1.out) HB1.out.size tLink_len HT1_1.out (by decide) (tab_bds (by decide +kernel)) (by rw [HN1.out]; decide +kernel)).mono ?_
  rintro e y2 ⟨v2, n2, rfl, hn2, ho2, bb2, kk2⟩
  have kt2 := kk2
  have HB2 := Lib.hid (HB1.out.trans bb2)
  have HT0_2 := Lib.hid (kt2 _ _ _ (by decide) HT0_1.out)
  have HT1_2 := Lib.hid (kt2 _ _ _ (by decide) HT1_1.out)
  have HT2_2 := Lib.hid (kt2 _ _ _ (by decide) HT2_1.out)
  have HN2 := Lib.hid hn2
  have HO2 := Lib.hid ho2
  clear hn2 ho2 bb2 kk2 kt2 HT0_1 HT1_1 HT2_1
  go_wp2_with fail
  refine (add_any (v2) (([] ++ tabSp 1 tCons) ++ tabSp 2 tLink) 3 (w3.heap.size + 2) 18 18 tJoin 107 _ w.heap.size n2 HN2.out (HO2.out) HB2.out.size tJoin_len HT2_2.out (by decide) (tab_bds (by decide +kernel)) (by rw [HN2.out]; decide +kernel)).mono ?_
  rintro e y3 ⟨v3, n3, rfl, hn3, ho3, bb3, kk3⟩
  have kt3 := kk3
  have HB3 := Lib.hid (HB2.out.trans bb3)
  have HT0_3 := Lib.hid (kt3 _ _ _ (by decide) HT0_2.out)
  have HT1_3 := Lib.hid (kt3 _ _ _ (by decide) HT1_2.out)
  have HT2_3 := Lib.hid (kt3 _ _ _ (by decide) HT2_2.out)
  have HN3 := Lib.hid hn3
  have HO3 := Lib.hid ho3
  clear hn3 ho3 bb3 kk3 kt3 HT0_2 HT1_2 HT2_2
  have HF := Lib.hid (pinfew_any v3 ((([] ++ tabSp 1 tCons) ++ tabSp 2 tLink) ++ tabSp 3 tJoin) s11 HP.out s11_right y3 w.heap.size n3 HN3.out HO3.out HB3.out.size (by rw [HN3.out]; decide +kernel))
  go_wp2_with fail
  refine HF.out.mono ?_
  rintro e wz ⟨vz, rfl, hz, bz⟩
  have hbz := HB3.out.trans bz
  go_wp2
  go_ret
  exact ⟨_, rfl, hz, hbz⟩
end Go.Proofs.Ytgoeacmpphmnoaa
