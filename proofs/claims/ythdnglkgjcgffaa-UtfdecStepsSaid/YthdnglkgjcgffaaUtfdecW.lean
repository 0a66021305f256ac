/- works of layer 3. -/
import Derived.Test.YthdnglkgjcgffaaUtfdecC
import Derived.Test.YthdnglkgjcgffaaScalarR
import Derived.Test.YthdnglkgjcgffaaFrame
namespace Go.Proofs.Ythdnglkgjcgffaa
open Go.RowKit Go.ChangeShapes Go.WideShapes
theorem Held.alloc {k : IntKind} {w : World} {v : Value} {xs : List Int} (h : Held k w v xs) (o : Obj) : Held k (w.alloc o) v xs := h.below ((Below.refl _ _).alloc (Nat.le_refl _) o)
/-- What makes memory next to block g, seen from below it. -/
theorem below_of_but {g B : Nat} {w w' w'' : World} (h : Below B w w') (hb : But g w'.heap.size w' w'') (hB : B ≤ w'.heap.size) (hg : B ≤ g) : Below B w w'' := h.trans (hb.below hB hg)
set_option maxRecDepth 100000 in
theorem works3_any (w : World) : Calls Try.prog 16 #[] w (Yes w) := by
  have hd0 : DecAt ((w.alloc (.cells [Value.int .u8 0, .int .i32 0, .int .i64 0].toArray 38)).alloc (.cells [Value.int .u8 226, .int .u8 130].toArray 5)) w.heap.size 0 0 0 := (Has.new w _ _).alloc _
  have hp0 := held_newAt .u8 (w.alloc (.cells [Value.int .u8 0, .int .i32 0, .int .i64 0].toArray 38)) (w.heap.size + 1) [.int .u8 226, .int .u8 130] 5 2 2 [226, 130] (by simp) rfl rfl
  have hf := feed_any w.heap.size (0, 0, 0) _ [226, 130] _ hd0 wfS_zero hp0 (by intro a n c _ h; cases h; simp) (by simp) (by simp)
  rw [show feedTo (0, 0, 0) [226, 130] = [] from by decide, show feedSt (0, 0, 0) [226, 130] = (226, 130, 2) from by decide] at hf
  have HF := Lib.hid hf
  have hb0 : Below w.heap.size w ((w.alloc (.cells [Value.int .u8 0, .int .i32 0, .int .i64 0].toArray 38)).alloc (.cells [Value.int .u8 226, .int .u8 130].toArray 5)) := ((Below.refl _ _).alloc (Nat.le_refl _) _).alloc (by simp) _
  have hz0 : w.heap.size < ((w.alloc (.cells [Value.int .u8 0, .int .i32 0, .int .i64 0].toArray 38)).alloc (.cells [Value.int .u8 226, .int .u8 130].toArray 5)).heap.size := by simp; omega
  have HB0 := Lib.hid hb0
  have HZ0 := Lib.hid hz0
  clear hd0 hp0 hf hb0 hz0
  go_enter Try.func16, Try.ntmps16
  go_wp2_with fail
  refine HF.out.mono ?_
  rintro e w1 ⟨v1, rfl, hh1, hd1, hb1⟩
  have hb1' := below_of_but HB0.out hb1 (by have := HZ0.out; omega) (Nat.le_refl _)
  obtain ⟨ao, cap, rfl, _⟩ := hh1.view
  have hz1 : w.heap.size < w1.heap.size := by have := hb1.size; have := HZ0.out; omega
  clear HF HB0 HZ0 hh1 hb1
  have hwf : wfD 226 130 2 := .inr (by decide)
  have HWF := Lib.hid hwf
  clear hwf
  go_wp2_with fail
  refine (step_any w.heap.size 226 130 2 65 _ hd1 HWF.out (by omega) (by omega)).mono ?_
  rintro e w2 ⟨v2, rfl, hh2, hd2, hb2⟩
  rw [show tellT 226 130 2 65 = [65533, 65] from by decide] at hh2
  rw [show tellL 226 2 65 = 0 from by decide, show tellBt 226 130 2 65 = 0 from by decide, show tellH 226 2 65 = 0 from by decide] at hd2
  have hb2' := below_of_but hb1' hb2 (by omega) (Nat.le_refl _)
  have hz2 : w.heap.size < w2.heap.size := by have := hb2.size; omega
  clear hd1 hb1' hb2 hz1
  have hs := same_any _ _ [65533, 65] [65533, 65] _ (hh2.alloc (.cells [Value.int .i32 65533, .int .i32 65].toArray 21)) (held_new .i32 w2 [.int .i32 65533, .int .i32 65] 21 2 2 [65533, 65] rfl rfl) (by simp)
  rw [sameB_self] at hs
  have HS := Lib.hid hs
  have hd2' := hd2.alloc (.cells [Value.int .i32 65533, .int .i32 65].toArray 21)
  clear hs hh2
  go_wp2_with fail
  refine HS.out.mono ?_
  rintro e w3 ⟨rfl, hb3⟩
  have hd3 := hd2'.below hb3 (by simp; omega)
  have hb3' : Below w.heap.size w w3 := (hb2'.alloc (by omega) _).trans (hb3.mono (by simp; omega))
  clear HS hd2 hd2' hb2' hb3
  go_wp2_with fail
  refine (held_any w.heap.size 0 0 0 _ hd3).mono ?_
  rintro e w' ⟨rfl, rfl⟩
  go_wp2
  go_ret
  exact ⟨(ret_eq (by first | rfl | (simp <;> omega))), hb3'⟩
end Go.Proofs.Ythdnglkgjcgffaa
