/- The works of layer 21. -/
import Derived.Test.YtgkcobmbdpgceaaMeaH
import Derived.Test.YtgkcobmbdpgceaaMg1
namespace Go.Proofs.Ytgkcobmbdpgceaa
open Go.RowKit Go.ChangeShapes Go.WideShapes
theorem rbc_works : rbC [97, 19968, 98] 2 = (1, 1) := by decide +kernel
theorem cols_works : colsC [97, 19968, 10] = 3 := by decide +kernel
set_option maxRecDepth 100000 in
set_option maxHeartbeats 1600000 in
theorem works21_any (w : World) : Calls Try.prog 12 #[] w (Yes w) := by
  have hb1 := (Below.refl w.heap.size w).alloc (Nat.le_refl _) (.cells #[.int .i32 97, .int .i32 19968, .int .i32 98] 21)
  have HB1 := Lib.hid hb1
  have H1 := Lib.hid (mhead_any (.slice (some ⟨w.heap.size, 0, none⟩) 3 3) [97, 19968, 98] 2 _ (held_new .i32 w [.int .i32 97, .int .i32 19968, .int .i32 98] 21 3 3 [97, 19968, 98] rfl rfl) (by decide) (by decide))
  clear hb1
  go_enter Try.func12, Try.ntmps12
  go_wp2_with fail
  refine H1.out.mono ?_
  rintro e w1 ⟨n, u, rfl, ho, b1⟩
  obtain ⟨rfl, rfl⟩ := head_one ho
  rw [rbc_works]
  have B1 := Lib.hid (HB1.out.trans (b1.mono HB1.out.size))
  have hb2 := (Below.refl w1.heap.size w1).alloc (Nat.le_refl _) (.cells #[.int .i32 97, .int .i32 19968, .int .i32 10] 21)
  have B2 := Lib.hid (B1.out.trans (hb2.mono B1.out.size))
  have h2 := mcols_any (.slice (some ⟨w1.heap.size, 0, none⟩) 3 3) [97, 19968, 10] _ (held_new .i32 w1 [.int .i32 97, .int .i32 19968, .int .i32 10] 21 3 3 [97, 19968, 10] rfl rfl) (by decide)
  rw [cols_works] at h2
  have H2 := Lib.hid h2
  clear ho b1 hb2 h2 H1
  go_wp2_with fail
  refine H2.out.mono ?_
  rintro e w2 ⟨rfl, b2⟩
  have HF := Lib.hid (B2.out.trans (b2.mono B2.out.size))
  clear b2 H2
  go_wp2
  go_ret
  exact ⟨(ret_eq (by first | rfl | (simp <;> omega))), HF.out⟩
end Go.Proofs.Ytgkcobmbdpgceaa
