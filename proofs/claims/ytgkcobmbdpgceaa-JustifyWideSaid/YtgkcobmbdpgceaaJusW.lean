/- The works of layer 58; what is cut is at most so wide. -/
import Derived.Test.YtgkcobmbdpgceaaJusD
import Derived.Test.YtgkcobmbdpgceaaMg2
import Derived.Test.YtgkcobmbdpgceaaMg1
namespace Go.Proofs.Ytgkcobmbdpgceaa
open Go.RowKit Go.ChangeShapes Go.WideShapes
theorem jw_fit : fitC 3 0 [97, 98, 99, 100] [46] = [97, 98, 46] := by decide +kernel
theorem jw_pad : padC 4 2 [97] = [32, 97, 32, 32] := by decide +kernel
set_option maxRecDepth 100000 in
set_option maxHeartbeats 1600000 in
theorem works58_any (w : World) : Calls Try.prog 40 #[] w (Yes w) := by
  obtain ⟨W2, hW2⟩ : ∃ W2, W2 = (w.alloc (.cells #[.int .i32 97, .int .i32 98, .int .i32 99, .int .i32 100] 21)).alloc (.cells #[.int .i32 46] 21) := ⟨_, rfl⟩
  have hb2 : Below w.heap.size w W2 := by rw [hW2]; exact ((Below.refl _ _).alloc (Nat.le_refl _) _).alloc (by simp) _
  have hs1 : (w.alloc (.cells #[.int .i32 97, .int .i32 98, .int .i32 99, .int .i32 100] 21)).heap.size = w.heap.size + 1 := by simp
  have hh1 : Held .i32 W2 (.slice (some ⟨w.heap.size, 0, none⟩) 4 4) [97, 98, 99, 100] := by
    rw [hW2]
    exact (held_new .i32 w [.int .i32 97, .int .i32 98, .int .i32 99, .int .i32 100] 21 4 4 [97, 98, 99, 100] rfl rfl).below ((Below.refl _ _).alloc (Nat.le_refl _) _)
  have hh2 : Held .i32 W2 (.slice (some ⟨w.heap.size + 1, 0, none⟩) 1 1) [46] := by
    have h := held_new .i32 (w.alloc (.cells #[.int .i32 97, .int .i32 98, .int .i32 99, .int .i32 100] 21)) [.int .i32 46] 21 1 1 [46] rfl rfl
    rw [hs1] at h
    rw [hW2]; exact h
  have h1 := jfit_any (fun _ => True) _ _ [97, 98, 99, 100] [46] 3 0 W2 (heldE_ints hh1 (Nat.le_refl _) (by decide) (fun _ _ _ => trivial)) hh2 (by decide) (by decide)
  rw [jw_fit] at h1
  have H1 := Lib.hid h1
  have HW2 := Lib.hid hW2
  have B2 := Lib.hid hb2
  clear hW2 hb2 hs1 hh1 hh2 h1
  go_enter Try.func40, Try.ntmps40
  go_wp2_with fail
  rw [← HW2.out]
  refine H1.out.mono ?_
  rintro e w3 ⟨v3, rfl, ho3, b3⟩
  have B3 := Lib.hid (B2.out.trans (b3.mono B2.out.size))
  have hh3 := held_of_owns ho3
  obtain ⟨a3, c3, e3⟩ := hh3.len
  have e3 : v3 = .slice a3 3 c3 := e3
  subst e3
  have b4 := (Below.refl w3.heap.size w3).alloc (Nat.le_refl _) (.cells #[.int .i32 97, .int .i32 98, .int .i32 46] 21)
  have h4 := same_any (.slice a3 3 c3) (.slice (some ⟨w3.heap.size, 0, none⟩) 3 3) [97, 98, 46] [97, 98, 46] _ (hh3.below b4) (held_new .i32 w3 [.int .i32 97, .int .i32 98, .int .i32 46] 21 3 3 [97, 98, 46] rfl rfl) (by decide)
  rw [sameB_self] at h4
  have H4 := Lib.hid h4
  have B4 := Lib.hid (B3.out.trans (b4.mono B3.out.size))
  clear h4 b4 hh3 ho3 b3 H1
  go_wp2_with fail
  refine H4.out.mono ?_
  rintro e w5 ⟨rfl, b5⟩
  have B5 := Lib.hid (B4.out.trans (b5.mono B4.out.size))
  have b6 := (Below.refl w5.heap.size w5).alloc (Nat.le_refl _) (.cells #[.int .i32 97] 21)
  have h6 := jpad_any (.slice (some ⟨w5.heap.size, 0, none⟩) 1 1) [97] 4 2 _ (held_new .i32 w5 [.int .i32 97] 21 1 1 [97] rfl rfl) (by decide)
  rw [jw_pad] at h6
  have H6 := Lib.hid h6
  have B6 := Lib.hid (B5.out.trans (b6.mono B5.out.size))
  clear h6 b6 b5 H4
  go_wp2_with fail
  refine H6.out.mono ?_
  rintro e w7 ⟨v7, rfl, ho7, b7⟩
  have B7 := Lib.hid (B6.out.trans (b7.mono B6.out.size))
  have hh7 := held_of_owns ho7
  obtain ⟨a7, c7, e7⟩ := hh7.len
  have e7 : v7 = .slice a7 4 c7 := e7
  subst e7
  have b8 := (Below.refl w7.heap.size w7).alloc (Nat.le_refl _) (.cells #[.int .i32 32, .int .i32 97, .int .i32 32, .int .i32 32] 21)
  have h8 := same_any (.slice a7 4 c7) (.slice (some ⟨w7.heap.size, 0, none⟩) 4 4) [32, 97, 32, 32] [32, 97, 32, 32] _ (hh7.below b8) (held_new .i32 w7 [.int .i32 32, .int .i32 97, .int .i32 32, .int .i32 32] 21 4 4 [32, 97, 32, 32] rfl rfl) (by decide)
  rw [sameB_self] at h8
  have H8 := Lib.hid h8
  have B8 := Lib.hid (B7.out.trans (b8.mono B7.out.size))
  clear h8 b8 hh7 ho7 b7 H6
  go_wp2_with fail
  refine H8.out.mono ?_
  rintro e w9 ⟨rfl, b9⟩
  have HF := Lib.hid (B8.out.trans (b9.mono B8.out.size))
  clear b9
  go_wp2
  go_ret
  exact ⟨(ret_eq (by first | rfl | (simp <;> omega))), HF.out⟩
end Go.Proofs.Ytgkcobmbdpgceaa
