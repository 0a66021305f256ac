/- The works of layer 60. -/
import Derived.Test.YtkpmmkokfllafaaGreatTblE
import Derived.Test.YtkpmmkokfllafaaGreatMg8
import Derived.Test.YtkpmmkokfllafaaGreatMg1
namespace Go.Proofs.YtkpmmkokfllafaaGreat
open Go.RowKit Go.ChangeShapes Go.WideShapes
theorem tw_0 : lineC [[[97], [98, 99]], [[100]]] [(0, 0), (0, 0)] 1 0 2 = [97, 32, 98, 99] := by decide +kernel
theorem tw_1 : lineC [[[97], [98, 99]], [[100]]] [(0, 0), (0, 0)] 1 1 2 = [100, 32, 32, 32] := by decide +kernel
theorem tw_small : ∀ i k, (atC [[[97], [98, 99]], [[100]]] i k).length ≤ 1000 := by
  intro i k
  have : Small [[[97], [98, 99]], [[100]]] 2 := by
    intro i hi
    match i, hi with
    | 0, _ => exact ⟨by decide, fun k => by match k with | 0 => decide | 1 => decide | k + 2 => simp [atC]⟩
    | 1, _ => exact ⟨by decide, fun k => by match k with | 0 => decide | k + 1 => simp [atC]⟩
    | i + 2, hi => omega
  have := Small.at this i k
  omega
set_option maxRecDepth 100000 in
set_option maxHeartbeats 3000000 in
theorem works60_any (w : World) : Calls Tryz.prog 4 #[] w (Yes w) := by
  obtain ⟨W1, hW1⟩ : ∃ W1, W1 = w.alloc (.cells #[.int .i32 97] 21) := ⟨_, rfl⟩
  have hs1 : W1.heap.size = w.heap.size + 1 := by rw [hW1]; simp
  have b1 : Below w.heap.size w W1 := by rw [hW1]; exact (Below.refl _ _).alloc (Nat.le_refl _) _
  obtain ⟨W2, hW2⟩ : ∃ W2, W2 = W1.alloc (.cells #[.int .i32 98, .int .i32 99] 21) := ⟨_, rfl⟩
  have hs2 : W2.heap.size = w.heap.size + 2 := by rw [hW2]; simp [hs1]
  have b2 : Below w.heap.size w W2 := by rw [hW2]; exact b1.alloc (by rw [hs1]; omega) _
  have c2 : Below W1.heap.size W1 W2 := by rw [hW2]; exact (Below.refl _ _).alloc (Nat.le_refl _) _
  obtain ⟨W3, hW3⟩ : ∃ W3, W3 = W2.alloc (.cells #[.slice (some ⟨w.heap.size, 0, none⟩) 1 1, .slice (some ⟨w.heap.size + 1, 0, none⟩) 2 2] 34) := ⟨_, rfl⟩
  have hs3 : W3.heap.size = w.heap.size + 3 := by rw [hW3]; simp [hs2]
  have b3 : Below w.heap.size w W3 := by rw [hW3]; exact b2.alloc (by rw [hs2]; omega) _
  have c3 : Below W2.heap.size W2 W3 := by rw [hW3]; exact (Below.refl _ _).alloc (Nat.le_refl _) _
  obtain ⟨W4, hW4⟩ : ∃ W4, W4 = W3.alloc (.cells #[.int .i32 100] 21) := ⟨_, rfl⟩
  have hs4 : W4.heap.size = w.heap.size + 4 := by rw [hW4]; simp [hs3]
  have b4 : Below w.heap.size w W4 := by rw [hW4]; exact b3.alloc (by rw [hs3]; omega) _
  have c4 : Below W3.heap.size W3 W4 := by rw [hW4]; exact (Below.refl _ _).alloc (Nat.le_refl _) _
  obtain ⟨W5, hW5⟩ : ∃ W5, W5 = W4.alloc (.cells #[.slice (some ⟨w.heap.size + 3, 0, none⟩) 1 1] 34) := ⟨_, rfl⟩
  have hs5 : W5.heap.size = w.heap.size + 5 := by rw [hW5]; simp [hs4]
  have b5 : Below w.heap.size w W5 := by rw [hW5]; exact b4.alloc (by rw [hs4]; omega) _
  have c5 : Below W4.heap.size W4 W5 := by rw [hW5]; exact (Below.refl _ _).alloc (Nat.le_refl _) _
  obtain ⟨W6, hW6⟩ : ∃ W6, W6 = W5.alloc (.cells #[.slice (some ⟨w.heap.size + 2, 0, none⟩) 2 2, .slice (some ⟨w.heap.size + 4, 0, none⟩) 1 1] 28) := ⟨_, rfl⟩
  have hs6 : W6.heap.size = w.heap.size + 6 := by rw [hW6]; simp [hs5]
  have b6 : Below w.heap.size w W6 := by rw [hW6]; exact b5.alloc (by rw [hs5]; omega) _
  have c6 : Below W5.heap.size W5 W6 := by rw [hW6]; exact (Below.refl _ _).alloc (Nat.le_refl _) _
  obtain ⟨W7, hW7⟩ : ∃ W7, W7 = W6.alloc (.cells #[.int .i64 0, .int .i64 0, .int .i64 0, .int .i64 0] 32) := ⟨_, rfl⟩
  have hs7 : W7.heap.size = w.heap.size + 7 := by rw [hW7]; simp [hs6]
  have b7 : Below w.heap.size w W7 := by rw [hW7]; exact b6.alloc (by rw [hs6]; omega) _
  have c7 : Below W6.heap.size W6 W7 := by rw [hW7]; exact (Below.refl _ _).alloc (Nat.le_refl _) _
  have h1 : HeldE (intE .i32) (fun _ => True) W1 (.slice (some ⟨w.heap.size, 0, none⟩) 1 1) [97] := by
    rw [hW1]; exact heldE_ints (held_new .i32 w [.int .i32 97] 21 1 1 [97] rfl rfl) (Nat.le_refl _) (by decide) (fun _ _ _ => trivial)
  have h2 : HeldE (intE .i32) (fun _ => True) W2 (.slice (some ⟨w.heap.size + 1, 0, none⟩) 2 2) [98, 99] := by
    rw [hW2, ← hs1]; exact heldE_ints (held_new .i32 W1 [.int .i32 98, .int .i32 99] 21 2 2 [98, 99] rfl rfl) (Nat.le_refl _) (by decide) (fun _ _ _ => trivial)
  have h3 : HeldE rowE (fun _ => True) W3 (.slice (some ⟨w.heap.size + 2, 0, none⟩) 2 2) [[97], [98, 99]] := by
    rw [hW3, ← hs2]
    exact (OwnE.lit (B := 0) (Z := fun _ => True) (ty := 34) W2 rowE [[_], [_]] [[97], [98, 99]] 2 rfl rfl (Nat.zero_le _) (by decide) (fun i hi => match i, hi with | 0, _ => ⟨_, rfl, h1.below c2⟩ | 1, _ => ⟨_, rfl, h2⟩ | n + 2, h => absurd h (by omega)) _ rfl).held (fun _ _ _ => trivial)
  have h4 : HeldE (intE .i32) (fun _ => True) W4 (.slice (some ⟨w.heap.size + 3, 0, none⟩) 1 1) [100] := by
    rw [hW4, ← hs3]; exact heldE_ints (held_new .i32 W3 [.int .i32 100] 21 1 1 [100] rfl rfl) (Nat.le_refl _) (by decide) (fun _ _ _ => trivial)
  have h5 : HeldE rowE (fun _ => True) W5 (.slice (some ⟨w.heap.size + 4, 0, none⟩) 1 1) [[100]] := by
    rw [hW5, ← hs4]
    exact (OwnE.lit (B := 0) (Z := fun _ => True) (ty := 34) W4 rowE [[_]] [[100]] 1 rfl rfl (Nat.zero_le _) (by decide) (fun i hi => match i, hi with | 0, _ => ⟨_, rfl, h4⟩ | n + 1, h => absurd h (by omega)) _ rfl).held (fun _ _ _ => trivial)
  have h6 : HeldE rowsE (fun _ => True) W6 (.slice (some ⟨w.heap.size + 5, 0, none⟩) 2 2) [[[97], [98, 99]], [[100]]] := by
    rw [hW6, ← hs5]
    exact (OwnE.lit (B := 0) (Z := fun _ => True) (ty := 28) W5 rowsE [[_], [_]] [[[97], [98, 99]], [[100]]] 2 rfl rfl (Nat.zero_le _) (by decide) (fun i hi => match i, hi with | 0, _ => ⟨_, rfl, (h3.below c4).below c5⟩ | 1, _ => ⟨_, rfl, h5⟩ | n + 2, h => absurd h (by omega)) _ rfl).held (fun _ _ _ => trivial)
  have h7 : HeldE colE (fun _ => True) W7 (.slice (some ⟨w.heap.size + 6, 0, none⟩) 2 2) [(0, 0), (0, 0)] := by
    rw [hW7, ← hs6]
    exact (OwnE.lit (B := 0) (Z := fun _ => True) (ty := 32) W6 colE [[.int .i64 0, .int .i64 0], [.int .i64 0, .int .i64 0]] [(0, 0), (0, 0)] 2 rfl rfl (Nat.zero_le _) (by decide) (fun i hi => match i, hi with | 0, _ => col_rep.2 rfl | 1, _ => col_rep.2 rfl | n + 2, h => absurd h (by omega)) _ rfl).held (fun _ _ _ => trivial)
  have hl := tlines_any _ _ [[[97], [98, 99]], [[100]]] [(0, 0), (0, 0)] 1 W7 ((h6.below c7).lower) h7.lower (by decide) (by decide) tw_small
  have HLN := Lib.hid hl
  have hfull : W7 = (((((((w.alloc (.cells #[.int .i32 97] 21)).alloc (.cells #[.int .i32 98, .int .i32 99] 21)).alloc (.cells #[.slice (some ⟨w.heap.size, 0, none⟩) 1 1, .slice (some ⟨w.heap.size + 1, 0, none⟩) 2 2] 34)).alloc (.cells #[.int .i32 100] 21)).alloc (.cells #[.slice (some ⟨w.heap.size + 3, 0, none⟩) 1 1] 34)).alloc (.cells #[.slice (some ⟨w.heap.size + 2, 0, none⟩) 2 2, .slice (some ⟨w.heap.size + 4, 0, none⟩) 1 1] 28)).alloc (.cells #[.int .i64 0, .int .i64 0, .int .i64 0, .int .i64 0] 32)) := by rw [hW7, hW6, hW5, hW4, hW3, hW2, hW1]
  have HW7 := Lib.hid hfull
  have B7 := Lib.hid b7
  clear h1 h2 h3 h4 h5 h6 h7 hl hfull hW1 hW2 hW3 hW4 hW5 hW6 hW7 b1 b2 b3 b4 b5 b6 b7 c2 c3 c4 c5 c6 c7 hs1 hs2 hs3 hs4 hs5 hs6 hs7
  go_enter Tryz.func4, Tryz.ntmps4
  go_wp2_with fail
  rw [← HW7.out]
  refine HLN.out.mono ?_
  rintro e w3 ⟨g, VS, rfl, ⟨k1, k2, k3, k4, k5⟩, b3⟩
  obtain ⟨x0, e0, x0h⟩ := k4 0 (by decide)
  obtain ⟨x1, e1, x1h⟩ := k4 1 (by decide)
  rw [show ([(0, 0), (0, 0)] : List (Int × Int)).length = 2 from rfl] at x0h x1h
  rw [tw_0] at x0h
  rw [tw_1] at x1h
  have d0 := k2.cell 0 x0 e0
  have D1 := Lib.hid (show ∀ w', Below w3.heap.size w3 w' → w'.cell? ⟨g, 1, none⟩ = some x1 from fun w' b => (b.cell (p := ⟨g, 1, none⟩) k2.lt).trans (k2.cell 1 x1 e1))
  have B3 := Lib.hid (B7.out.trans (b3.mono B7.out.size))
  have b4 := (Below.refl w3.heap.size w3).alloc (Nat.le_refl _) (.cells #[.int .i32 97, .int .i32 32, .int .i32 98, .int .i32 99] 21)
  have h4 := same_any x0 (.slice (some ⟨w3.heap.size, 0, none⟩) 4 4) [97, 32, 98, 99] [97, 32, 98, 99] _ (x0h.below b4).ints (held_new .i32 w3 [.int .i32 97, .int .i32 32, .int .i32 98, .int .i32 99] 21 4 4 [97, 32, 98, 99] rfl rfl) (by decide)
  rw [sameB_self] at h4
  have H4 := Lib.hid h4
  have B4 := Lib.hid b4
  have X1H := Lib.hid x1h
  clear h4 b4 x0h x1h k1 k2 k3 k4 k5 e0 e1 b3 HLN
  go_wp2_with fail
  refine H4.out.mono ?_
  rintro e w5 ⟨rfl, b5⟩
  have b5w := B4.out.trans (b5.mono B4.out.size)
  have d1 := D1.out w5 b5w
  have B5 := Lib.hid (B3.out.trans (b5w.mono B3.out.size))
  have b6 := (Below.refl w5.heap.size w5).alloc (Nat.le_refl _) (.cells #[.int .i32 100, .int .i32 32, .int .i32 32, .int .i32 32] 21)
  have h6 := same_any x1 (.slice (some ⟨w5.heap.size, 0, none⟩) 4 4) [100, 32, 32, 32] [100, 32, 32, 32] _ ((X1H.out.below b5w).below b6).ints (held_new .i32 w5 [.int .i32 100, .int .i32 32, .int .i32 32, .int .i32 32] 21 4 4 [100, 32, 32, 32] rfl rfl) (by decide)
  rw [sameB_self] at h6
  have H6 := Lib.hid h6
  have B6 := Lib.hid (B5.out.trans (b6.mono B5.out.size))
  clear h6 b6 b5 b5w H4
  go_wp2_with fail
  refine H6.out.mono ?_
  rintro e w7 ⟨rfl, b7⟩
  have HF := Lib.hid (B6.out.trans (b7.mono B6.out.size))
  clear b7 H6
  go_wp2
  go_ret
  exact ⟨(ret_eq (by first | rfl | (simp <;> omega))), HF.out⟩
end Go.Proofs.YtkpmmkokfllafaaGreat
