import Derived.Test.YtblmjemgfpbdlaaDoorScalarC
namespace Go.Proofs.YtblmjemgfpbdlaaDoor
open Go.RowKit

theorem refvalid_any (r : Int) (w : World) : Calls Tryd.prog 7 #[.int .i32 r] w fun e w' => e = .returned (.bool (validB r)) ∧ w = w' := by
  have hv : (validB r = true ∧ 0 ≤ r ∧ r ≤ 1114111 ∧ r < 55296) ∨ (validB r = true ∧ 0 ≤ r ∧ r ≤ 1114111 ∧ ¬ r < 55296 ∧ 57343 < r) ∨ (validB r = false ∧ ¬ 0 ≤ r) ∨ (validB r = false ∧ 0 ≤ r ∧ ¬ r ≤ 1114111) ∨ (validB r = false ∧ 0 ≤ r ∧ r ≤ 1114111 ∧ ¬ r < 55296 ∧ ¬ 57343 < r) := by
    unfold validB; simp; omega
  rcases hv with ⟨hv, h1, h2, h3⟩ | ⟨hv, h1, h2, h3, h4⟩ | ⟨hv, h1⟩ | ⟨hv, h1, h2⟩ | ⟨hv, h1, h2, h3, h4⟩
  all_goals
    rw [hv]
    clear hv
    go_enter Tryd.func7, Tryd.ntmps7
    go_wp2
    go_ret
    exact ⟨rfl, rfl⟩

theorem refsize_any (r : Int) (w : World) : Calls Tryd.prog 9 #[.int .i32 r] w fun e w' => e = .returned (.int .i64 (sizeI r)) ∧ w = w' := by
  have hv : (validB r = false ∧ sizeI r = 0) ∨ (validB r = true ∧ sizeI r = 1 ∧ ¬ 127 < r ∧ ¬ 2047 < r ∧ ¬ 65535 < r) ∨ (validB r = true ∧ sizeI r = 2 ∧ 127 < r ∧ ¬ 2047 < r ∧ ¬ 65535 < r) ∨ (validB r = true ∧ sizeI r = 3 ∧ 127 < r ∧ 2047 < r ∧ ¬ 65535 < r) ∨ (validB r = true ∧ sizeI r = 4 ∧ 127 < r ∧ 2047 < r ∧ 65535 < r) := by
    unfold sizeI
    cases validB r with
    | false => simp
    | true => simp; omega
  rcases hv with ⟨hv, hs⟩ | ⟨hv, hs, h1, h2, h3⟩ | ⟨hv, hs, h1, h2, h3⟩ | ⟨hv, hs, h1, h2, h3⟩ | ⟨hv, hs, h1, h2, h3⟩
  all_goals
    rw [hs]
    have HV := Lib.hid hv
    clear hv hs
    go_enter Tryd.func9, Tryd.ntmps9
    go_wp2_with fail
    refine (refvalid_any _ _).mono ?_
    rintro e w' ⟨rfl, rfl⟩
    rw [HV.out]
    go_wp2
    go_ret
    exact ⟨rfl, rfl⟩

set_option maxRecDepth 100000 in
theorem refform1 (r : Int) (w : World) (hv : validB r = true) (h1 : 0 ≤ r) (h2 : r < 128) : Calls Tryd.prog 12 #[.int .i32 r] w (Made .u8 w [r]) := by
  have hs : sizeI r = 1 := by
    unfold sizeI
    rw [if_neg (by simp [hv])]
    repeat (first | rw [if_pos (by omega)] | rw [if_neg (by omega)])
  have hm : r % 256 = r := by omega
  have HS := Lib.hid hs
  clear hs hv
  go_enter Tryd.func12, Tryd.ntmps12
  go_wp2_with fail
  refine (refsize_any _ _).mono ?_
  rintro e w' ⟨rfl, rfl⟩
  rw [HS.out]
  go_wp2
  go_ret
  exact ⟨_, rfl, held_new .u8 w [.int .u8 (r)] 5 1 1 _ rfl rfl, (Below.refl _ _).alloc (Nat.le_refl _) _⟩

set_option maxRecDepth 100000 in
theorem refform2 (r : Int) (w : World) (hv : validB r = true) (h1 : 128 ≤ r) (h2 : r < 2048) : Calls Tryd.prog 12 #[.int .i32 r] w (Made .u8 w [192 + r / 64, 128 + r % 64]) := by
  have hs : sizeI r = 2 := by
    unfold sizeI
    rw [if_neg (by simp [hv])]
    repeat (first | rw [if_pos (by omega)] | rw [if_neg (by omega)])
  have hm : (192 + r / 64) % 256 = 192 + r / 64 := by omega
  have hm2 : (128 + r % 64) % 256 = 128 + r % 64 := by omega
  have HS := Lib.hid hs
  clear hs hv
  go_enter Tryd.func12, Tryd.ntmps12
  go_wp2_with fail
  refine (refsize_any _ _).mono ?_
  rintro e w' ⟨rfl, rfl⟩
  rw [HS.out]
  go_wp2
  go_ret
  exact ⟨_, rfl, held_new .u8 w [.int .u8 (192 + r / 64), .int .u8 (128 + r % 64)] 5 2 2 _ rfl rfl, (Below.refl _ _).alloc (Nat.le_refl _) _⟩

set_option maxRecDepth 100000 in
theorem refform3 (r : Int) (w : World) (hv : validB r = true) (h1 : 2048 ≤ r) (h2 : r < 65536) : Calls Tryd.prog 12 #[.int .i32 r] w (Made .u8 w [224 + r / 4096, 128 + r / 64 % 64, 128 + r % 64]) := by
  have hs : sizeI r = 3 := by
    unfold sizeI
    rw [if_neg (by simp [hv])]
    repeat (first | rw [if_pos (by omega)] | rw [if_neg (by omega)])
  have hm : (224 + r / 4096) % 256 = 224 + r / 4096 := by omega
  have hm2 : (128 + r % 64) % 256 = 128 + r % 64 := by omega
  have hm3 : (128 + r / 64 % 64) % 256 = 128 + r / 64 % 64 := by omega
  have HS := Lib.hid hs
  clear hs hv
  go_enter Tryd.func12, Tryd.ntmps12
  go_wp2_with fail
  refine (refsize_any _ _).mono ?_
  rintro e w' ⟨rfl, rfl⟩
  rw [HS.out]
  go_wp2
  go_ret
  exact ⟨_, rfl, held_new .u8 w [.int .u8 (224 + r / 4096), .int .u8 (128 + r / 64 % 64), .int .u8 (128 + r % 64)] 5 3 3 _ rfl rfl, (Below.refl _ _).alloc (Nat.le_refl _) _⟩

set_option maxRecDepth 100000 in
theorem refform4 (r : Int) (w : World) (hv : validB r = true) (h1 : 65536 ≤ r) (h2 : r < 1114112) : Calls Tryd.prog 12 #[.int .i32 r] w (Made .u8 w [240 + r / 262144, 128 + r / 4096 % 64, 128 + r / 64 % 64, 128 + r % 64]) := by
  have hs : sizeI r = 4 := by
    unfold sizeI
    rw [if_neg (by simp [hv])]
    repeat (first | rw [if_pos (by omega)] | rw [if_neg (by omega)])
  have hm : (240 + r / 262144) % 256 = 240 + r / 262144 := by omega
  have hm2 : (128 + r % 64) % 256 = 128 + r % 64 := by omega
  have hm3 : (128 + r / 64 % 64) % 256 = 128 + r / 64 % 64 := by omega
  have hm4 : (128 + r / 4096 % 64) % 256 = 128 + r / 4096 % 64 := by omega
  have HS := Lib.hid hs
  clear hs hv
  go_enter Tryd.func12, Tryd.ntmps12
  go_wp2_with fail
  refine (refsize_any _ _).mono ?_
  rintro e w' ⟨rfl, rfl⟩
  rw [HS.out]
  go_wp2
  go_ret
  exact ⟨_, rfl, held_new .u8 w [.int .u8 (240 + r / 262144), .int .u8 (128 + r / 4096 % 64), .int .u8 (128 + r / 64 % 64), .int .u8 (128 + r % 64)] 5 4 4 _ rfl rfl, (Below.refl _ _).alloc (Nat.le_refl _) _⟩

set_option maxRecDepth 100000 in
theorem refform0 (r : Int) (w : World) (hv : validB r = false) : Calls Tryd.prog 12 #[.int .i32 r] w (Made .u8 w []) := by
  have HS := Lib.hid (show sizeI r = 0 from by unfold sizeI; rw [if_pos hv])
  clear hv
  go_enter Tryd.func12, Tryd.ntmps12
  go_wp2_with fail
  refine (refsize_any _ _).mono ?_
  rintro e w' ⟨rfl, rfl⟩
  rw [HS.out]
  go_wp2
  go_ret
  exact ⟨_, rfl, Held.nil _ _, Below.refl _ _⟩

theorem refform_any (r : Int) (w : World) : Calls Tryd.prog 12 #[.int .i32 r] w (Made .u8 w (formL r)) := by
  cases hv : validB r with
  | false =>
    rw [show formL r = [] from by simp [formL, hv]]
    exact refform0 r w hv
  | true =>
    have hr := validB_true.1 hv
    by_cases h1 : r < 128
    · rw [show formL r = [r] from by unfold formL; rw [if_neg (by simp [hv]), if_pos h1]]
      exact refform1 r w hv (by omega) h1
    · by_cases h2 : r < 2048
      · rw [show formL r = [192 + r / 64, 128 + r % 64] from by unfold formL; rw [if_neg (by simp [hv]), if_neg h1, if_pos h2]]
        exact refform2 r w hv (by omega) h2
      · by_cases h3 : r < 65536
        · rw [show formL r = [224 + r / 4096, 128 + r / 64 % 64, 128 + r % 64] from by unfold formL; rw [if_neg (by simp [hv]), if_neg h1, if_neg h2, if_pos h3]]
          exact refform3 r w hv (by omega) h3
        · rw [show formL r = [240 + r / 262144, 128 + r / 4096 % 64, 128 + r / 64 % 64, 128 + r % 64] from by unfold formL; rw [if_neg (by simp [hv]), if_neg h1, if_neg h2, if_neg h3]]
          exact refform4 r w hv (by omega) (by omega)

/-- Are two rows of bytes alike? -/
theorem bytes_any (v u : Value) (xs ys : List Int) (w : World) (hx : Held .u8 w v xs) (hy : Held .u8 w u ys) :
    Calls Tryd.prog 10 #[v, u] w fun e w' => e = .returned (.bool ((strOfNums xs).toList == (strOfNums ys).toList)) ∧ w = w' := by
  have h1 := held_text (P := Tryd.prog) hx 25 5 9 Tryd.underlying25 Tryd.underlying5 Tryd.underlying9
  have h2 := held_text (P := Tryd.prog) hy 25 5 9 Tryd.underlying25 Tryd.underlying5 Tryd.underlying9
  generalize strOfNums xs = s at *
  generalize strOfNums ys = t at *
  clear hx hy
  go_enter Tryd.func10, Tryd.ntmps10
  go_wp2
  go_ret
  exact ⟨rfl, rfl⟩
end Go.Proofs.YtblmjemgfpbdlaaDoor
