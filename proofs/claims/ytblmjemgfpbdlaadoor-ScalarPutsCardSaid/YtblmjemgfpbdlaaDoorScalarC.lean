/- Contracts of scalar's functions and of the reference's: what each answers, at every argument. -/
import Derived.Test.YtblmjemgfpbdlaaDoorProg
import Derived.Test.YtblmjemgfpbdlaaDoorAid
namespace Go.Proofs.YtblmjemgfpbdlaaDoor
open Go.RowKit

/-- Is a number a scalar value? -/
def validB (r : Int) : Bool := decide (0 ≤ r) && decide (r ≤ 1114111) && (decide (r < 55296) || decide (57343 < r))
theorem validB_true {r : Int} : validB r = true ↔ (0 ≤ r ∧ r ≤ 1114111 ∧ (r < 55296 ∨ 57343 < r)) := by
  unfold validB; simp [and_assoc]
def sizeI (r : Int) : Int := if validB r = false then 0 else if r < 128 then 1 else if r < 2048 then 2 else if r < 65536 then 3 else 4

theorem valid_any (r : Int) (w : World) : Calls Tryd.prog 6 #[.int .i32 r] w fun e w' => e = .returned (.bool (validB r)) ∧ w = w' := by
  by_cases h0 : 0 ≤ r
  · by_cases h1 : r ≤ 1114111
    · by_cases h2 : r < 55296
      · have hv : validB r = true := validB_true.2 (by omega)
        rw [hv]
        go_enter Tryd.func6, Tryd.ntmps6
        go_wp2
        go_ret
        exact ⟨rfl, rfl⟩
      · by_cases h3 : 57343 < r
        · have hv : validB r = true := validB_true.2 (by omega)
          rw [hv]
          go_enter Tryd.func6, Tryd.ntmps6
          go_wp2
          go_ret
          exact ⟨rfl, rfl⟩
        · have hv : validB r = false := by unfold validB; simp; omega
          rw [hv]
          go_enter Tryd.func6, Tryd.ntmps6
          go_wp2
          go_ret
          exact ⟨rfl, rfl⟩
    · have hv : validB r = false := by unfold validB; simp; omega
      rw [hv]
      go_enter Tryd.func6, Tryd.ntmps6
      go_wp2
      go_ret
      exact ⟨rfl, rfl⟩
  · have hv : validB r = false := by unfold validB; simp; omega
    rw [hv]
    go_enter Tryd.func6, Tryd.ntmps6
    go_wp2
    go_ret
    exact ⟨rfl, rfl⟩
theorem six_any (r : Int) (w : World) (h0 : 0 ≤ r) : Calls Tryd.prog 23 #[.int .i32 r] w fun e w' => e = .returned (.int .u8 (128 + r % 64)) ∧ w = w' := by
  have h1 := i32_and63 r h0
  have h2 := u8_join 128 (r % 64) 6 (by decide) (by decide) (by decide) (by omega) (by omega) (by omega)
  have h3 : r % 64 % 256 = r % 64 := by omega
  go_enter Tryd.func23, Tryd.ntmps23
  go_wp2
  go_ret
  exact ⟨ret_eq (by simp [h1, h2, h3]), rfl⟩

theorem size_any (r : Int) (w : World) : Calls Tryd.prog 8 #[.int .i32 r] w fun e w' => e = .returned (.int .i64 (sizeI r)) ∧ w = w' := by
  by_cases hv : validB r = true
  · have hr := validB_true.1 hv
    obtain ⟨h0, h1, _⟩ := hr
    have hs : sizeI r = if r < 128 then 1 else if r < 2048 then 2 else if r < 65536 then 3 else 4 := by simp [sizeI, hv]
    have HS := Lib.hid hs
    clear hs
    by_cases h128 : r < 128
    · go_enter Tryd.func8, Tryd.ntmps8
      go_wp2_with (go_at_call 6; refine (valid_any _ _).mono ?_; rintro e w' ⟨rfl, rfl⟩)
      go_ret
      exact ⟨ret_eq (by rw [HS.out]; simp [h128]), rfl⟩
    · go_enter Tryd.func8, Tryd.ntmps8
      go_wp2_with (go_at_call 6; refine (valid_any _ _).mono ?_; rintro e w' ⟨rfl, rfl⟩)
      all_goals go_ret
      all_goals exact ⟨ret_eq (by rw [HS.out]; (repeat (first | rw [if_pos (by omega)] | rw [if_neg (by omega)])); all_goals rfl), rfl⟩
  · have hf : validB r = false := by simpa using hv
    have hs : sizeI r = 0 := by simp [sizeI, hf]
    rw [hs]
    go_enter Tryd.func8, Tryd.ntmps8
    go_wp2_with (go_at_call 6; refine (valid_any _ _).mono ?_; rintro e w' ⟨rfl, rfl⟩)
    go_ret
    exact ⟨rfl, rfl⟩
theorem Tryd.info5 : (Tryd.prog.info? 5).map (fun i => (i.zero, i.size, i.bytes)) = some (some (.int .u8 0), 1, 1) := by kernel_rfl

/-- The bytes of a scalar value. -/
def formL (r : Int) : List Int :=
  if validB r = false then [] else if r < 128 then [r] else if r < 2048 then [192 + r / 64, 128 + r % 64]
  else if r < 65536 then [224 + r / 4096, 128 + r / 64 % 64, 128 + r % 64] else [240 + r / 262144, 128 + r / 4096 % 64, 128 + r / 64 % 64, 128 + r % 64]
theorem formL_len (r : Int) : (formL r).length ≤ 4 := by
  unfold formL
  repeat' split
  all_goals simp

def Appended (B : Nat) (w : World) (n : Nat) (xs : List Int) (e : Ending) (w' : World) : Prop :=
  ∃ v', e = .returned v' ∧ w'.ownsRow B 5 1 v' n (xs.map (Value.int .u8)) ∧ Below B w w'

set_option maxRecDepth 100000 in
theorem append1 (B : Nat) (v : Value) (n : Nat) (xs : List Int) (r : Int) (w : World) (hown : w.ownsRow B 5 1 v n (xs.map (Value.int .u8))) (hB : B ≤ w.heap.size) (hn : n ≤ 140737488355000)
    (hv : validB r = true) (h1 : 0 ≤ r) (h2 : r < 128) : Calls Tryd.prog 19 #[v, .int .i32 r] w (Appended B w (n + 1) (xs ++ [r])) := by
  have hs : sizeI r = 1 := by
    unfold sizeI
    rw [if_neg (by simp [hv])]
    repeat (first | rw [if_pos (by omega)] | rw [if_neg (by omega)])
  have hm : r % 256 = r := by omega
  have HS := Lib.hid hs
  clear hs hv
  go_enter Tryd.func19, Tryd.ntmps19
  go_wp2_with fail
  refine (size_any _ _).mono ?_
  rintro e w' ⟨rfl, rfl⟩
  rw [HS.out]
  go_wp2_with (at_builtin; refine wpList_append_new w rfl (.tmp 9) (.tmp 12) 25 rfl B 5 (.int .u8 0) 1 Tryd.underlying25 Tryd.info5 rfl v n (xs.map (Value.int .u8)) rfl hown [.int .u8 (r)] 1 1 rfl rfl (by intro u hu; simp at hu; rcases hu with rfl <;> rfl) (by omega) (by omega) hB ?_)
  intro v' w' hown' hb
  clear hown
  go_wp2
  go_ret
  exact ⟨v', rfl, by simpa using hown', hb⟩

set_option maxRecDepth 100000 in
theorem append2 (B : Nat) (v : Value) (n : Nat) (xs : List Int) (r : Int) (w : World) (hown : w.ownsRow B 5 1 v n (xs.map (Value.int .u8))) (hB : B ≤ w.heap.size) (hn : n ≤ 140737488355000)
    (hv : validB r = true) (h1 : 128 ≤ r) (h2 : r < 2048) : Calls Tryd.prog 19 #[v, .int .i32 r] w (Appended B w (n + 2) (xs ++ [192 + r / 64, 128 + r % 64])) := by
  have hs : sizeI r = 2 := by
    unfold sizeI
    rw [if_neg (by simp [hv])]
    repeat (first | rw [if_pos (by omega)] | rw [if_neg (by omega)])
  have hj := u8_join 192 (r / 64) 6 (by decide) (by decide) (by decide) (by omega) (by omega) (by omega)
  have hm : r / 64 % 256 = r / 64 := by omega
  have HS := Lib.hid hs
  clear hs hv
  go_enter Tryd.func19, Tryd.ntmps19
  go_wp2_with fail
  refine (size_any _ _).mono ?_
  rintro e w' ⟨rfl, rfl⟩
  rw [HS.out]
  go_wp2_with fail
  refine (six_any r _ (by omega)).mono ?_
  rintro e w' ⟨rfl, rfl⟩
  go_wp2_with (at_builtin; refine wpList_append_new w rfl (.tmp 16) (.tmp 23) 25 rfl B 5 (.int .u8 0) 1 Tryd.underlying25 Tryd.info5 rfl v n (xs.map (Value.int .u8)) rfl hown [.int .u8 (192 + r / 64), .int .u8 (128 + r % 64)] 2 2 rfl rfl (by intro u hu; simp at hu; rcases hu with rfl | rfl <;> rfl) (by omega) (by omega) hB ?_)
  intro v' w' hown' hb
  clear hown
  go_wp2
  go_ret
  exact ⟨v', rfl, by simpa using hown', hb⟩

set_option maxRecDepth 100000 in
theorem append3 (B : Nat) (v : Value) (n : Nat) (xs : List Int) (r : Int) (w : World) (hown : w.ownsRow B 5 1 v n (xs.map (Value.int .u8))) (hB : B ≤ w.heap.size) (hn : n ≤ 140737488355000)
    (hv : validB r = true) (h1 : 2048 ≤ r) (h2 : r < 65536) : Calls Tryd.prog 19 #[v, .int .i32 r] w (Appended B w (n + 3) (xs ++ [224 + r / 4096, 128 + r / 64 % 64, 128 + r % 64])) := by
  have hs : sizeI r = 3 := by
    unfold sizeI
    rw [if_neg (by simp [hv])]
    repeat (first | rw [if_pos (by omega)] | rw [if_neg (by omega)])
  have hj := u8_join 224 (r / 4096) 4 (by decide) (by decide) (by decide) (by omega) (by omega) (by omega)
  have hm : r / 4096 % 256 = r / 4096 := by omega
  have HS := Lib.hid hs
  clear hs hv
  go_enter Tryd.func19, Tryd.ntmps19
  go_wp2_with fail
  refine (size_any _ _).mono ?_
  rintro e w' ⟨rfl, rfl⟩
  rw [HS.out]
  go_wp2_with fail
  refine (six_any (r / 64) _ (by omega)).mono ?_
  rintro e w' ⟨rfl, rfl⟩
  go_wp2_with fail
  refine (six_any r _ (by omega)).mono ?_
  rintro e w' ⟨rfl, rfl⟩
  go_wp2_with (at_builtin; refine wpList_append_new w rfl (.tmp 27) (.tmp 37) 25 rfl B 5 (.int .u8 0) 1 Tryd.underlying25 Tryd.info5 rfl v n (xs.map (Value.int .u8)) rfl hown [.int .u8 (224 + r / 4096), .int .u8 (128 + r / 64 % 64), .int .u8 (128 + r % 64)] 3 3 rfl rfl (by intro u hu; simp at hu; rcases hu with rfl | rfl | rfl <;> rfl) (by omega) (by omega) hB ?_)
  intro v' w' hown' hb
  clear hown
  go_wp2
  go_ret
  exact ⟨v', rfl, by simpa using hown', hb⟩

set_option maxRecDepth 100000 in
theorem append4 (B : Nat) (v : Value) (n : Nat) (xs : List Int) (r : Int) (w : World) (hown : w.ownsRow B 5 1 v n (xs.map (Value.int .u8))) (hB : B ≤ w.heap.size) (hn : n ≤ 140737488355000)
    (hv : validB r = true) (h1 : 65536 ≤ r) (h2 : r < 1114112) : Calls Tryd.prog 19 #[v, .int .i32 r] w (Appended B w (n + 4) (xs ++ [240 + r / 262144, 128 + r / 4096 % 64, 128 + r / 64 % 64, 128 + r % 64])) := by
  have hs : sizeI r = 4 := by
    unfold sizeI
    rw [if_neg (by simp [hv])]
    repeat (first | rw [if_pos (by omega)] | rw [if_neg (by omega)])
  have hj := u8_join 240 (r / 262144) 3 (by decide) (by decide) (by decide) (by omega) (by omega) (by omega)
  have hm : r / 262144 % 256 = r / 262144 := by omega
  have HS := Lib.hid hs
  clear hs hv
  go_enter Tryd.func19, Tryd.ntmps19
  go_wp2_with fail
  refine (size_any _ _).mono ?_
  rintro e w' ⟨rfl, rfl⟩
  rw [HS.out]
  go_wp2_with fail
  refine (six_any (r / 4096) _ (by omega)).mono ?_
  rintro e w' ⟨rfl, rfl⟩
  go_wp2_with fail
  refine (six_any (r / 64) _ (by omega)).mono ?_
  rintro e w' ⟨rfl, rfl⟩
  go_wp2_with fail
  refine (six_any r _ (by omega)).mono ?_
  rintro e w' ⟨rfl, rfl⟩
  go_wp2_with (at_builtin; refine wpList_append_new w rfl (.tmp 41) (.tmp 54) 25 rfl B 5 (.int .u8 0) 1 Tryd.underlying25 Tryd.info5 rfl v n (xs.map (Value.int .u8)) rfl hown [.int .u8 (240 + r / 262144), .int .u8 (128 + r / 4096 % 64), .int .u8 (128 + r / 64 % 64), .int .u8 (128 + r % 64)] 4 4 rfl rfl (by intro u hu; simp at hu; rcases hu with rfl | rfl | rfl | rfl <;> rfl) (by omega) (by omega) hB ?_)
  intro v' w' hown' hb
  clear hown
  go_wp2
  go_ret
  exact ⟨v', rfl, by simpa using hown', hb⟩

set_option maxRecDepth 100000 in
theorem append0 (B : Nat) (v : Value) (n : Nat) (xs : List Int) (r : Int) (w : World) (hown : w.ownsRow B 5 1 v n (xs.map (Value.int .u8)))
    (hv : validB r = false) : Calls Tryd.prog 19 #[v, .int .i32 r] w (Appended B w n xs) := by
  have HS := Lib.hid (show sizeI r = 0 from by unfold sizeI; rw [if_pos hv])
  clear hv
  go_enter Tryd.func19, Tryd.ntmps19
  go_wp2_with fail
  refine (size_any _ _).mono ?_
  rintro e w' ⟨rfl, rfl⟩
  rw [HS.out]
  go_wp2
  go_ret
  exact ⟨v, rfl, hown, Below.refl _ _⟩

/-- appendForm: the bytes behind what was there. -/
theorem append_any (B : Nat) (v : Value) (n : Nat) (xs : List Int) (r : Int) (w : World) (hown : w.ownsRow B 5 1 v n (xs.map (Value.int .u8))) (hB : B ≤ w.heap.size) (hn : n ≤ 140737488355000) :
    Calls Tryd.prog 19 #[v, .int .i32 r] w (Appended B w (n + (formL r).length) (xs ++ formL r)) := by
  cases hv : validB r with
  | false =>
    have hf : formL r = [] := by simp [formL, hv]
    rw [hf]
    simpa using append0 B v n xs r w hown hv
  | true =>
    have hr := validB_true.1 hv
    by_cases h1 : r < 128
    · have hf : formL r = [r] := by unfold formL; rw [if_neg (by simp [hv]), if_pos h1]
      rw [hf]
      exact append1 B v n xs r w hown hB hn hv (by omega) h1
    · by_cases h2 : r < 2048
      · have hf : formL r = [192 + r / 64, 128 + r % 64] := by unfold formL; rw [if_neg (by simp [hv]), if_neg h1, if_pos h2]
        rw [hf]
        exact append2 B v n xs r w hown hB hn hv (by omega) h2
      · by_cases h3 : r < 65536
        · have hf : formL r = [224 + r / 4096, 128 + r / 64 % 64, 128 + r % 64] := by unfold formL; rw [if_neg (by simp [hv]), if_neg h1, if_neg h2, if_pos h3]
          rw [hf]
          exact append3 B v n xs r w hown hB hn hv (by omega) h3
        · have hf : formL r = [240 + r / 262144, 128 + r / 4096 % 64, 128 + r / 64 % 64, 128 + r % 64] := by unfold formL; rw [if_neg (by simp [hv]), if_neg h1, if_neg h2, if_neg h3]
          rw [hf]
          exact append4 B v n xs r w hown hB hn hv (by omega) (by omega)

/-- What hands back a slice of bytes that it made. -/
def Made (k : IntKind) (w : World) (xs : List Int) (e : Ending) (w' : World) : Prop := ∃ v', e = .returned v' ∧ Held k w' v' xs ∧ Below w.heap.size w w'

theorem form_any (r : Int) (w : World) : Calls Tryd.prog 11 #[.int .i32 r] w (Made .u8 w (formL r)) := by
  go_enter Tryd.func11, Tryd.ntmps11
  go_wp2_with fail
  refine (append_any w.heap.size (.slice none 0 0) 0 [] r w (World.ownsRow_nil _ _ _ _) (Nat.le_refl _) (by omega)).mono ?_
  rintro e w' ⟨v', rfl, hown, hb⟩
  go_wp2
  go_ret
  exact ⟨v', rfl, by simpa using held_of_owns hown, hb⟩
end Go.Proofs.YtblmjemgfpbdlaaDoor
