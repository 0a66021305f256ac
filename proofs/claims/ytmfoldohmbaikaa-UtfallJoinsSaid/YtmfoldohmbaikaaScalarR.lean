/- Contracts of the functions of linotyperef01 that others lean on. -/
import Derived.Test.YtmfoldohmbaikaaScalM
import Derived.Deep.QuietTactic
import Derived.BigQuiet
namespace Go.Proofs.Ytmfoldohmbaikaa
open Go.RowKit Go.ChangeShapes Go.WideShapes

theorem refvalid_any (r : Int) (w : World) : Calls Try.prog 60 #[.int .i32 r] w fun e w' => e = .returned (.bool (validB r)) ∧ w = w' := by
  have hv : (validB r = true ∧ 0 ≤ r ∧ r ≤ 1114111 ∧ r < 55296) ∨ (validB r = true ∧ 0 ≤ r ∧ r ≤ 1114111 ∧ ¬ r < 55296 ∧ 57343 < r) ∨ (validB r = false ∧ ¬ 0 ≤ r) ∨ (validB r = false ∧ 0 ≤ r ∧ ¬ r ≤ 1114111) ∨ (validB r = false ∧ 0 ≤ r ∧ r ≤ 1114111 ∧ ¬ r < 55296 ∧ ¬ 57343 < r) := by
    unfold validB; simp; omega
  rcases hv with ⟨hv, h1, h2, h3⟩ | ⟨hv, h1, h2, h3, h4⟩ | ⟨hv, h1⟩ | ⟨hv, h1, h2⟩ | ⟨hv, h1, h2, h3, h4⟩
  all_goals
    rw [hv]
    clear hv
    go_enter Try.func60, Try.ntmps60
    go_wp2
    go_ret
    exact ⟨rfl, rfl⟩

theorem refsize_any (r : Int) (w : World) : Calls Try.prog 57 #[.int .i32 r] w fun e w' => e = .returned (.int .i64 (sizeI r)) ∧ w = w' := by
  have hv : (validB r = false ∧ sizeI r = 0) ∨ (validB r = true ∧ sizeI r = 1 ∧ ¬ 127 < r ∧ ¬ 2047 < r ∧ ¬ 65535 < r) ∨ (validB r = true ∧ sizeI r = 2 ∧ 127 < r ∧ ¬ 2047 < r ∧ ¬ 65535 < r) ∨ (validB r = true ∧ sizeI r = 3 ∧ 127 < r ∧ 2047 < r ∧ ¬ 65535 < r) ∨ (validB r = true ∧ sizeI r = 4 ∧ 127 < r ∧ 2047 < r ∧ 65535 < r) := by
    unfold sizeI
    cases validB r with
    | false => simp
    | true => simp; omega
  rcases hv with ⟨hv, hs⟩ | ⟨hv, hs, h1, h2, h3⟩ | ⟨hv, hs, h1, h2, h3⟩ | ⟨hv, hs, h1, h2, h3⟩ | ⟨hv, hs, h1, h2, h3⟩
  all_goals
    rw [hs]
    have HV := Lib.hid hv
    clear hv hs
    go_enter Try.func57, Try.ntmps57
    go_wp2_with fail
    refine (refvalid_any _ _).mono ?_
    rintro e w' ⟨rfl, rfl⟩
    rw [HV.out]
    go_wp2
    go_ret
    exact ⟨rfl, rfl⟩

set_option maxRecDepth 100000 in
theorem refform1 (r : Int) (w : World) (hv : validB r = true) (h1 : 0 ≤ r) (h2 : r < 128) : Calls Try.prog 25 #[.int .i32 r] w (MadeNew .u8 w [r]) := by
  have hs : sizeI r = 1 := by
    unfold sizeI
    rw [if_neg (by simp [hv])]
    repeat (first | rw [if_pos (by omega)] | rw [if_neg (by omega)])
  have hm : r % 256 = r := by omega
  have HS := Lib.hid hs
  clear hs hv
  go_enter Try.func25, Try.ntmps25
  go_wp2_with fail
  refine (refsize_any _ _).mono ?_
  rintro e w' ⟨rfl, rfl⟩
  rw [HS.out]
  go_wp2
  go_ret
  exact ⟨_, rfl, held_new .u8 w [.int .u8 (r)] 5 1 1 _ rfl rfl, (Below.refl _ _).alloc (Nat.le_refl _) _, Fresh.at_ _ _ _ _ _ (Nat.le_refl _)⟩

set_option maxRecDepth 100000 in
theorem refform2 (r : Int) (w : World) (hv : validB r = true) (h1 : 128 ≤ r) (h2 : r < 2048) : Calls Try.prog 25 #[.int .i32 r] w (MadeNew .u8 w [192 + r / 64, 128 + r % 64]) := by
  have hs : sizeI r = 2 := by
    unfold sizeI
    rw [if_neg (by simp [hv])]
    repeat (first | rw [if_pos (by omega)] | rw [if_neg (by omega)])
  have hm : (192 + r / 64) % 256 = 192 + r / 64 := by omega
  have hm2 : (128 + r % 64) % 256 = 128 + r % 64 := by omega
  have HS := Lib.hid hs
  clear hs hv
  go_enter Try.func25, Try.ntmps25
  go_wp2_with fail
  refine (refsize_any _ _).mono ?_
  rintro e w' ⟨rfl, rfl⟩
  rw [HS.out]
  go_wp2
  go_ret
  exact ⟨_, rfl, held_new .u8 w [.int .u8 (192 + r / 64), .int .u8 (128 + r % 64)] 5 2 2 _ rfl rfl, (Below.refl _ _).alloc (Nat.le_refl _) _, Fresh.at_ _ _ _ _ _ (Nat.le_refl _)⟩

set_option maxRecDepth 100000 in
theorem refform3 (r : Int) (w : World) (hv : validB r = true) (h1 : 2048 ≤ r) (h2 : r < 65536) : Calls Try.prog 25 #[.int .i32 r] w (MadeNew .u8 w [224 + r / 4096, 128 + r / 64 % 64, 128 + r % 64]) := by
  have hs : sizeI r = 3 := by
    unfold sizeI
    rw [if_neg (by simp [hv])]
    repeat (first | rw [if_pos (by omega)] | rw [if_neg (by omega)])
  have hm : (224 + r / 4096) % 256 = 224 + r / 4096 := by omega
  have hm2 : (128 + r % 64) % 256 = 128 + r % 64 := by omega
  have hm3 : (128 + r / 64 % 64) % 256 = 128 + r / 64 % 64 := by omega
  have HS := Lib.hid hs
  clear hs hv
  go_enter Try.func25, Try.ntmps25
  go_wp2_with fail
  refine (refsize_any _ _).mono ?_
  rintro e w' ⟨rfl, rfl⟩
  rw [HS.out]
  go_wp2
  go_ret
  exact ⟨_, rfl, held_new .u8 w [.int .u8 (224 + r / 4096), .int .u8 (128 + r / 64 % 64), .int .u8 (128 + r % 64)] 5 3 3 _ rfl rfl, (Below.refl _ _).alloc (Nat.le_refl _) _, Fresh.at_ _ _ _ _ _ (Nat.le_refl _)⟩

set_option maxRecDepth 100000 in
theorem refform4 (r : Int) (w : World) (hv : validB r = true) (h1 : 65536 ≤ r) (h2 : r < 1114112) : Calls Try.prog 25 #[.int .i32 r] w (MadeNew .u8 w [240 + r / 262144, 128 + r / 4096 % 64, 128 + r / 64 % 64, 128 + r % 64]) := by
  have hs : sizeI r = 4 := by
    unfold sizeI
    rw [if_neg (by simp [hv])]
    repeat (first | rw [if_pos (by omega)] | rw [if_neg (by omega)])
  have hm : (240 + r / 262144) % 256 = 240 + r / 262144 := by omega
  have hm2 : (128 + r % 64) % 256 = 128 + r % 64 := by omega
  have hm3 : (128 + r / 64 % 64) % 256 = 128 + r / 64 % 64 := by omega
  have hm4 : (128 + r / 4096 % 64) % 256 = 128 + r / 4096 % 64 := by omega
  have HS := Lib.hid hs
  clear hs hv
  go_enter Try.func25, Try.ntmps25
  go_wp2_with fail
  refine (refsize_any _ _).mono ?_
  rintro e w' ⟨rfl, rfl⟩
  rw [HS.out]
  go_wp2
  go_ret
  exact ⟨_, rfl, held_new .u8 w [.int .u8 (240 + r / 262144), .int .u8 (128 + r / 4096 % 64), .int .u8 (128 + r / 64 % 64), .int .u8 (128 + r % 64)] 5 4 4 _ rfl rfl, (Below.refl _ _).alloc (Nat.le_refl _) _, Fresh.at_ _ _ _ _ _ (Nat.le_refl _)⟩

set_option maxRecDepth 100000 in
theorem refform0 (r : Int) (w : World) (hv : validB r = false) : Calls Try.prog 25 #[.int .i32 r] w (MadeNew .u8 w []) := by
  have HS := Lib.hid (show sizeI r = 0 from by unfold sizeI; rw [if_pos hv])
  clear hv
  go_enter Try.func25, Try.ntmps25
  go_wp2_with fail
  refine (refsize_any _ _).mono ?_
  rintro e w' ⟨rfl, rfl⟩
  rw [HS.out]
  go_wp2
  go_ret
  exact ⟨_, rfl, Held.nil _ _, Below.refl _ _, Fresh.nil _ _ _⟩

theorem refform_new (r : Int) (w : World) : Calls Try.prog 25 #[.int .i32 r] w (MadeNew .u8 w (formL r)) := by
  cases hv : validB r with
  | false =>
    rw [show formL r = [] from by simp [formL, hv]]
    exact refform0 r w hv
  | true =>
    have hr := validB_true.1 hv
    by_cases h1 : r < 128
    · rw [show formL r = [r] from by unfold formL; rw [if_neg (by simp [hv]), if_pos h1]]
      exact refform1 r w hv (by omega) h1
    · by_cases h2 : r < 2048
      · rw [show formL r = [192 + r / 64, 128 + r % 64] from by unfold formL; rw [if_neg (by simp [hv]), if_neg h1, if_pos h2]]
        exact refform2 r w hv (by omega) h2
      · by_cases h3 : r < 65536
        · rw [show formL r = [224 + r / 4096, 128 + r / 64 % 64, 128 + r % 64] from by unfold formL; rw [if_neg (by simp [hv]), if_neg h1, if_neg h2, if_pos h3]]
          exact refform3 r w hv (by omega) h3
        · rw [show formL r = [240 + r / 262144, 128 + r / 4096 % 64, 128 + r / 64 % 64, 128 + r % 64] from by unfold formL; rw [if_neg (by simp [hv]), if_neg h1, if_neg h2, if_neg h3]]
          exact refform4 r w hv (by omega) (by omega)

theorem refform_any (r : Int) (w : World) : Calls Try.prog 25 #[.int .i32 r] w (Made .u8 w (formL r)) :=
  (refform_new r w).mono fun _ _ ⟨v, h1, h2, h3, _⟩ => ⟨v, h1, h2, h3⟩

/-- Are two rows of bytes alike? -/
theorem bytes_any (v u : Value) (xs ys : List Int) (w : World) (hx : Held .u8 w v xs) (hy : Held .u8 w u ys) :
    Calls Try.prog 24 #[v, u] w fun e w' => e = .returned (.bool ((strOfNums xs).toList == (strOfNums ys).toList)) ∧ w = w' := by
  have h1 := held_text (P := Try.prog) hx 22 5 9 Try.underlying22 Try.underlying5 Try.underlying9
  have h2 := held_text (P := Try.prog) hy 22 5 9 Try.underlying22 Try.underlying5 Try.underlying9
  generalize strOfNums xs = s at *
  generalize strOfNums ys = t at *
  clear hx hy
  go_enter Try.func24, Try.ntmps24
  go_wp2
  go_ret
  exact ⟨rfl, rfl⟩

def sameB (xs ys : List Int) : Bool := decide (xs = ys)
theorem sameB_of {xs ys : List Int} (hl : ys.length = xs.length) (h : ∀ j, j < xs.length → xs.getD j 0 = ys.getD j 0) : sameB xs ys = true := by
  unfold sameB
  rw [decide_eq_true_eq]
  apply List.ext_getElem hl.symm
  intro i h1 h2
  have := h i h1
  simpa [List.getD, List.getElem?_eq_getElem h1, List.getElem?_eq_getElem h2] using this
theorem sameB_not {xs ys : List Int} (j : Nat) (h : xs.getD j 0 ≠ ys.getD j 0) : sameB xs ys = false := by
  unfold sameB
  rw [decide_eq_false_iff_not]
  rintro rfl
  exact h rfl
theorem sameB_len {xs ys : List Int} (h : ¬ ys.length = xs.length) : sameB xs ys = false := by
  unfold sameB
  rw [decide_eq_false_iff_not]
  rintro rfl
  exact h rfl
theorem sameB_self (xs : List Int) : sameB xs xs = true := by simp [sameB]
/-- What has been found alike so far. -/
def Alike0 (xs ys : List Int) (k : Nat) : Prop := ∀ j, j < k → xs.getD j 0 = ys.getD j 0
set_option maxRecDepth 100000 in
theorem same_any (v u : Value) (xs ys : List Int) (w : World) (hx : Held .i32 w v xs) (hy : Held .i32 w u ys) (hlen : xs.length ≤ 1000000000) :
    Calls Try.prog 18 #[v, u] w (Gives w (.bool (sameB xs ys))) := by
  obtain ⟨ao, ca, rfl, hc⟩ := hx.view
  obtain ⟨bo, cb, rfl, hd⟩ := hy.view
  have HC := Lib.hid hc
  have HD := Lib.hid hd
  clear hc hd hx hy
  by_cases hl : ys.length = xs.length
  · have HL := Lib.hid hl
    rw [hl]
    clear hl
    go_enter Try.func18, Try.ntmps18
    go_wp2
    go_loopw [5] (fun i wr => ∃ k : Nat, k ≤ xs.length ∧ i = .int .i64 k ∧ Alike0 xs ys k ∧ Below w.heap.size w wr) (fun i _ => xs.length - (intOf i).toNat)
    case atStart => exact ⟨0, Nat.zero_le _, rfl, (fun j hj => by omega), Below.refl _ _⟩
    case round =>
      obtain ⟨k, hk, rfl, hal, hbw⟩ := hrel
      have HA := Lib.hid hal
      clear hal
      by_cases hlt : k < xs.length
      · obtain ⟨b1, o1, rfl, hb1, hcx⟩ := HC.out k hlt
        obtain ⟨b2, o2, rfl, hb2, hcy⟩ := HD.out k (by rw [HL.out]; exact hlt)
        have hcx := (hbw.cell (p := ⟨b1, o1 + k, none⟩) hb1).trans hcx
        have hcy := (hbw.cell (p := ⟨b2, o2 + k, none⟩) hb2).trans hcy
        by_cases he : xs.getD k 0 = ys.getD k 0
        · have HE : Alike0 xs ys (k + 1) := by
            intro j hj
            by_cases h : j = k
            · subst h; exact he
            · exact HA.out j (by omega)
          rw [← he] at hcy
          clear he
          generalize xs.getD k 0 = x at hcx hcy
          go_wp2
          go_quiet (fail)
          have hbw := hbw.drewN nq
          go_wp2
          go_roundw
          case rel => exact ⟨k + 1, by omega, by go_num, HE, hbw⟩
          case measure => simp [intOf]; omega
        · have E := Lib.hid (sameB_not k he)
          generalize xs.getD k 0 = x at hcx he
          generalize ys.getD k 0 = y at hcy he
          go_wp2
          go_quiet (fail)
          have hbw := hbw.drewN nq
          go_wp2
          go_ret
          exact ⟨ret_eq (by rw [E.out]; rfl), hbw⟩
      · have e : sameB xs ys = true := sameB_of HL.out (fun j hj => HA.out j (by omega))
        have E := Lib.hid e
        clear e
        go_wp2
        go_ret
        exact ⟨ret_eq (by rw [E.out]; rfl), hbw⟩
  · rw [sameB_len hl]
    go_enter Try.func18, Try.ntmps18
    go_wp2
    go_ret
    exact ⟨rfl, Below.refl _ _⟩
end Go.Proofs.Ytmfoldohmbaikaa
