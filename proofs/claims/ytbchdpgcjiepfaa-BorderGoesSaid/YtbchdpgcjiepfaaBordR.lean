/- Contracts of the reference's functions of layer 17; works. -/
import Derived.Test.YtbchdpgcjiepfaaBordD
import Derived.Test.YtbchdpgcjiepfaaFrame
namespace Go.Proofs.Ytbchdpgcjiepfaa
open Go.RowKit Go.ChangeShapes Go.WideShapes
theorem isAt_nat {xs : List Int} {k : Nat} (hk : k ≤ xs.length) : isAt xs (k : Int) = bB xs k := by
  unfold isAt
  rw [Bool.eq_iff_iff, decide_eq_true_eq]
  constructor
  · intro h
    obtain ⟨m, hm, e⟩ := List.mem_map.1 h
    have : m = k := by exact_mod_cast e
    subst this
    exact (allB_mem.1 hm).2
  · intro h
    exact List.mem_map.2 ⟨k, allB_mem.2 ⟨hk, h⟩, rfl⟩
theorem isAt_zero (xs : List Int) : isAt xs 0 = true := by
  have h := isAt_nat (xs := xs) (k := 0) (Nat.zero_le _)
  rw [show ((0 : Nat) : Int) = 0 from rfl] at h
  rw [h]
  unfold bB isB
  by_cases h0 : xs.length = 0
  · simp [h0]
  · have hj : bJ xs 0 = false := by unfold bJ jR; simp
    rw [hj, decide_eq_true (show 0 < xs.length by omega)]
    simp
theorem isAt_len (xs : List Int) : isAt xs (xs.length : Int) = true := by rw [isAt_nat (Nat.le_refl _)]; exact bB_last xs
theorem isAt_rest {xs : List Int} {t : Int} (h1 : t ≠ (xs.length : Int)) : isAt xs t = decide (t ∈ toI (startB (bJ xs) xs.length)) := by
  unfold isAt
  rw [bAll_eq]
  unfold toI
  rw [List.map_append]
  simp [h1]
set_option maxRecDepth 100000 in
set_option maxHeartbeats 1000000 in
theorem ris_any (xs : List Int) (v : Value) (t : Int) (w : World) (hx : Held .i32 w v xs) (hn : xs.length ≤ 1000000) (hr : bounds32 xs) :
    Calls Try.prog 10 #[v, .int .i64 t] w (Gives w (.bool (isAt xs t))) := by
  obtain ⟨ao, ca, rfl, _⟩ := hx.view
  have HX := Lib.hid hx
  have HR := Lib.hid hr
  clear hx hr
  by_cases h0 : t = 0
  · subst h0
    have HV := Lib.hid (isAt_zero xs)
    go_enter Try.func10, Try.ntmps10
    go_wp2
    go_ret
    exact ⟨ret_eq (by rw [HV.out]; rfl), Below.refl _ _⟩
  have d0 : (t == 0) = false := by simpa using h0
  by_cases h1 : t = (xs.length : Int)
  · have HV := Lib.hid (show isAt xs t = true by rw [h1]; exact isAt_len xs)
    have d1 : (t == (xs.length : Int)) = true := by simpa using h1
    clear h1 h0
    go_enter Try.func10, Try.ntmps10
    go_wp2
    go_ret
    exact ⟨ret_eq (by rw [HV.out]; rfl), Below.refl _ _⟩
  have d1 : (t == (xs.length : Int)) = false := by simpa using h1
  have HV := Lib.hid (isAt_rest (xs := xs) h1)
  clear h0 h1
  go_enter Try.func10, Try.ntmps10
  go_wp2_with fail
  refine (rstarts_any _ xs _ HX.out hn HR.out).mono ?_
  rintro e w1 ⟨v1, m, rfl, hown, b1⟩
  have hm : (toI (startB (bJ xs) xs.length)).length = m := (by have := hown.1; simpa using this : (toI (startB (jR (knownL xs)) xs.length)).length = m)
  have hml := startB_len (bJ xs) xs.length
  rw [toI_len] at hm
  have hh : Held .i64 w1 v1 (toI (startB (bJ xs) xs.length)) := held_of_owns hown
  clear hown
  obtain ⟨so, sc, rfl, hc⟩ := hh.view
  obtain ⟨l, hl⟩ : ∃ l, l = toI (startB (bJ xs) xs.length) := ⟨_, rfl⟩
  rw [← hl] at hc HV
  have hll : l.length ≤ 1000000 := by rw [hl, toI_len]; omega
  rw [← hl]
  have HC := Lib.hid hc
  clear hc hh hl hm hml
  go_wp2
  go_loopw [6] (fun i wr => ∃ k : Nat, k ≤ l.length ∧ i = .int .i64 k ∧ Go.RowKit.Hid (∀ j, j < k → l.getD j 0 ≠ t) ∧ Below w1.heap.size w1 wr) (fun i _ => l.length - (intOf i).toNat)
  case atStart => exact ⟨0, Nat.zero_le _, rfl, Lib.hid (fun j hj => by omega), Below.refl _ _⟩
  case round =>
    obtain ⟨k, hk, rfl, HN, hbw⟩ := hrel
    by_cases hlt : k < l.length
    · obtain ⟨b, off, rfl, hb, hcx⟩ := HC.out k hlt
      have hcx := (hbw.cell (p := ⟨b, off + k, none⟩) hb).trans hcx
      by_cases he : l.getD k 0 = t
      · have HV2 := Lib.hid (show isAt xs t = true by rw [HV.out, decide_eq_true_eq, ← he]; simp only [List.getD, List.getElem?_eq_getElem hlt, Option.getD_some]; exact List.getElem_mem hlt)
        have hfin := b1.trans (hbw.mono b1.size)
        rw [he] at hcx
        clear he HN
        go_wp2
        go_ret
        exact ⟨ret_eq (by rw [HV2.out]; rfl), hfin⟩
      · have HN2 := Lib.hid (show ∀ j, j < k + 1 → l.getD j 0 ≠ t from fun j hj => by
          by_cases h : j = k
          · subst h; exact he
          · exact HN.out j (by omega))
        have he' : (l.getD k 0 == t) = false := by simpa using he
        generalize l.getD k 0 = y at hcx he he'
        go_wp2
        go_roundw
        case rel => exact ⟨k + 1, by omega, by go_num, HN2, hbw⟩
        case measure => simp [intOf] <;> omega
    · have HV2 := Lib.hid (show isAt xs t = false by
        rw [HV.out, decide_eq_false_iff_not]
        intro hm
        obtain ⟨j, hj, e⟩ := List.getElem_of_mem hm
        exact HN.out j (by omega) (by simp only [List.getD, List.getElem?_eq_getElem hj, Option.getD_some]; exact e))
      have hfin := b1.trans (hbw.mono b1.size)
      clear HN
      go_wp2
      go_ret
      exact ⟨ret_eq (by rw [HV2.out]; rfl), hfin⟩
theorem up_step (B p : Nat → Bool) {n k : Nat} (hk : k < n) : upB B p n (n - k) = if p k && B k then k else upB B p n (n - (k + 1)) := by
  obtain ⟨d, hd⟩ : ∃ d, n - k = d + 1 := ⟨n - k - 1, by omega⟩
  rw [hd]
  show (if p (n - (d + 1) + 1 - 1) && B (n - (d + 1) + 1 - 1) then n - (d + 1) + 1 - 1 else upB B p n d) = _
  rw [show n - (d + 1) + 1 - 1 = k by omega, show n - (k + 1) = d by omega]
theorem ris_nat (xs : List Int) (v : Value) (k : Nat) (hk : k ≤ xs.length) (w : World) (hx : Held .i32 w v xs) (hn : xs.length ≤ 1000000) (hr : bounds32 xs) :
    Calls Try.prog 10 #[v, .int .i64 k] w (Gives w (.bool (bB xs k))) := isAt_nat hk ▸ ris_any xs v (k : Int) w hx hn hr
set_option maxRecDepth 100000 in
set_option maxHeartbeats 1000000 in
theorem rnext_any (xs : List Int) (v : Value) (t : Int) (w : World) (hx : Held .i32 w v xs) (hn : xs.length ≤ 1000000) (hr : bounds32 xs) :
    Calls Try.prog 8 #[v, .int .i64 t] w (Gives w (.int .i64 (nextTo xs t : Nat))) := by
  obtain ⟨ao, ca, rfl, _⟩ := hx.view
  have HX := Lib.hid hx
  have HR := Lib.hid hr
  clear hx hr
  go_enter Try.func8, Try.ntmps8
  go_wp2
  go_loopw [5] (fun i wr => ∃ k : Nat, k ≤ xs.length + 1 ∧ i = .int .i64 k ∧ Go.RowKit.Hid (upB (bB xs) (fun k => decide (t < (k : Int))) xs.length (xs.length - k) = nextTo xs t) ∧ Below w.heap.size w wr) (fun i _ => xs.length + 1 - (intOf i).toNat)
  case atStart => exact ⟨0, Nat.zero_le _, rfl, Lib.hid rfl, Below.refl _ _⟩
  case round =>
    obtain ⟨k, hk, rfl, HQ, hbw⟩ := hrel
    by_cases hlt : k ≤ xs.length
    · have hle : (k : Int) ≤ (xs.length : Int) := by omega
      by_cases hp : t < (k : Int)
      · have hdp : decide (t < (k : Int)) = true := decide_eq_true hp
        have HI := Lib.hid (ris_nat xs _ k hlt wr (HX.out.below hbw) hn HR.out)
        go_wp2_with fail
        refine HI.out.mono ?_
        rintro e w2 ⟨rfl, b2⟩
        have hfin := hbw.trans (b2.mono hbw.size)
        cases hB : bB xs k with
        | true =>
          have HV := Lib.hid (show nextTo xs t = k by
            rw [← HQ.out]
            rcases Nat.lt_or_ge k xs.length with h | h
            · rw [up_step _ _ h, hB, hdp]; rfl
            · obtain rfl : k = xs.length := by omega
              rw [Nat.sub_self]; rfl)
          clear HQ HI hB
          go_wp2
          go_ret
          exact ⟨ret_eq (by rw [HV.out]; rfl), hfin⟩
        | false =>
          have hkn : k < xs.length := by
            rcases Nat.lt_or_ge k xs.length with h | h
            · exact h
            · obtain rfl : k = xs.length := by omega
              rw [bB_last] at hB; cases hB
          have HQ2 := Lib.hid (show upB (bB xs) (fun k => decide (t < (k : Int))) xs.length (xs.length - (k + 1)) = nextTo xs t by
            rw [← HQ.out, up_step _ _ hkn, hB]; simp)
          clear HQ HI hB
          go_wp2
          go_roundw
          case rel => exact ⟨k + 1, by omega, by go_num, HQ2, hfin⟩
          case measure => simp [intOf] <;> omega
      · have hdp : decide (t < (k : Int)) = false := decide_eq_false hp
        have HQ2 := Lib.hid (show upB (bB xs) (fun k => decide (t < (k : Int))) xs.length (xs.length - (k + 1)) = nextTo xs t by
          rw [← HQ.out]
          rcases Nat.lt_or_ge k xs.length with h | h
          · rw [up_step _ _ h, hdp]; simp
          · rw [show xs.length - (k + 1) = xs.length - k by omega])
        clear HQ
        go_wp2
        go_roundw
        case rel => exact ⟨k + 1, by omega, by go_num, HQ2, hbw⟩
        case measure => simp [intOf] <;> omega
    · obtain rfl : k = xs.length + 1 := by omega
      have HV := Lib.hid (show nextTo xs t = xs.length by rw [← HQ.out, show xs.length - (xs.length + 1) = 0 by omega]; rfl)
      clear HQ
      go_wp2
      go_ret
      exact ⟨ret_eq (by rw [HV.out]; rfl), hbw⟩
set_option maxRecDepth 100000 in
set_option maxHeartbeats 1000000 in
theorem rprev_any (xs : List Int) (v : Value) (t : Int) (w : World) (hx : Held .i32 w v xs) (hn : xs.length ≤ 1000000) (hr : bounds32 xs) :
    Calls Try.prog 13 #[v, .int .i64 t] w (Gives w (.int .i64 (prevTo xs t : Nat))) := by
  obtain ⟨ao, ca, rfl, _⟩ := hx.view
  have HX := Lib.hid hx
  have HR := Lib.hid hr
  clear hx hr
  go_enter Try.func13, Try.ntmps13
  go_wp2
  go_loopw [5] (fun i wr => ∃ k : Nat, k ≤ xs.length + 1 ∧ i = .int .i64 ((k : Int) - 1) ∧ Go.RowKit.Hid (downB (bB xs) (fun k => decide ((k : Int) < t)) (k - 1) = prevTo xs t) ∧ Below w.heap.size w wr) (fun i _ => (intOf i + 1).toNat)
  case atStart => exact ⟨xs.length + 1, Nat.le_refl _, by congr 1; omega, Lib.hid rfl, Below.refl _ _⟩
  case round =>
    obtain ⟨k, hk, rfl, HQ, hbw⟩ := hrel
    cases k with
    | zero =>
      have HV := Lib.hid (show prevTo xs t = 0 by rw [← HQ.out]; rfl)
      clear HQ
      go_wp2
      go_ret
      exact ⟨ret_eq (by rw [HV.out]; rfl), hbw⟩
    | succ k =>
      have hw1 : (((k + 1 : Nat) : Int) - 1) = (k : Int) := by omega
      rw [hw1]
      clear hw1
      simp only [Nat.add_sub_cancel] at HQ
      by_cases hp : (k : Int) < t
      · have hdp : decide ((k : Int) < t) = true := decide_eq_true hp
        have HI := Lib.hid (ris_nat xs _ k (by omega) wr (HX.out.below hbw) hn HR.out)
        go_wp2_with fail
        refine HI.out.mono ?_
        rintro e w2 ⟨rfl, b2⟩
        have hfin := hbw.trans (b2.mono hbw.size)
        cases hB : bB xs k with
        | true =>
          have HV := Lib.hid (show prevTo xs t = k by
            rw [← HQ.out]
            cases k with
            | zero => rfl
            | succ k =>
              show (if decide (((k + 1 : Nat) : Int) < t) && bB xs (k + 1) then k + 1 else _) = k + 1
              rw [hB, hdp]; rfl)
          clear HQ HI hB
          go_wp2
          go_ret
          exact ⟨ret_eq (by rw [HV.out]; rfl), hfin⟩
        | false =>
          have HQ2 := Lib.hid (show downB (bB xs) (fun k => decide ((k : Int) < t)) (k - 1) = prevTo xs t by
            rw [← HQ.out]
            cases k with
            | zero => rfl
            | succ k =>
              show _ = (if decide (((k + 1 : Nat) : Int) < t) && bB xs (k + 1) then k + 1 else _)
              rw [hB]; simp)
          clear HQ HI hB
          go_wp2
          go_roundw
          case rel => exact ⟨k, by omega, by simp, HQ2, hfin⟩
          case measure => simp [intOf] <;> omega
      · have hdp : decide ((k : Int) < t) = false := decide_eq_false hp
        have HQ2 := Lib.hid (show downB (bB xs) (fun k => decide ((k : Int) < t)) (k - 1) = prevTo xs t by
          rw [← HQ.out]
          cases k with
          | zero => rfl
          | succ k =>
            show _ = (if decide (((k + 1 : Nat) : Int) < t) && bB xs (k + 1) then k + 1 else _)
            rw [hdp]; simp)
        clear HQ
        go_wp2
        go_roundw
        case rel => exact ⟨k, by omega, by simp, HQ2, hbw⟩
        case measure => simp [intOf] <;> omega
set_option maxRecDepth 100000 in
set_option maxHeartbeats 1000000 in
theorem rsnap_any (xs : List Int) (v : Value) (t : Int) (w : World) (hx : Held .i32 w v xs) (hn : xs.length ≤ 1000000) (hr : bounds32 xs) :
    Calls Try.prog 7 #[v, .int .i64 t] w (Gives w (.int .i64 (upTo' xs t : Nat))) := by
  obtain ⟨ao, ca, rfl, _⟩ := hx.view
  have HX := Lib.hid hx
  have HR := Lib.hid hr
  clear hx hr
  go_enter Try.func7, Try.ntmps7
  go_wp2
  go_loopw [5] (fun i wr => ∃ k : Nat, k ≤ xs.length + 1 ∧ i = .int .i64 ((k : Int) - 1) ∧ Go.RowKit.Hid (downB (bB xs) (fun k => decide ((k : Int) ≤ t)) (k - 1) = upTo' xs t) ∧ Below w.heap.size w wr) (fun i _ => (intOf i + 1).toNat)
  case atStart => exact ⟨xs.length + 1, Nat.le_refl _, by congr 1; omega, Lib.hid rfl, Below.refl _ _⟩
  case round =>
    obtain ⟨k, hk, rfl, HQ, hbw⟩ := hrel
    cases k with
    | zero =>
      have HV := Lib.hid (show upTo' xs t = 0 by rw [← HQ.out]; rfl)
      clear HQ
      go_wp2
      go_ret
      exact ⟨ret_eq (by rw [HV.out]; rfl), hbw⟩
    | succ k =>
      have hw1 : (((k + 1 : Nat) : Int) - 1) = (k : Int) := by omega
      rw [hw1]
      clear hw1
      simp only [Nat.add_sub_cancel] at HQ
      by_cases hp : (k : Int) ≤ t
      · have hdp : decide ((k : Int) ≤ t) = true := decide_eq_true hp
        have HI := Lib.hid (ris_nat xs _ k (by omega) wr (HX.out.below hbw) hn HR.out)
        go_wp2_with fail
        refine HI.out.mono ?_
        rintro e w2 ⟨rfl, b2⟩
        have hfin := hbw.trans (b2.mono hbw.size)
        cases hB : bB xs k with
        | true =>
          have HV := Lib.hid (show upTo' xs t = k by
            rw [← HQ.out]
            cases k with
            | zero => rfl
            | succ k =>
              show (if decide (((k + 1 : Nat) : Int) ≤ t) && bB xs (k + 1) then k + 1 else _) = k + 1
              rw [hB, hdp]; rfl)
          clear HQ HI hB
          go_wp2
          go_ret
          exact ⟨ret_eq (by rw [HV.out]; rfl), hfin⟩
        | false =>
          have HQ2 := Lib.hid (show downB (bB xs) (fun k => decide ((k : Int) ≤ t)) (k - 1) = upTo' xs t by
            rw [← HQ.out]
            cases k with
            | zero => rfl
            | succ k =>
              show _ = (if decide (((k + 1 : Nat) : Int) ≤ t) && bB xs (k + 1) then k + 1 else _)
              rw [hB]; simp)
          clear HQ HI hB
          go_wp2
          go_roundw
          case rel => exact ⟨k, by omega, by simp, HQ2, hfin⟩
          case measure => simp [intOf] <;> omega
      · have hdp : decide ((k : Int) ≤ t) = false := decide_eq_false hp
        have HQ2 := Lib.hid (show downB (bB xs) (fun k => decide ((k : Int) ≤ t)) (k - 1) = upTo' xs t by
          rw [← HQ.out]
          cases k with
          | zero => rfl
          | succ k =>
            show _ = (if decide (((k + 1 : Nat) : Int) ≤ t) && bB xs (k + 1) then k + 1 else _)
            rw [hdp]; simp)
        clear HQ
        go_wp2
        go_roundw
        case rel => exact ⟨k, by omega, by simp, HQ2, hbw⟩
        case measure => simp [intOf] <;> omega
end Go.Proofs.Ytbchdpgcjiepfaa
