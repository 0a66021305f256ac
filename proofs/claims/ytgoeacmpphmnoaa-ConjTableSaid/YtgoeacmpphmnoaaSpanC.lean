/- Contracts of spans: Right. -/
import Derived.Test.YtgoeacmpphmnoaaSpanA
namespace Go.Proofs.Ytgoeacmpphmnoaa
open Go.RowKit Go.ChangeShapes Go.WideShapes
theorem right_at {T : List Sp} {k j : Nat} (h : rightN T k = true) (hj : j < k) : lastOf T j < (T.getD j z3).1 ∧ (T.getD j z3).1 ≤ (T.getD j z3).2.1 ∧ (T.getD j z3).2.1 ≤ 1114111 ∧ 1 ≤ (T.getD j z3).2.2 ∧ (T.getD j z3).2.2 ≤ 65535 := by
  have h1 := right_down (show j + 1 ≤ k by omega) h
  unfold rightN at h1
  simp only [Bool.and_eq_true] at h1
  rcases step_cases (lastOf T j) (T.getD j z3) with ⟨_, h2⟩ | ⟨h2, _⟩
  · exact h2
  · rw [h2] at h1; exact absurd h1.2 (by decide)
theorem hi_ge (T : List Sp) (k : Nat) (h : rightN T k = true) : ∀ j, j < k → -1 ≤ (T.getD j z3).2.1
  | 0, hj => by have := right_at h hj; unfold lastOf at this; simp only [if_true] at this; omega
  | j + 1, hj => by
    have := right_at h hj
    have ih := hi_ge T k h j (by omega)
    unfold lastOf at this
    rw [if_neg (by omega), show j + 1 - 1 = j from rfl] at this
    omega
set_option maxRecDepth 100000 in
set_option maxHeartbeats 1000000 in
theorem right_any (v : Value) (T : List Sp) (w : World) (hh : HeldS w v T) (hl : T.length ≤ 1000000) : Calls Try.prog 82 #[v] w (Gives w (.bool (rightN T T.length))) := by
  obtain ⟨ao, cap, rfl⟩ := hh.len
  have HH := Lib.hid hh
  clear hh
  go_enter Try.func82, Try.ntmps82
  go_wp2
  go_loopw [3, 8] (fun last i wr => ∃ k : Nat, k ≤ T.length ∧ i = .int .i64 k ∧ last = .int .i64 (lastOf T k) ∧ Go.RowKit.Hid (rightN T k = true) ∧ Below w.heap.size w wr) (fun _ i _ => T.length - (intOf i).toNat)
  case atStart => exact ⟨0, Nat.zero_le _, rfl, rfl, Lib.hid rfl, Below.refl _ _⟩
  case round =>
    obtain ⟨k, hk, rfl, rfl, HR, hbw⟩ := hrel
    by_cases hlt : k < T.length
    · obtain ⟨b, off, rfl, hb, c0, c1, c2⟩ := (HH.out.below hbw).spots k hlt
      have hn : lastOf T (k + 1) = (T.getD k z3).2.1 := by unfold lastOf; rw [if_neg (by omega)]; rfl
      have hno := fun h => right_not (T := T) hlt h
      have hyes : stepB (lastOf T k) (T.getD k z3) = true → rightN T (k + 1) = true := fun h => by unfold rightN; rw [HR.out, h]; rfl
      obtain ⟨s, hs⟩ : ∃ s, s = T.getD k z3 := ⟨_, rfl⟩
      obtain ⟨last, hla⟩ : ∃ l, l = lastOf T k := ⟨_, rfl⟩
      rw [← hs] at c0 c1 c2 hn hno hyes
      rw [← hla] at hno hyes ⊢
      obtain ⟨lo, hi, val⟩ := s
      have hb2 := hbw.alloc hbw.size (.cells #[.int .i64 lo, .int .i64 hi, .int .i64 val] 98)
      have HNO := Lib.hid hno
      have HYES := Lib.hid hyes
      have HN := Lib.hid hn
      have HB2 := Lib.hid hb2
      have hcs := step_cases last (lo, hi, val)
      clear hno hyes hn hs hla hb2
      simp only at c0 c1 c2
      rcases hcs with ⟨hst, a1, a2, a3, a4, a5⟩ | ⟨hst, hcs⟩
      · have d1 : decide (lo ≤ last) = false := decide_eq_false (by simp only at a1; omega)
        have d2 : decide (hi < lo) = false := decide_eq_false (by simp only at a2; omega)
        have d3 : decide (1114111 < hi) = false := decide_eq_false (by simp only at a3; omega)
        have d4 : decide (val < 1) = false := decide_eq_false (by simp only at a4; omega)
        have d5 : decide (65535 < val) = false := decide_eq_false (by simp only at a5; omega)
        have HY := Lib.hid (HYES.out hst)
        clear HYES HNO hst a1 a2 a3 a4 a5
        go_wp2
        go_roundw
        case rel => exact ⟨k + 1, by omega, by go_num, by rw [HN.out], HY, HB2.out⟩
        case measure => simp [intOf] <;> omega
      · have HF := Lib.hid (HNO.out hst)
        clear HYES HNO hst
        simp only at hcs
        rcases hcs with a1 | ⟨a0, a1⟩ | ⟨a0, a2, a1⟩ | ⟨a0, a2, a3, a1⟩ | ⟨a0, a2, a3, a4, a1⟩
        all_goals
          go_wp2
          go_ret
          exact ⟨ret_eq (by rw [HF.out]; try rfl), HB2.out⟩
    · obtain rfl : k = T.length := by omega
      go_wp2
      go_ret
      exact ⟨ret_eq (by rw [HR.out]; try rfl), hbw⟩
end Go.Proofs.Ytgoeacmpphmnoaa
