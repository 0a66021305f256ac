/- Contracts of the reference's Right. -/
import Derived.Test.YtgoeacmpphmnoaaSpanC
namespace Go.Proofs.Ytgoeacmpphmnoaa
open Go.RowKit Go.ChangeShapes Go.WideShapes
set_option maxRecDepth 100000 in
set_option maxHeartbeats 2000000 in
theorem refright_any (v : Value) (T : List Sp) (w : World) (hh : HeldS w v T) (hl : T.length ≤ 1000000) : Calls Try.prog 33 #[v] w (Gives w (.bool (rightN T T.length))) := by
  obtain ⟨ao, cap, rfl⟩ := hh.len
  have HH := Lib.hid hh
  clear hh
  go_enter Try.func33, Try.ntmps33
  go_wp2
  go_loopw [3] (fun i wr => ∃ k : Nat, k ≤ T.length ∧ i = .int .i64 k ∧ Go.RowKit.Hid (rightN T k = true) ∧ Below w.heap.size w wr) (fun i _ => T.length - (intOf i).toNat)
  case atStart => exact ⟨0, Nat.zero_le _, rfl, Lib.hid rfl, Below.refl _ _⟩
  case round =>
    obtain ⟨k, hk, rfl, HR, hbw⟩ := hrel
    by_cases hlt : k < T.length
    · have hsp := (HH.out.below hbw).spots
      obtain ⟨b, off, rfl, hb, c0, c1, c2⟩ := hsp k hlt
      have hno := fun h => right_not (T := T) hlt h
      have hyes : stepB (lastOf T k) (T.getD k z3) = true → rightN T (k + 1) = true := fun h => by unfold rightN; rw [HR.out, h]; rfl
      have hcs := step_cases (lastOf T k) (T.getD k z3)
      have k0 : (0 : Int) ≤ (k : Int) := by omega
      have k1 : (k : Int) < (T.length : Int) := by omega
      rcases Nat.eq_zero_or_pos k with hz | hpos
      · obtain ⟨s, hs⟩ : ∃ s, s = T.getD k z3 := ⟨_, rfl⟩
        rw [show lastOf T k = -1 from by unfold lastOf; rw [if_pos hz]] at hno hyes hcs
        have g0 : decide ((0 : Int) < (k : Int)) = false := decide_eq_false (by omega)
        have g1 : decide (0 < k) = false := decide_eq_false (by omega)
        rw [← hs] at c0 c1 c2 hno hyes hcs
        obtain ⟨lo, hi, val⟩ := s
        have HNO := Lib.hid hno
        have HYES := Lib.hid hyes
        clear hno hyes hs hsp hz
        simp only at c0 c1 c2
        rcases hcs with ⟨hst, a1, a2, a3, a4, a5⟩ | ⟨hst, hcs⟩
        · have HY := Lib.hid (HYES.out hst)
          simp only at a1 a2 a3 a4 a5
          have d1 : decide (lo < 0) = false := decide_eq_false (by omega)
          have d2 : decide (hi < lo) = false := decide_eq_false (by omega)
          have d3 : decide (1114111 < hi) = false := decide_eq_false (by omega)
          have d4 : decide (val < 1) = false := decide_eq_false (by omega)
          have d5 : decide (65535 < val) = false := decide_eq_false (by omega)
          have HB := Lib.hid hbw
          clear HYES HNO hst a1 a2 a3 a4 a5 hbw
          go_wp2_with fail
          go_quiet (fail)
          go_wp2
          go_roundw
          case rel => exact ⟨k + 1, by omega, by go_num, HY, HB.out.drewN _⟩
          case measure => simp [intOf] <;> omega
        · have HF := Lib.hid (HNO.out hst)
          have HB := Lib.hid hbw
          clear HYES HNO hst hbw
          simp only at hcs
          have hq : decide (lo < 0) = true ∨ (decide (lo < 0) = false ∧ decide (hi < lo) = true) ∨ (decide (lo < 0) = false ∧ decide (hi < lo) = false ∧ decide (1114111 < hi) = true) ∨ (decide (lo < 0) = false ∧ decide (hi < lo) = false ∧ decide (1114111 < hi) = false ∧ decide (val < 1) = true) ∨
              (decide (lo < 0) = false ∧ decide (hi < lo) = false ∧ decide (1114111 < hi) = false ∧ decide (val < 1) = false ∧ decide (65535 < val) = true) := by
            rcases hcs with a1 | ⟨a0, a1⟩ | ⟨a0, a2, a1⟩ | ⟨a0, a2, a3, a1⟩ | ⟨a0, a2, a3, a4, a1⟩
            · exact .inl (decide_eq_true (by omega))
            · exact .inr (.inl ⟨decide_eq_false (by omega), decide_eq_true (by omega)⟩)
            · exact .inr (.inr (.inl ⟨decide_eq_false (by omega), decide_eq_false (by omega), decide_eq_true (by omega)⟩))
            · exact .inr (.inr (.inr (.inl ⟨decide_eq_false (by omega), decide_eq_false (by omega), decide_eq_false (by omega), decide_eq_true (by omega)⟩)))
            · exact .inr (.inr (.inr (.inr ⟨decide_eq_false (by omega), decide_eq_false (by omega), decide_eq_false (by omega), decide_eq_false (by omega), decide_eq_true (by omega)⟩)))
          clear hcs
          rcases hq with d1 | ⟨d1, d2⟩ | ⟨d1, d2, d3⟩ | ⟨d1, d2, d3, d4⟩ | ⟨d1, d2, d3, d4, d5⟩
          all_goals
            go_wp2_with fail
            go_quiet (fail)
            go_wp2
            go_ret
            exact ⟨ret_eq (by rw [HF.out]; try rfl), HB.out.drewN _⟩
      · obtain ⟨m, hkm⟩ : ∃ m, k = m + 1 := ⟨k - 1, by omega⟩
        obtain ⟨b', off', e', _, _, p1, _⟩ := hsp m (by omega)
        cases e'
        obtain ⟨s, hs⟩ : ∃ s, s = T.getD k z3 := ⟨_, rfl⟩
        obtain ⟨q, hq⟩ : ∃ q, q = (T.getD m z3).2.1 := ⟨_, rfl⟩
        have hq0 : 0 ≤ q := by
          have h1 := right_at HR.out (show m < k by omega)
          have h2 : -1 ≤ lastOf T m := by
            unfold lastOf
            by_cases hm : m = 0
            · rw [if_pos hm]; omega
            · rw [if_neg hm]
              exact hi_ge T k HR.out (m - 1) (by omega)
          omega
        rw [show lastOf T k = (T.getD m z3).2.1 from by unfold lastOf; rw [if_neg (by omega), hkm]; rfl, ← hq] at hno hyes hcs
        rw [← hs] at c0 c1 c2 hno hyes hcs
        rw [← hq] at p1
        obtain ⟨lo, hi, val⟩ := s
        have HNO := Lib.hid hno
        have HYES := Lib.hid hyes
        have w1 : IntKind.i64.wrap ((k : Int) - 1) = (m : Int) := by rw [IntKind.wrap_i64]; omega
        have w2 : (k : Int) - 1 = (m : Int) := by omega
        have m0 : (0 : Int) ≤ (m : Int) := by omega
        have m1 : (m : Int) < (T.length : Int) := by omega
        have g0 : decide ((0 : Int) < (k : Int)) = true := decide_eq_true (by omega)
        have g1 : decide (0 < k) = true := decide_eq_true (by omega)
        have HB := Lib.hid hbw
        have HKM := Lib.hid hkm
        clear hno hyes hs hsp hq hbw hkm
        simp only at c0 c1 c2
        have hall : (stepB q (lo, hi, val) = true ∧ decide (lo < 0) = false ∧ decide (hi < lo) = false ∧ decide (1114111 < hi) = false ∧ decide (val < 1) = false ∧ decide (65535 < val) = false ∧ decide (lo ≤ q) = false) ∨
            (stepB q (lo, hi, val) = false ∧ (decide (lo < 0) = true ∨ (decide (lo < 0) = false ∧ decide (hi < lo) = true) ∨ (decide (lo < 0) = false ∧ decide (hi < lo) = false ∧ decide (1114111 < hi) = true) ∨ (decide (lo < 0) = false ∧ decide (hi < lo) = false ∧ decide (1114111 < hi) = false ∧ decide (val < 1) = true) ∨
              (decide (lo < 0) = false ∧ decide (hi < lo) = false ∧ decide (1114111 < hi) = false ∧ decide (val < 1) = false ∧ decide (65535 < val) = true) ∨ (decide (lo < 0) = false ∧ decide (hi < lo) = false ∧ decide (1114111 < hi) = false ∧ decide (val < 1) = false ∧ decide (65535 < val) = false ∧ decide (lo ≤ q) = true))) := by
          rcases hcs with ⟨hst, a1, a2, a3, a4, a5⟩ | ⟨hst, hcs⟩
          · exact .inl ⟨hst, decide_eq_false (by simp only at *; omega), decide_eq_false (by simp only at *; omega), decide_eq_false (by simp only at *; omega), decide_eq_false (by simp only at *; omega), decide_eq_false (by simp only at *; omega), decide_eq_false (by simp only at *; omega)⟩
          · refine .inr ⟨hst, ?_⟩
            simp only at hcs
            by_cases e1 : lo < 0
            · exact .inl (decide_eq_true e1)
            by_cases e2 : hi < lo
            · exact .inr (.inl ⟨decide_eq_false e1, decide_eq_true e2⟩)
            by_cases e3 : 1114111 < hi
            · exact .inr (.inr (.inl ⟨decide_eq_false e1, decide_eq_false e2, decide_eq_true e3⟩))
            by_cases e4 : val < 1
            · exact .inr (.inr (.inr (.inl ⟨decide_eq_false e1, decide_eq_false e2, decide_eq_false e3, decide_eq_true e4⟩)))
            by_cases e5 : 65535 < val
            · exact .inr (.inr (.inr (.inr (.inl ⟨decide_eq_false e1, decide_eq_false e2, decide_eq_false e3, decide_eq_false e4, decide_eq_true e5⟩))))
            · exact .inr (.inr (.inr (.inr (.inr ⟨decide_eq_false e1, decide_eq_false e2, decide_eq_false e3, decide_eq_false e4, decide_eq_false e5, decide_eq_true (by omega)⟩))))
        clear hcs hq0
        rcases hall with ⟨hst, d1, d2, d3, d4, d5, d6⟩ | ⟨hst, hq⟩
        · have HY := Lib.hid (HYES.out hst)
          clear HYES HNO hst
          go_wp2_with fail
          go_quiet (fail)
          go_wp2
          go_roundw
          case rel => exact ⟨k + 1, by omega, by go_num, HY, HB.out.drewN _⟩
          case measure => simp [intOf] <;> omega
        · have HF := Lib.hid (HNO.out hst)
          clear HYES HNO hst
          rcases hq with d1 | ⟨d1, d2⟩ | ⟨d1, d2, d3⟩ | ⟨d1, d2, d3, d4⟩ | ⟨d1, d2, d3, d4, d5⟩ | ⟨d1, d2, d3, d4, d5, d6⟩
          all_goals
            go_wp2_with fail
            go_quiet (fail)
            go_wp2
            go_ret
            exact ⟨ret_eq (by rw [HF.out]; try rfl), HB.out.drewN _⟩
    · obtain rfl : k = T.length := by omega
      go_wp2
      go_ret
      exact ⟨ret_eq (by rw [HR.out]; try rfl), hbw⟩
end Go.Proofs.Ytgoeacmpphmnoaa
