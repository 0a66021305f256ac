/- Contracts of the reference's Find and of Count. -/
import Derived.Test.YtgoeacmpphmnoaaSpanD
namespace Go.Proofs.Ytgoeacmpphmnoaa
open Go.RowKit Go.ChangeShapes Go.WideShapes
def holdS (s : Sp) (n : Int) : Bool := decide (s.1 ≤ n) && decide (n ≤ s.2.1)
def findS : List Sp → Int → Int
  | [], _ => 0
  | s :: T, n => if holdS s n = true then s.2.2 else findS T n
theorem find_skip : ∀ (T : List Sp) (n : Int) (k : Nat), (∀ j, j < k → j < T.length → holdS (T.getD j z3) n = false) → findS (T.drop k) n = findS T n
  | [], _, k, _ => by simp
  | s :: T, n, 0, _ => rfl
  | s :: T, n, k + 1, h => by
    have h0 := h 0 (by omega) (by simp)
    simp only [List.getD_cons_zero] at h0
    rw [List.drop_succ_cons, find_skip T n k fun j hj hl => by
      have := h (j + 1) (by omega) (by simpa using hl)
      simpa using this]
    show _ = if holdS s n = true then s.2.2 else findS T n
    rw [h0]; rfl
theorem find_here {T : List Sp} {n : Int} {k : Nat} (hk : k < T.length) (h : ∀ j, j < k → holdS (T.getD j z3) n = false) (hh : holdS (T.getD k z3) n = true) : findS T n = (T.getD k z3).2.2 := by
  rw [← find_skip T n k fun j hj _ => h j hj]
  have : T.drop k = T.getD k z3 :: T.drop (k + 1) := by rw [List.drop_eq_getElem_cons hk]; simp [List.getD, List.getElem?_eq_getElem hk]
  rw [this]
  show (if holdS (T.getD k z3) n = true then _ else _) = _
  rw [hh]; rfl
theorem find_none {T : List Sp} {n : Int} (h : ∀ j, j < T.length → holdS (T.getD j z3) n = false) : findS T n = 0 := by
  rw [← find_skip T n T.length fun j hj _ => h j hj]
  simp [findS]
set_option maxRecDepth 100000 in
set_option maxHeartbeats 1000000 in
theorem reffind_any (v : Value) (T : List Sp) (n : Int) (w : World) (hh : HeldS w v T) (hl : T.length ≤ 1000000) : Calls Try.prog 37 #[v, .int .i64 n] w (Gives w (.int .i64 (findS T n))) := by
  obtain ⟨ao, cap, rfl⟩ := hh.len
  have HH := Lib.hid hh
  clear hh
  go_enter Try.func37, Try.ntmps37
  go_wp2
  go_loopw [5] (fun i wr => ∃ k : Nat, k ≤ T.length ∧ i = .int .i64 k ∧ Go.RowKit.Hid (∀ j, j < k → holdS (T.getD j z3) n = false) ∧ Below w.heap.size w wr) (fun i _ => T.length - (intOf i).toNat)
  case atStart => exact ⟨0, Nat.zero_le _, rfl, Lib.hid fun j hj => absurd hj (Nat.not_lt_zero _), Below.refl _ _⟩
  case round =>
    obtain ⟨k, hk, rfl, HR, hbw⟩ := hrel
    by_cases hlt : k < T.length
    · obtain ⟨b, off, rfl, hb, c0, c1, c2⟩ := (HH.out.below hbw).spots k hlt
      have hgo : holdS (T.getD k z3) n = false → ∀ j, j < k + 1 → holdS (T.getD j z3) n = false := fun h j hj => by
        rcases Nat.lt_or_ge j k with h1 | h1
        · exact HR.out j h1
        · have : j = k := by omega
          subst this; exact h
      have hhit : holdS (T.getD k z3) n = true → findS T n = (T.getD k z3).2.2 := find_here hlt HR.out
      obtain ⟨s, hs⟩ : ∃ s, s = T.getD k z3 := ⟨_, rfl⟩
      rw [← hs] at c0 c1 c2 hgo hhit
      obtain ⟨lo, hi, val⟩ := s
      simp only at c0 c1 c2 hhit
      unfold holdS at hgo hhit
      simp only at hgo hhit
      have HGO := Lib.hid hgo
      have HHIT := Lib.hid hhit
      clear hgo hhit hs HR
      cases d1 : decide (lo ≤ n) with
      | false =>
        rw [d1] at HGO HHIT
        have HG := Lib.hid (HGO.out rfl)
        clear HGO HHIT
        go_wp2
        go_roundw
        case rel => exact ⟨k + 1, by omega, by go_num, HG, hbw⟩
        case measure => simp [intOf] <;> omega
      | true =>
        cases d2 : decide (n ≤ hi) with
        | false =>
          rw [d1, d2] at HGO HHIT
          have HG := Lib.hid (HGO.out rfl)
          clear HGO HHIT
          go_wp2
          go_roundw
          case rel => exact ⟨k + 1, by omega, by go_num, HG, hbw⟩
          case measure => simp [intOf] <;> omega
        | true =>
          rw [d1, d2] at HGO HHIT
          have HF := Lib.hid (HHIT.out rfl)
          clear HGO HHIT
          go_wp2
          go_ret
          exact ⟨ret_eq (by rw [HF.out]; try rfl), hbw⟩
    · obtain rfl : k = T.length := by omega
      have HF := Lib.hid (find_none HR.out)
      go_wp2
      go_ret
      exact ⟨ret_eq (by rw [HF.out]; try rfl), hbw⟩
def cntN (T : List Sp) : Nat → Int
  | 0 => 0
  | k + 1 => cntN T k + ((T.getD k z3).2.1 - (T.getD k z3).1 + 1)
theorem last_ge (T : List Sp) (k : Nat) (h : rightN T k = true) : -1 ≤ lastOf T k := by
  unfold lastOf
  by_cases hk : k = 0
  · rw [if_pos hk]; omega
  · rw [if_neg hk]; exact hi_ge T k h (k - 1) (by omega)
theorem last_le (T : List Sp) (k : Nat) (h : rightN T k = true) : lastOf T k ≤ 1114111 := by
  unfold lastOf
  by_cases hk : k = 0
  · rw [if_pos hk]; omega
  · rw [if_neg hk]; exact (right_at h (show k - 1 < k by omega)).2.2.1
theorem cnt_le (T : List Sp) : ∀ k, rightN T k = true → 0 ≤ cntN T k ∧ cntN T k ≤ lastOf T k + 1
  | 0, _ => by simp [cntN, lastOf]
  | k + 1, h => by
    have h1 := cnt_le T k (right_down (Nat.le_succ k) h)
    have h2 := right_at h (Nat.lt_succ_self k)
    have h3 : lastOf T (k + 1) = (T.getD k z3).2.1 := by unfold lastOf; rw [if_neg (by omega)]; rfl
    rw [h3]
    unfold cntN
    omega
set_option maxRecDepth 100000 in
set_option maxHeartbeats 1000000 in
theorem count_any (v : Value) (T : List Sp) (w : World) (hh : HeldS w v T) (hl : T.length ≤ 1000000) : Calls Try.prog 35 #[v] w (Gives w (.int .i64 (if rightN T T.length = true then cntN T T.length else 0))) := by
  obtain ⟨ao, cap, rfl⟩ := hh.len
  have HH := Lib.hid hh
  have hrr := right_any _ T w hh hl
  clear hh
  cases hr : rightN T T.length with
  | false =>
    rw [hr] at hrr
    have HR := Lib.hid hrr
    have HQ := Lib.hid hr
    clear hr hrr
    go_enter Try.func35, Try.ntmps35
    go_wp2_with (go_at_call 82; refine HR.out.mono ?_; rintro e w1 ⟨rfl, hb1⟩)
    go_ret
    exact ⟨(ret_eq (by first | rfl | (simp <;> omega))), hb1⟩
  | true =>
    rw [hr] at hrr
    have HR := Lib.hid hrr
    have HQ := Lib.hid hr
    clear hr hrr
    go_enter Try.func35, Try.ntmps35
    go_wp2_with (go_at_call 82; refine HR.out.mono ?_; rintro e w1 ⟨rfl, hb1⟩)
    have HB1 := Lib.hid hb1
    clear hb1
    go_loopw [3, 11] (fun c i wr => ∃ k : Nat, k ≤ T.length ∧ i = .int .i64 k ∧ c = .int .i64 (cntN T k) ∧ Below w.heap.size w wr) (fun _ i _ => T.length - (intOf i).toNat)
    case atStart => exact ⟨0, Nat.zero_le _, rfl, rfl, HB1.out⟩
    case round =>
      obtain ⟨k, hk, rfl, rfl, hbw⟩ := hrel
      by_cases hlt : k < T.length
      · obtain ⟨b, off, rfl, hb, c0, c1, c2⟩ := (HH.out.below hbw).spots k hlt
        have hc := cnt_le T k (right_down hk HQ.out)
        have hx := right_at HQ.out hlt
        have hle := last_ge T k (right_down hk HQ.out)
        have hle2 := last_le T k (right_down hk HQ.out)
        have hn : cntN T (k + 1) = cntN T k + ((T.getD k z3).2.1 - (T.getD k z3).1 + 1) := rfl
        obtain ⟨s, hs⟩ : ∃ s, s = T.getD k z3 := ⟨_, rfl⟩
        obtain ⟨c, hcc⟩ : ∃ c, c = cntN T k := ⟨_, rfl⟩
        obtain ⟨q, hqq⟩ : ∃ q, q = lastOf T k := ⟨_, rfl⟩
        rw [← hs] at c0 c1 c2 hx hn
        rw [← hcc] at hc hn ⊢
        rw [← hqq] at hc hx hle hle2
        obtain ⟨lo, hi, val⟩ := s
        have hb2 := hbw.alloc hbw.size (.cells #[.int .i64 lo, .int .i64 hi, .int .i64 val] 98)
        have HN := Lib.hid hn
        have HB2 := Lib.hid hb2
        simp only at c0 c1 c2 hx hn
        have r1 : IntKind.i64.wrap (hi - lo) = hi - lo := by rw [IntKind.wrap_i64]; omega
        have r2 : IntKind.i64.wrap (hi - lo + 1) = hi - lo + 1 := by rw [IntKind.wrap_i64]; omega
        have r3 : IntKind.i64.wrap (c + (hi - lo + 1)) = c + (hi - lo + 1) := by rw [IntKind.wrap_i64]; omega
        clear hn hs hcc hqq hb2 hc hx hle hle2
        go_wp2
        go_roundw
        case rel => exact ⟨k + 1, by omega, by go_num, by rw [HN.out]; try rfl, HB2.out⟩
        case measure => simp [intOf] <;> omega
      · obtain rfl : k = T.length := by omega
        go_wp2
        go_ret
        exact ⟨(ret_eq (by first | rfl | (simp <;> omega))), hbw⟩
end Go.Proofs.Ytgoeacmpphmnoaa
