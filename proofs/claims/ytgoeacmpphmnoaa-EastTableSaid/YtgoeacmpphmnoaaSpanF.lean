/- Contracts of spans: Find. -/
import Derived.Test.YtgoeacmpphmnoaaSpanE
import Derived.Test.YtgoeacmpphmnoaaSearch
import Derived.Test.YtgoeacmpphmnoaaGrow
namespace Go.Proofs.Ytgoeacmpphmnoaa
open Go.RowKit Go.ChangeShapes Go.WideShapes
def endsS (T : List Sp) (n : Int) (i : Nat) : Bool := decide (n ≤ (T.getD i z3).2.1)
theorem hi_mono {T : List Sp} (hr : rightN T T.length = true) : ∀ a b, a ≤ b → b < T.length → (T.getD a z3).2.1 ≤ (T.getD b z3).2.1 := by
  intro a b hab hb
  induction b with
  | zero => have : a = 0 := by omega
            subst this; omega
  | succ b ih =>
    rcases Nat.lt_or_ge b a with h1 | h1
    · have : a = b + 1 := by omega
      subst this; omega
    · have h2 := ih h1 (by omega)
      have h3 := right_at hr hb
      unfold lastOf at h3
      rw [if_neg (by omega), show b + 1 - 1 = b from rfl] at h3
      omega
theorem ends_monoS {T : List Sp} {n : Int} (hr : rightN T T.length = true) : ∀ a b, a ≤ b → b < T.length → endsS T n a = true → endsS T n b = true := by
  intro a b hab hb h
  unfold endsS at *
  have := hi_mono hr a b hab hb
  simp only [decide_eq_true_eq] at h ⊢
  omega
theorem find_search {T : List Sp} {n : Int} (hr : rightN T T.length = true) {k : Nat} (hk : k < T.length) (hlo : ∀ j, j < k → endsS T n j = false) (hhi : endsS T n k = true) :
    findS T n = if (T.getD k z3).1 ≤ n then (T.getD k z3).2.2 else 0 := by
  have hb : ∀ j, j < k → holdS (T.getD j z3) n = false := fun j hj => by
    have := hlo j hj
    unfold endsS at this
    unfold holdS
    rw [this]; simp
  unfold endsS at hhi
  by_cases h : (T.getD k z3).1 ≤ n
  · rw [if_pos h]
    exact find_here hk hb (by unfold holdS; rw [hhi, decide_eq_true h]; rfl)
  · rw [if_neg h]
    refine find_none fun j hj => ?_
    rcases Nat.lt_or_ge j k with h1 | h1
    · exact hb j h1
    · have : (T.getD k z3).1 ≤ (T.getD j z3).1 := by
        rcases Nat.lt_or_ge k j with h2 | h2
        · have h3 := right_at hr hj
          have h4 := hi_mono hr k (j - 1) (by omega) (by omega)
          have h5 := right_at hr hk
          unfold lastOf at h3
          rw [if_neg (by omega)] at h3
          omega
        · have : j = k := by omega
          subst this; omega
      unfold holdS
      rw [decide_eq_false (by omega)]; rfl
theorem find_past {T : List Sp} {n : Int} (h : ∀ j, j < T.length → endsS T n j = false) : findS T n = 0 := find_none fun j hj => by
  have := h j hj
  unfold endsS at this
  unfold holdS
  rw [this]; simp
end Go.Proofs.Ytgoeacmpphmnoaa
