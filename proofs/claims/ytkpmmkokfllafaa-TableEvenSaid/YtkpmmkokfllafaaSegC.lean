/- Contracts of seg: a state's calls. -/
import Derived.Test.YtkpmmkokfllafaaPairsJ
import Derived.Test.YtkpmmkokfllafaaMg1
namespace Go.Proofs.Ytkpmmkokfllafaa
open Go.RowKit Go.ChangeShapes Go.WideShapes
def propV (br : Int) (pc : Bool) (cj ea : Int) : Value := .agg #[.int .i64 br, .bool pc, .int .i64 cj, .int .i64 ea]
def conjI (n cj : Int) : Int := if cj = 1 then 1 else if cj = 2 ∧ n ≠ 0 then 2 else if cj = 3 then n else 0
def picI (n br : Int) (pc : Bool) : Int := if pc = true then 1 else if n ≠ 1 then 0 else if br = 4 then 1 else if br = 5 then 2 else 0
theorem pbox (w : World) (br : Int) (pc : Bool) (cj ea : Int) : ∃ W, W = w.alloc (.cells #[Value.int .i64 br, .bool pc, .int .i64 cj, .int .i64 ea] 61) ∧ Has W w.heap.size [Value.int .i64 br, .bool pc, .int .i64 cj, .int .i64 ea] 61 ∧ Below w.heap.size w W :=
  ⟨_, rfl, Has.new w _ _, (Below.refl _ _).alloc (Nat.le_refl _) _⟩
theorem conj_cases (n cj : Int) : ((cj == 1) = true ∧ conjI n cj = 1) ∨ ((cj == 1) = false ∧ (cj == 2) = true ∧ (n == 0) = false ∧ conjI n cj = 2) ∨ ((cj == 1) = false ∧ (cj == 2) = true ∧ (n == 0) = true ∧ (cj == 3) = false ∧ conjI n cj = 0)
    ∨ ((cj == 1) = false ∧ (cj == 2) = false ∧ (cj == 3) = true ∧ conjI n cj = n) ∨ ((cj == 1) = false ∧ (cj == 2) = false ∧ (cj == 3) = false ∧ conjI n cj = 0) := by
  unfold conjI
  by_cases h1 : cj = 1
  · simp [h1]
  by_cases h2 : cj = 2
  · by_cases h3 : n = 0 <;> simp [h2, h3]
  by_cases h3 : cj = 3
  · simp [h3]
  · simp [h1, h2, h3]
set_option maxRecDepth 100000 in
theorem conj_any (n br : Int) (pc : Bool) (cj ea : Int) (w : World) (n0 : 0 ≤ n) (n1 : n ≤ 255) : Calls Try.prog 43 #[.int .u8 n, .agg #[.int .i64 br, .bool pc, .int .i64 cj, .int .i64 ea]] w (Gives w (.int .u8 (conjI n cj))) := by
  rcases conj_cases n cj with ⟨h1, hs⟩ | ⟨h1, h2, h3, hs⟩ | ⟨h1, h2, h3, h4, hs⟩ | ⟨h1, h2, h3, hs⟩ | ⟨h1, h2, h3, hs⟩
  all_goals
    rw [hs]
    clear hs
    go_enter Try.func43, Try.ntmps43
    go_wp2
    go_ret
    exact ⟨(ret_eq (by first | rfl | (simp <;> omega))), (Below.refl _ _).alloc (Nat.le_refl _) _⟩
theorem pic_cases (n br : Int) (pc : Bool) : (pc = true ∧ picI n br pc = 1) ∨ (pc = false ∧ (n == 1) = false ∧ picI n br pc = 0) ∨ (pc = false ∧ n = 1 ∧ (br == 4) = true ∧ picI n br pc = 1) ∨ (pc = false ∧ n = 1 ∧ (br == 4) = false ∧ (br == 5) = true ∧ picI n br pc = 2) ∨ (pc = false ∧ n = 1 ∧ (br == 4) = false ∧ (br == 5) = false ∧ picI n br pc = 0) := by
  unfold picI
  cases pc with
  | true => simp
  | false =>
    by_cases h1 : n = 1
    · by_cases h2 : br = 4
      · simp [h1, h2]
      · by_cases h3 : br = 5 <;> simp [h1, h2, h3]
    · simp [h1]
set_option maxRecDepth 100000 in
theorem pic_any (n br : Int) (pc : Bool) (cj ea : Int) (w : World) (n0 : 0 ≤ n) (n1 : n ≤ 255) : Calls Try.prog 44 #[.int .u8 n, .agg #[.int .i64 br, .bool pc, .int .i64 cj, .int .i64 ea]] w (Gives w (.int .u8 (picI n br pc))) := by
  rcases pic_cases n br pc with ⟨rfl, hs⟩ | ⟨rfl, h2, hs⟩ | ⟨rfl, rfl, h3, hs⟩ | ⟨rfl, rfl, h3, h4, hs⟩ | ⟨rfl, rfl, h3, h4, hs⟩
  all_goals
    rw [hs]
    clear hs
    go_enter Try.func44, Try.ntmps44
    go_wp2
    go_ret
    exact ⟨(ret_eq (by first | rfl | (simp <;> omega))), (Below.refl _ _).alloc (Nat.le_refl _) _⟩
end Go.Proofs.Ytkpmmkokfllafaa
