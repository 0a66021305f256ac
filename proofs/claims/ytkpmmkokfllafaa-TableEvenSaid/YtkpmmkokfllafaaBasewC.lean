/- Contracts of basew and of the reference's; works of layer 18. -/
import Derived.Test.YtkpmmkokfllafaaMg5
namespace Go.Proofs.Ytkpmmkokfllafaa
open Go.RowKit Go.ChangeShapes Go.WideShapes
def basewI (br ea : Int) : Int := if br = 1 ∨ br = 2 ∨ br = 3 ∨ br = 4 ∨ br = 5 ∨ br = 10 ∨ br = 11 then 0 else if ea = 1 ∨ ea = 2 then 2 else 1
def zeroL : List Int := [1, 2, 3, 4, 5, 10, 11]
theorem basew_cases (br ea : Int) : (br = 1 ∧ basewI br ea = 0) ∨ (br = 2 ∧ basewI br ea = 0) ∨ (br = 3 ∧ basewI br ea = 0) ∨ (br = 4 ∧ basewI br ea = 0) ∨ (br = 5 ∧ basewI br ea = 0) ∨ (br = 10 ∧ basewI br ea = 0) ∨ (br = 11 ∧ basewI br ea = 0)
    ∨ ((br == 1) = false ∧ (br == 2) = false ∧ (br == 3) = false ∧ (br == 4) = false ∧ (br == 5) = false ∧ (br == 10) = false ∧ (br == 11) = false ∧ (ea = 1 ∧ basewI br ea = 2 ∨ (ea == 1) = false ∧ ea = 2 ∧ basewI br ea = 2 ∨ (ea == 1) = false ∧ (ea == 2) = false ∧ basewI br ea = 1)) := by
  unfold basewI
  by_cases h1 : br = 1
  · exact .inl ⟨h1, by simp [h1]⟩
  by_cases h2 : br = 2
  · exact .inr (.inl ⟨h2, by simp [h2]⟩)
  by_cases h3 : br = 3
  · exact .inr (.inr (.inl ⟨h3, by simp [h3]⟩))
  by_cases h4 : br = 4
  · exact .inr (.inr (.inr (.inl ⟨h4, by simp [h4]⟩)))
  by_cases h5 : br = 5
  · exact .inr (.inr (.inr (.inr (.inl ⟨h5, by simp [h5]⟩))))
  by_cases h10 : br = 10
  · exact .inr (.inr (.inr (.inr (.inr (.inl ⟨h10, by simp [h10]⟩)))))
  by_cases h11 : br = 11
  · exact .inr (.inr (.inr (.inr (.inr (.inr (.inl ⟨h11, by simp [h11]⟩))))))
  refine .inr (.inr (.inr (.inr (.inr (.inr (.inr ⟨by simpa using h1, by simpa using h2, by simpa using h3, by simpa using h4, by simpa using h5, by simpa using h10, by simpa using h11, ?_⟩))))))
  by_cases e1 : ea = 1
  · exact .inl ⟨e1, by simp [h1, h2, h3, h4, h5, h10, h11, e1]⟩
  by_cases e2 : ea = 2
  · exact .inr (.inl ⟨by simpa using e1, e2, by simp [h1, h2, h3, h4, h5, h10, h11, e2]⟩)
  · exact .inr (.inr ⟨by simpa using e1, by simpa using e2, by simp [h1, h2, h3, h4, h5, h10, h11, e1, e2]⟩)
set_option maxRecDepth 100000 in
theorem bof_any (br : Int) (b : Bool) (cv ea : Int) (w : World) : Calls Try.prog 78 #[.agg #[.int .i64 br, .bool b, .int .i64 cv, .int .i64 ea]] w (Gives w (.int .i64 (basewI br ea))) := by
  have hbl : ∀ o, Below w.heap.size w (w.alloc o) := fun o => (Below.refl _ _).alloc (Nat.le_refl _) o
  have HBL := Lib.hid hbl
  clear hbl
  rcases basew_cases br ea with ⟨rfl, hs⟩ | ⟨rfl, hs⟩ | ⟨rfl, hs⟩ | ⟨rfl, hs⟩ | ⟨rfl, hs⟩ | ⟨rfl, hs⟩ | ⟨rfl, hs⟩ | ⟨h1, h2, h3, h4, h5, h6, h7, ⟨rfl, hs⟩ | ⟨h8, rfl, hs⟩ | ⟨h8, h9, hs⟩⟩
  all_goals
    rw [hs]
    clear hs
    go_enter Try.func78, Try.ntmps78
    go_wp2
    go_ret
    exact ⟨(ret_eq (by first | rfl | (simp <;> omega))), HBL.out _⟩
theorem zbox (w : World) (br : Int) (b : Bool) (cv ea : Int) : ∃ W, W = (w.alloc (.cells #[.int .i64 br, .bool b, .int .i64 cv, .int .i64 ea] 61)).alloc (.cells #[.int .i64 1, .int .i64 2, .int .i64 3, .int .i64 4, .int .i64 5, .int .i64 10, .int .i64 11] 3) ∧
    Has W w.heap.size [.int .i64 br, .bool b, .int .i64 cv, .int .i64 ea] 61 ∧ Has W (w.heap.size + 1) (zeroL.map (Value.int .i64)) 3 ∧ Below w.heap.size w W := by
  refine ⟨_, rfl, (Has.new w _ _).alloc _, ?_, ((Below.refl _ _).alloc (Nat.le_refl _) _).alloc (by simp) _⟩
  have := Has.new (w.alloc (.cells #[.int .i64 br, .bool b, .int .i64 cv, .int .i64 ea] 61)) (zeroL.map (Value.int .i64)) 3
  rw [World.size_alloc] at this
  exact this
theorem zero_iff (br : Int) : (br = 1 ∨ br = 2 ∨ br = 3 ∨ br = 4 ∨ br = 5 ∨ br = 10 ∨ br = 11) ↔ ∃ j, j < 7 ∧ br = zeroL.getD j 0 := by
  constructor
  · rintro (h | h | h | h | h | h | h)
    · exact ⟨0, by decide, h⟩
    · exact ⟨1, by decide, h⟩
    · exact ⟨2, by decide, h⟩
    · exact ⟨3, by decide, h⟩
    · exact ⟨4, by decide, h⟩
    · exact ⟨5, by decide, h⟩
    · exact ⟨6, by decide, h⟩
  · rintro ⟨j, hj, h⟩
    match j, hj with
    | 0, _ => exact .inl h
    | 1, _ => exact .inr (.inl h)
    | 2, _ => exact .inr (.inr (.inl h))
    | 3, _ => exact .inr (.inr (.inr (.inl h)))
    | 4, _ => exact .inr (.inr (.inr (.inr (.inl h))))
    | 5, _ => exact .inr (.inr (.inr (.inr (.inr (.inl h)))))
    | 6, _ => exact .inr (.inr (.inr (.inr (.inr (.inr h)))))
theorem zero_hit {br ea : Int} {j : Nat} (hj : j < 7) (h : br = zeroL.getD j 0) : basewI br ea = 0 := by
  unfold basewI
  rw [if_pos ((zero_iff br).2 ⟨j, hj, h⟩)]
theorem zero_miss {br ea : Int} (h : ∀ j, j < 7 → br ≠ zeroL.getD j 0) : (ea = 1 ∧ basewI br ea = 2) ∨ ((ea == 1) = false ∧ ea = 2 ∧ basewI br ea = 2) ∨ ((ea == 1) = false ∧ (ea == 2) = false ∧ basewI br ea = 1) := by
  have hn : ¬ (br = 1 ∨ br = 2 ∨ br = 3 ∨ br = 4 ∨ br = 5 ∨ br = 10 ∨ br = 11) := fun e => by
    obtain ⟨j, hj, hh⟩ := (zero_iff br).1 e
    exact h j hj hh
  unfold basewI
  rw [if_neg hn]
  by_cases e1 : ea = 1
  · exact .inl ⟨e1, by simp [e1]⟩
  by_cases e2 : ea = 2
  · exact .inr (.inl ⟨by simpa using e1, e2, by simp [e2]⟩)
  · exact .inr (.inr ⟨by simpa using e1, by simpa using e2, by simp [e1, e2]⟩)
end Go.Proofs.Ytkpmmkokfllafaa
