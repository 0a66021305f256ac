import Derived.Lib.Hide
import Derived.Below
set_option maxRecDepth 100000
set_option linter.unusedVariables false
set_option linter.unusedSimpArgs false
set_option maxHeartbeats 400000
namespace Go.Proofs.YtoeggiplcaegoaaGreatDoor
open Go.RowKit Go.ChangeShapes Go.WideShapes
theorem ab {p : Prop} (h : p) : Go.RowKit.Hid p := h
theorem ae {α : Sort _} (a : α) : ∃ x, x = a := ⟨a, rfl⟩
theorem af {a b : Value} (h : a = b := by first | rfl | (simp <;> omega)) : Ending.returned a = .returned b := by rw [h]
theorem AU (w : World) (o : Obj) : Below w.heap.size w (w.alloc o) := (Below.refl _ _).alloc (Nat.le_refl _) o
theorem ah {p : Prop} [Decidable p] (h : p) : decide p = true := decide_eq_true h
theorem ai {p : Prop} [Decidable p] (h : ¬ p) : decide p = false := decide_eq_false h
end Go.Proofs.YtoeggiplcaegoaaGreatDoor
