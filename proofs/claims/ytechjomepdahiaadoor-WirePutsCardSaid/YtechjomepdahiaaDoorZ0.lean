import Derived.Lib.Hide
import Derived.Below
set_option maxRecDepth 100000
set_option linter.unusedVariables false
set_option linter.unusedSimpArgs false
set_option maxHeartbeats 400000
namespace Go.Proofs.YtechjomepdahiaaDoor
open Go.RowKit Go.ChangeShapes Go.WideShapes
theorem aa {p : Prop} (h : p) : Go.RowKit.Hid p := h
theorem ab {α : Sort _} (a : α) : ∃ x, x = a := ⟨a, rfl⟩
theorem ae {a b : Value} (h : a = b := by first | rfl | (simp <;> omega)) : Ending.returned a = .returned b := by rw [h]
theorem l7 (w : World) (o : Obj) : Below w.heap.size w (w.alloc o) := (Below.refl _ _).alloc (Nat.le_refl _) o
theorem ag {p : Prop} [Decidable p] (h : p) : decide p = true := decide_eq_true h
theorem ah {p : Prop} [Decidable p] (h : ¬ p) : decide p = false := decide_eq_false h
end Go.Proofs.YtechjomepdahiaaDoor
