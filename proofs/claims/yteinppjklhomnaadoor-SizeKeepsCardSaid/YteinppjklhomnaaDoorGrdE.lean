/- The works of layer 32. -/
import Derived.Test.YteinppjklhomnaaDoorGrdD
import Derived.Test.YteinppjklhomnaaDoorMg1
namespace Go.Proofs.YteinppjklhomnaaDoor
open Go.RowKit Go.ChangeShapes Go.WideShapes
theorem lines_one {Rs : List Rw} {x : Ln} (h : Rs.map lineOf = [x]) : Rs.length = 1 ∧ (Rs.getD 0 r0).L = x.1 := by
  have hl : Rs.length = 1 := by have := congrArg List.length h; simpa using this
  refine ⟨hl, ?_⟩
  match Rs, hl with
  | [r], _ =>
    have : lineOf r = x := by simpa using h
    rw [← this]
    rfl
end Go.Proofs.YteinppjklhomnaaDoor
