/- '==' and '!=' of clusters. -/
import Derived.Test.YtmfoldohmbaikaaClusE
namespace Go.Proofs.Ytmfoldohmbaikaa
open Go.RowKit Go.ChangeShapes Go.WideShapes
theorem ten (P : Nat → Prop) (h : P (9997 + 1 + 1 + 1)) : P 10000 := h
theorem cl_eql (a b : List Int) (ha : a.length ≤ 16) (hb : b.length ≤ 16) (w : World) : (binOp .eql 77 (.agg (clCells a).toArray) (.agg (clCells b).toArray)).run Try.prog w = .ok (.bool (clEq a b)) w := by
  have h := ten (fun n => (Op.equalIn n 77 (.agg (clCells a).toArray) (.agg (clCells b).toArray)).run Try.prog w = .ok (clEq a b) w) (cl_equal 9997 a b ha hb w)
  rw [run_eql_struct]
  simp only [h, Result.andThen_ok]
theorem cl_neq (a b : List Int) (ha : a.length ≤ 16) (hb : b.length ≤ 16) (w : World) : (binOp .neq 77 (.agg (clCells a).toArray) (.agg (clCells b).toArray)).run Try.prog w = .ok (.bool (!clEq a b)) w := by
  have h := ten (fun n => (Op.equalIn n 77 (.agg (clCells a).toArray) (.agg (clCells b).toArray)).run Try.prog w = .ok (clEq a b) w) (cl_equal 9997 a b ha hb w)
  rw [run_neq_struct]
  simp only [h, Result.andThen_ok]
end Go.Proofs.Ytmfoldohmbaikaa
