/- A state behind the first so many of a row of properties. -/
import Derived.Test.YtmfoldohmbaikaaSegN
import Derived.Test.YtmfoldohmbaikaaSegE
namespace Go.Proofs.Ytmfoldohmbaikaa
open Go.RowKit Go.ChangeShapes Go.WideShapes
/-- The state in block g is that behind the first k. -/
def At (w : World) (g : Nat) (xs : List Pr) (k : Nat) : Prop := SegAt w g (decide (0 < k)) (lSt xs k) (cSt xs k) (pSt xs k) (oSt xs k)
theorem st_bd (xs : List Pr) (k : Nat) : 0 ≤ cSt xs k ∧ cSt xs k ≤ 255 ∧ 0 ≤ pSt xs k ∧ pSt xs k ≤ 255 := by
  have h1 := cSt_bd xs k
  have h2 := pSt_bd xs k
  omega
def AtNext (w : World) (g : Nat) (xs : List Pr) (k : Nat) (e : Ending) (w' : World) : Prop := e = .returned (.bool (jR xs k)) ∧ At w' g xs (k + 1) ∧ But g w.heap.size w w'
theorem step_at (w : World) (g : Nat) (xs : List Pr) (k : Nat) (h : At w g xs k) : Calls Try.prog 45 #[.pointer (some ⟨g, 0, none⟩), .agg #[.int .i64 (xs.getD k Pr.none).br, .bool (xs.getD k Pr.none).pc, .int .i64 (xs.getD k Pr.none).cv, .int .i64 (xs.getD k Pr.none).ea]] w (AtNext w g xs k) := by
  obtain ⟨c0, c1, p0, p1⟩ := st_bd xs k
  refine (step_any g _ _ _ _ _ _ _ _ _ w h c0 c1 p0 p1).mono ?_
  rintro e w' ⟨rfl, hs, hb⟩
  refine ⟨by rw [jR_st], ?_, hb⟩
  unfold At
  rw [decide_eq_true (show 0 < k + 1 by omega)]
  exact hs
end Go.Proofs.Ytmfoldohmbaikaa
