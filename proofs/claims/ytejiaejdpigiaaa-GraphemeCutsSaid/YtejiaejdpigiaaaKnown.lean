/- The properties of a row of numbers. -/
import Derived.Test.YtejiaejdpigiaaaUcdK
import Derived.Test.YtejiaejdpigiaaaMg2
namespace Go.Proofs.Ytejiaejdpigiaaa
open Go.RowKit Go.ChangeShapes Go.WideShapes
def knownPr (r : Int) : Pr := ⟨gcbI r, inTab tPict r, conjO r, eastI r⟩
def knownL (xs : List Int) : List Pr := xs.map knownPr
theorem knownL_at {xs : List Int} {k : Nat} (h : k < xs.length) : (knownL xs).getD k Pr.none = knownPr (xs.getD k 0) := by
  have h' : k < (knownL xs).length := by simpa [knownL] using h
  simp [List.getD, List.getElem?_eq_getElem h, knownL]
theorem knownL_len (xs : List Int) : (knownL xs).length = xs.length := by simp [knownL]
theorem info_prop : (Try.prog.info? 72).map (fun i => (i.zero, i.size, i.bytes)) = some (some (.agg #[.int .i64 0, .bool false, .int .i64 0, .int .i64 0]), 4, 32) := by kernel_rfl
end Go.Proofs.Ytejiaejdpigiaaa
