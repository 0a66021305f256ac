/- An argument that is a slice of integers, and its capacity. -/
import Derived.Test.YtfkeeigaocmalaaUallF
import Derived.OpenShut
namespace Go.Proofs.Ytfkeeigaocmalaa
open Go.RowKit Go.ChangeShapes Go.WideShapes
theorem heldc_arg {H : Type} {enc : TypeId × Value → H} {P : Program} {w : World} {base : Nat} {t e : TypeId} {k : IntKind} {v : Value} {d : DataW H} {p : List MemPlace} (ht : P.underlying t = some (.slice e)) (he : P.underlying e = some (.int k)) (hc : P.cellsOf e = 1)
    (hv : Value.okWide P w .any base t v) (h : DataW.Trod enc P w 0 (fun _ => true) true t v d p) : ∃ xs, Held k w v xs ∧ CapOk v ∧ ∀ n ∈ xs, (Lit.int k n).wf = true := by
  obtain ⟨xs, hh, hw⟩ := held_arg ht he hc hv h
  refine ⟨xs, hh, ?_, hw⟩
  obtain ⟨a0, len, cap, rfl⟩ := okWide_slice ht hv
  obtain ⟨fuel, hf⟩ := h
  rcases open_ints ht he hc hf with ⟨hcs, _⟩ | ⟨a, len', cap', zs, hcs, _, hl, hm, hz, hx, hcell, hwz⟩
  · simp [Value.cells] at hcs
    obtain ⟨rfl, rfl, rfl⟩ := hcs
    exact capOk_of (Nat.le_refl _)
  · simp [Value.cells] at hcs
    obtain ⟨rfl, rfl, rfl⟩ := hcs
    simp at hz
    exact capOk_of (by omega)
end Go.Proofs.Ytfkeeigaocmalaa
