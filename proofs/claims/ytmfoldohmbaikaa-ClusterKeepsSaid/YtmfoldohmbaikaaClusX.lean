/- A slice cut at its end. -/
import Derived.Test.YtmfoldohmbaikaaClusW
namespace Go.Proofs.Ytmfoldohmbaikaa
open Go.RowKit Go.ChangeShapes Go.WideShapes
theorem take_held {k : IntKind} {w : World} {ao : Option Addr} {cap : Nat} {xs : List Int} (h : Held k w (.slice ao xs.length cap) xs) (n : Nat) (hn : n ≤ xs.length) : Held k w (.slice ao n cap) (xs.take n) := by
  obtain ⟨ao', cap', e, hnil, hc⟩ := h
  cases e
  refine ⟨ao, cap, by simp [Nat.min_eq_left hn], fun h => by rw [(hnil h).1]; simp [(hnil h).2], fun i hi => ?_⟩
  have hi' : i < n := by simp at hi; omega
  obtain ⟨b, off, e, hb, h1⟩ := hc i (by omega)
  refine ⟨b, off, e, hb, ?_⟩
  rw [h1]
  simp [List.getD, List.getElem?_take, hi']
end Go.Proofs.Ytmfoldohmbaikaa
