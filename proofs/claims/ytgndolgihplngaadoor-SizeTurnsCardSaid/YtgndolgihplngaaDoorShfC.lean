/- shift: Insert. -/
import Derived.Test.YtgndolgihplngaaDoorMg4
import Derived.Test.YtgndolgihplngaaDoorMg1
import Derived.Test.YtgndolgihplngaaDoorMg5
import Derived.Deep.Cut
namespace Go.Proofs.YtgndolgihplngaaDoor
open Go.RowKit Go.ChangeShapes Go.WideShapes
theorem part3 {Z : Zone} {w : World} {gq cap : Nat} {L : List Cl} (h : HeldE cellE Z w (.slice (some ⟨gq, 0, none⟩) L.length cap) L) (lo hi : Nat) (h1 : lo ≤ hi) (h2 : hi ≤ L.length) : HeldE cellE Z w (.slice (some ⟨gq, lo * 2, none⟩) (hi - lo) (cap - lo)) ((L.drop lo).take (hi - lo)) := by
  obtain ⟨_, hn, _⟩ := h.spots
  obtain ⟨_, _, e, hcm, _⟩ := id h
  cases e
  exact h.part lo hi h1 h2 (some ⟨gq, lo * 2, none⟩) (cap - lo) (fun e => by cases e) (fun b off e _ => by cases e; simp [cellE_size]) (fun _ _ => by simp) (by omega) (by omega)
end Go.Proofs.YtgndolgihplngaaDoor
