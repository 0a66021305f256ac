/- What making blank leaves. -/
import Derived.Test.YtomfclkldmmmgaaDoorRowM
namespace Go.Proofs.YtomfclkldmmmgaaDoor
open Go.RowKit Go.ChangeShapes Go.WideShapes
def eraM (L : List Cl) (f t : Int) : Nat := (min t L.length - max f 0).toNat
def eraL (L : List Cl) (f t : Int) : List Cl := if max f 0 < min t L.length then paintL L (List.replicate (eraM L f t) zc) (max f 0).toNat else L
def eraW (L : List Cl) (wrap : Bool) (f t : Int) : Bool := if max f 0 < min t L.length then wrap && !lastHit L (List.replicate (eraM L f t) zc) (max f 0).toNat else wrap
theorem era_len (L : List Cl) (f t : Int) : (eraL L f t).length = L.length := by
  unfold eraL
  split
  · exact paint_len _ _ _
  · rfl
theorem era_parts {L : List Cl} {f t : Int} (h : max f 0 < min t L.length) : ∃ a q m : Nat, max f 0 = (a : Int) ∧ min t (L.length : Int) = (q : Int) ∧ q = a + m ∧ 0 < m ∧ a + m ≤ L.length ∧ eraL L f t = paintL L (List.replicate m zc) a ∧ ∀ wrap, eraW L wrap f t = (wrap && !lastHit L (List.replicate m zc) a) := by
  refine ⟨(max f 0).toNat, (min t (L.length : Int)).toNat, eraM L f t, by omega, by omega, by unfold eraM; omega, by unfold eraM; omega, by unfold eraM; omega, ?_, fun wrap => ?_⟩
  · unfold eraL; rw [if_pos h]
  · unfold eraW; rw [if_pos h]
theorem era_not {L : List Cl} {f t : Int} (h : ¬ max f 0 < min t (L.length : Int)) : eraL L f t = L ∧ ∀ wrap, eraW L wrap f t = wrap := by
  refine ⟨?_, fun wrap => ?_⟩
  · unfold eraL; rw [if_neg h]
  · unfold eraW; rw [if_neg h]
/-- A row, and whether it goes on, when a call was made. -/
def actL (L : List Cl) (wrap : Bool) (k a b : Int) : List Cl × Bool :=
  if k = 0 then (eraL L a b, eraW L wrap a b)
  else if k = 1 then (if a < 0 then (L, wrap) else (eraL L 0 (min a L.length + 1), eraW L wrap 0 (min a L.length + 1)))
  else if k = 2 then (eraL L a L.length, eraW L wrap a L.length)
  else if k = 3 then (eraL L 0 L.length, false)
  else if a < 0 ∨ b < 1 ∨ (L.length : Int) ≤ a then (L, wrap) else (eraL L a (a + min b L.length), eraW L wrap a (a + min b L.length))
theorem act_len (L : List Cl) (wrap : Bool) (k a b : Int) : (actL L wrap k a b).1.length = L.length := by
  unfold actL
  repeat' split
  all_goals first | exact era_len _ _ _ | rfl
end Go.Proofs.YtomfclkldmmmgaaDoor
