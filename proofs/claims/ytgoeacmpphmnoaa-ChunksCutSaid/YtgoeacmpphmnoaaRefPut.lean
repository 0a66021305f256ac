/- The reference's Put, and the capacity of what it hands back. -/
import Derived.Test.YtgoeacmpphmnoaaScalarR
import Derived.Test.YtgoeacmpphmnoaaUallE
import Derived.Laws.OwnMore
namespace Go.Proofs.Ytgoeacmpphmnoaa
open Go.RowKit Go.ChangeShapes Go.WideShapes
theorem own_cap {w : World} {B e size : Nat} {v : Value} {n : Nat} {xs : List Value} (h : w.ownsRow B e size v n xs) : CapOk v := by
  rcases h.2 with ⟨rfl, _⟩ | ⟨g, cap, cur, rfl, _, _, hnc, _⟩
  · exact capOk_of (Nat.le_refl _)
  · exact capOk_of hnc
/-- The bytes of the first k. -/
def putL (xs : List Int) (k : Nat) : List Int := (xs.take k).flatMap formL
theorem putL_len (xs : List Int) (k : Nat) : (putL xs k).length ≤ 4 * k := by
  unfold putL
  induction xs generalizing k with
  | nil => simp
  | cons x xs ih =>
    cases k with
    | zero => simp
    | succ k => have := ih k; have := formL_len x; simp only [List.take_succ_cons, List.flatMap_cons, List.length_append]; omega
theorem putL_succ (xs : List Int) (k : Nat) (h : k < xs.length) : putL xs (k + 1) = putL xs k ++ formL (xs.getD k 0) := by
  unfold putL
  rw [List.take_succ_eq_append_getElem h, List.flatMap_append]
  simp [List.getD, List.getElem?_eq_getElem h]
def PutRel (w : World) (xs : List Int) (k : Nat) (v : Value) (wr : World) : Prop := wr.ownsRow w.heap.size 5 1 v (putL xs k).length ((putL xs k).map (Value.int .u8)) ∧ Below w.heap.size w wr

def RefPutC (w : World) (L : List Int) (e : Ending) (w' : World) : Prop := ∃ v', e = .returned (.tuple #[v', .int .i64 (-1)]) ∧ Held .u8 w' v' L ∧ CapOk v' ∧ Below w.heap.size w w'
def RefBad (w : World) (at_ : Int) (e : Ending) (w' : World) : Prop := e = .returned (.tuple #[.slice none 0 0, .int .i64 at_]) ∧ Below w.heap.size w w'

end Go.Proofs.Ytgoeacmpphmnoaa
