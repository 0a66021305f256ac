/- Turns that are sorted: slices.SortFunc at a row of the call's own. -/
import Derived.Test.YtgoeacmpphmnoaaSpanL
import Derived.Test.YtgoeacmpphmnoaaAid
import Derived.Test.YtgoeacmpphmnoaaObj
namespace Go.Proofs.Ytgoeacmpphmnoaa
open Go.RowKit Go.ChangeShapes Go.WideShapes
open Go.Sort Go.Lib
abbrev Tn := Int × Int
def encT (x : Tn) : List Value := [.int .i64 x.1, .int .i64 x.2]
def tnCells (l : List Tn) : List Value := l.flatMap encT
theorem tnCells_len (l : List Tn) : (tnCells l).length = l.length * 2 := by
  induction l with
  | nil => rfl
  | cons s T ih => simp only [tnCells, encT, List.flatMap_cons, List.length_append, List.length_cons, List.length_nil] at *; omega
theorem tnCells_at : ∀ (l : List Tn) (i : Nat), i < l.length → (tnCells l)[i * 2]? = some (.int .i64 (l.getD i (0, 0)).1) ∧ (tnCells l)[i * 2 + 1]? = some (.int .i64 (l.getD i (0, 0)).2)
  | [], i, h => absurd h (Nat.not_lt_zero _)
  | s :: T, 0, _ => ⟨rfl, rfl⟩
  | s :: T, i + 1, h => by
    have := tnCells_at T i (by simpa using h)
    rw [show (i + 1) * 2 = i * 2 + 2 by omega, show i * 2 + 2 + 1 = i * 2 + 1 + 2 by omega]
    simpa [tnCells, encT] using this
theorem flat_eq (l : List Tn) : flatK encT 2 l.toArray = (tnCells l).toArray := by
  refine ext_get! (by simp [tnCells_len]) fun t ht => ?_
  have ht' : t < l.length * 2 := by simpa using ht
  have hi : t / 2 < l.length := by omega
  rw [get_flatK _ _ _ _ (by simpa using ht')]
  have k := tnCells_at l (t / 2) hi
  have hd : l.toArray[t / 2]! = l.getD (t / 2) (0, 0) := by simp [List.getD, List.getElem?_eq_getElem hi, hi]
  rw [hd]
  rcases Nat.mod_two_eq_zero_or_one t with h | h
  · rw [h]
    have e : t / 2 * 2 = t := by omega
    rw [e] at k
    have := k.1
    simp [encT, List.getElem!_eq_getElem?_getD, this]
  · rw [h]
    have e : t / 2 * 2 + 1 = t := by omega
    rw [e] at k
    have := k.2
    simp [encT, List.getElem!_eq_getElem?_getD, this]
theorem holds_tn {w : World} {B g cap n e : Nat} {l : List Tn} (h : w.ownsRow B e 2 (.slice (some ⟨g, 0, none⟩) n cap) n (tnCells l)) : HoldsK encT 2 w g 0 l.toArray := by
  have hn := h.1
  unfold HoldsK
  rw [flat_eq]
  intro j hj
  have hj' : j < (tnCells l).length := by simpa using hj
  refine ⟨?_, by rw [Nat.zero_add]; exact h.frozenAt j⟩
  rw [Nat.zero_add, h.cellAt j (by omega)]
  simp [List.getElem?_eq_getElem hj', hj']
theorem take_put (F : List Value) (cur : Array Value) (h : F.length ≤ cur.size) : (putCells id 0 F.toArray cur).toList.take F.length = F := by
  apply List.ext_getElem?
  intro j
  by_cases hj : j < F.length
  · rw [List.getElem?_take_of_lt hj, Array.getElem?_toList]
    have : j < cur.size := by omega
    simp [putCells, hj, this]
  · rw [List.getElem?_take_eq_none (by omega), List.getElem?_eq_none (by omega)]
theorem block_put {w : World} {g m e : Nat} {os : Array Obj} {cur : Array Value} (F : Array Value) (hb : w.heap[g]? = some (.cells cur e (0, 0))) : (grow (putRow id (Sort.ahead w m) g 0 F) os).heap[g]? = some (.cells (putCells id 0 F cur) e (0, 0)) := by
  have hg := (Array.getElem?_eq_some_iff.1 hb).1
  rw [heap_grow_old _ _ (by simpa using hg)]
  simp [putRow, mapBlock, Sort.ahead, Array.getElem?_modify, onCells, hb]
theorem but_put {w : World} {g m : Nat} {os : Array Obj} (F : Array Value) : But g w.heap.size w (grow (putRow id (Sort.ahead w m) g 0 F) os) := by
  refine ⟨rfl, rfl, rfl, by simp, fun k hk hne => ?_⟩
  rw [heap_grow_old _ _ (by simpa using hk)]
  simp [putRow, mapBlock, Sort.ahead, Array.getElem?_modify, Ne.symm hne]
theorem owns_sorted {w : World} {B g cap n e m : Nat} {os : Array Obj} {l l' : List Tn} (h : w.ownsRow B e 2 (.slice (some ⟨g, 0, none⟩) n cap) n (tnCells l)) (hl : l'.length = l.length) :
    (sortWorldK encT 2 w g 0 m l'.toArray os).ownsRow B e 2 (.slice (some ⟨g, 0, none⟩) n cap) n (tnCells l') := by
  unfold sortWorldK putRowK
  rw [flat_eq]
  have hn := h.1
  rw [tnCells_len] at hn
  rcases h.2 with ⟨h0, _⟩ | ⟨g', cap', cur, hv, hg, hh, hnc, hcap, hsz, _⟩
  · cases h0
  cases hv
  have hle : (tnCells l').length ≤ cur.size := by rw [tnCells_len, hl, hn, hsz]; omega
  refine ⟨by rw [tnCells_len, hl, hn], .inr ⟨g, cap, _, rfl, hg, block_put _ hh, hnc, hcap, by simp [putCells, hsz], ?_⟩⟩
  have := take_put (tnCells l') cur hle
  rwa [tnCells_len, hl, hn] at this
theorem lt_at (x y : Tn) : ltOf (fun x y : Tn => Lib.compareInt x.1 y.1) x y = decide (x.1 < y.1) := by
  unfold ltOf Lib.compareInt
  by_cases h1 : x.1 < y.1
  · simp [h1]
  · by_cases h2 : y.1 < x.1 <;> simp [h1, h2]
theorem swo_at : SWO (ltOf fun x y : Tn => Lib.compareInt x.1 y.1) where
  irrefl x := by rw [lt_at]; exact decide_eq_false (by omega)
  trans x y z h1 h2 := by
    rw [lt_at] at *
    have a := of_decide_eq_true h1
    have b := of_decide_eq_true h2
    exact decide_eq_true (by omega)
  ntrans x y z h1 h2 := by
    rw [lt_at] at *
    have a := of_decide_eq_false h1
    have b := of_decide_eq_false h2
    exact decide_eq_false (by omega)
def upT (l : List Tn) : Prop := ∀ i j, i < j → j < l.length → (l.getD i (0, 0)).1 ≤ (l.getD j (0, 0)).1
end Go.Proofs.Ytgoeacmpphmnoaa
