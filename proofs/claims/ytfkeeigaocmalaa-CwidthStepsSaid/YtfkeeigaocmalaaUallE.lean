/- Contracts of utfall: part. -/
import Derived.Test.YtfkeeigaocmalaaUallD
import Derived.Test.YtfkeeigaocmalaaObj
namespace Go.Proofs.Ytfkeeigaocmalaa
open Go.RowKit Go.ChangeShapes Go.WideShapes
abbrev G5 := Int × Int × Int × Int × Bool
def gotV (g : G5) : Value := .agg #[.int .i32 g.1, .int .i64 g.2.1, .int .i64 g.2.2.1, .int .i64 g.2.2.2.1, .bool g.2.2.2.2]
def partG (xs : List Int) (p : Nat) : G5 :=
  if leadI (xs.getD p 0) = 0 then (65533, p, 1, p + 1, true) else
  if (begN (xs.drop p) (leadI (xs.getD p 0)) : Int) = leadI (xs.getD p 0) then (valF ((xs.drop p).take (begN (xs.drop p) (leadI (xs.getD p 0)))) (begN (xs.drop p) (leadI (xs.getD p 0)) - 1), p, begN (xs.drop p) (leadI (xs.getD p 0)), p + begN (xs.drop p) (leadI (xs.getD p 0)), false)
  else (65533, p, begN (xs.drop p) (leadI (xs.getD p 0)), min (p + begN (xs.drop p) (leadI (xs.getD p 0)) + 1 : Int) xs.length, true)
theorem partG_at (xs : List Int) (p : Nat) (x : Int) (hx : x = xs.getD p 0) : partG xs p =
  if leadI x = 0 then (65533, (p : Int), 1, (p : Int) + 1, true) else
  if (begN (xs.drop p) (leadI x) : Int) = leadI x then (valF ((xs.drop p).take (begN (xs.drop p) (leadI x))) (begN (xs.drop p) (leadI x) - 1), (p : Int), (begN (xs.drop p) (leadI x) : Int), (p : Int) + begN (xs.drop p) (leadI x), false)
  else (65533, (p : Int), (begN (xs.drop p) (leadI x) : Int), min (p + begN (xs.drop p) (leadI x) + 1 : Int) xs.length, true) := by subst hx; rfl
theorem held_cut {k : IntKind} {w : World} {b off n cap : Nat} {xs : List Int} (h : Held k w (.slice (some ⟨b, off, none⟩) n cap) xs) (i j : Nat) (hb : b < w.heap.size) (hj : i + j ≤ xs.length) (c : Nat) : Held k w (.slice (some ⟨b, off + i, none⟩) j c) ((xs.drop i).take j) := by
  have hl : ((xs.drop i).take j).length = j := by simp; omega
  have := h.spots
  rw [show (Value.slice (some ⟨b, off + i, none⟩) j c) = .slice (some ⟨b, off + i, none⟩) ((xs.drop i).take j).length c by rw [hl]]
  refine held_at hb fun q hq => ?_
  rw [hl] at hq
  obtain ⟨b', off', e, _, hc⟩ := this (i + q) (by omega)
  cases e
  rw [Nat.add_assoc, hc]
  simp [List.getD, List.getElem?_take, hq]
theorem held_drop {k : IntKind} {w : World} {b off n cap : Nat} {xs : List Int} (h : Held k w (.slice (some ⟨b, off, none⟩) n cap) xs) (i : Nat) (hb : b < w.heap.size) (hj : i ≤ xs.length) (c : Nat) : Held k w (.slice (some ⟨b, off + i, none⟩) (xs.length - i) c) (xs.drop i) := by
  have := held_cut h i (xs.length - i) hb (by omega) c
  rwa [List.take_of_length_le (by simp)] at this
theorem drop_in {xs : List Int} (hr : ∀ i, i < xs.length → 0 ≤ xs.getD i 0 ∧ xs.getD i 0 ≤ 255) (p : Nat) : ∀ i, i < (xs.drop p).length → 0 ≤ (xs.drop p).getD i 0 ∧ (xs.drop p).getD i 0 ≤ 255 := by
  intro i hi
  have := hr (p + i) (by simp at hi; omega)
  simpa [List.getD] using this
theorem take_in {xs : List Int} (hr : ∀ i, i < xs.length → 0 ≤ xs.getD i 0 ∧ xs.getD i 0 ≤ 255) (p : Nat) : ∀ i, i < (xs.take p).length → 0 ≤ (xs.take p).getD i 0 ∧ (xs.take p).getD i 0 ≤ 255 := by
  intro i hi
  have hi2 : i < p ∧ i < xs.length := by simp at hi; omega
  have := hr i hi2.2
  simpa [List.getD, List.getElem?_take, hi2.1] using this
theorem capOk_of {ao : Option Addr} {n c : Nat} (h : n ≤ c) : CapOk (.slice ao n c) := fun _ _ _ e => by cases e; exact h
theorem five_below {w W : World} (hl : Below w.heap.size w W) (g : Nat) (hg : w.heap.size ≤ g) (x y z u t : Value) :
    Below w.heap.size w (((((W.setCell ⟨g, 0, none⟩ x).setCell ⟨g, 1, none⟩ y).setCell ⟨g, 2, none⟩ z).setCell ⟨g, 3, none⟩ u).setCell ⟨g, 4, none⟩ t) :=
  hl.trans (((((((But.refl g W.heap.size W).set 0 x).set 1 y).set 2 z).set 3 u).set 4 t).below (B' := w.heap.size) hl.size hg)
end Go.Proofs.Ytfkeeigaocmalaa
