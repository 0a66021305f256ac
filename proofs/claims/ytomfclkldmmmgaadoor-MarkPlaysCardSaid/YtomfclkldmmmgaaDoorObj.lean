/- A struct in a block of its own: what its cells hold, that they may be written; what turns nothing but it. Of no program. -/
import Derived.Handy
import Derived.Laws.Rows
import Derived.Deep.QuietTactic
import Derived.Laws.AppendOwn
import Derived.OneCell
namespace Go.Proofs.YtomfclkldmmmgaaDoor
open Go.RowKit

/-- Block g holds the cells C, all of which may be written. -/
def Has (w : World) (g : Nat) (C : List Value) (t : TypeId) : Prop := w.heap[g]? = some (.cells C.toArray t (0, 0))
theorem Has.lt {w : World} {g : Nat} {C : List Value} {t : TypeId} (h : Has w g C t) : g < w.heap.size := (Array.getElem?_eq_some_iff.1 h).1
theorem Has.cell {w : World} {g : Nat} {C : List Value} {t : TypeId} (h : Has w g C t) (i : Nat) (v : Value) (hv : C[i]? = some v) : w.cell? ⟨g, i, none⟩ = some v := by
  rw [cell_of_row w g i C.toArray t (0, 0) h]; simpa using hv
theorem Has.free {w : World} {g : Nat} {C : List Value} {t : TypeId} (h : Has w g C t) (i : Nat) : w.frozen? ⟨g, i, none⟩ = false := frozen_of_row w g i C.toArray t h
theorem Has.new (w : World) (C : List Value) (t : TypeId) : Has (w.alloc (.cells C.toArray t)) w.heap.size C t := heap_alloc_new w _
theorem Has.set {w : World} {g : Nat} {C : List Value} {t : TypeId} (h : Has w g C t) (i : Nat) (v : Value) : Has (w.setCell ⟨g, i, none⟩ v) g (C.set i v) t := by
  have := heap_setCell_same w g i C.toArray t v h
  unfold Has
  rw [this]
  simp
theorem Has.setOther {w : World} {g : Nat} {C : List Value} {t : TypeId} (h : Has w g C t) (a : Addr) (v : Value) (hne : g ≠ a.block) : Has (w.setCell a v) g C t := by
  unfold Has
  rw [heap_setCell_other w a g v hne]; exact h
theorem Has.alloc {w : World} {g : Nat} {C : List Value} {t : TypeId} (h : Has w g C t) (o : Obj) : Has (w.alloc o) g C t := by
  have hl := h.lt
  unfold Has World.alloc at *
  simp only
  rw [Array.getElem?_push_lt hl, ← Array.getElem?_eq_getElem hl]
  exact h
theorem Has.drewN {w : World} {g : Nat} {C : List Value} {t : TypeId} (h : Has w g C t) (n : Nat) : Has (w.drewN n) g C t := h
theorem Has.below {w w' : World} {g B : Nat} {C : List Value} {t : TypeId} (h : Has w g C t) (hb : Below B w w') (hg : g < B) : Has w' g C t := (hb.block g hg).trans h

/-- Below block B nothing but block g has turned. -/
structure But (g B : Nat) (w w' : World) : Prop where
  os : w'.os = w.os
  tape : w'.tape = w.tape
  output : w'.output = w.output
  size : w.heap.size ≤ w'.heap.size
  block : ∀ k, k < B → k ≠ g → w'.heap[k]? = w.heap[k]?
theorem But.refl (g B : Nat) (w : World) : But g B w w := ⟨rfl, rfl, rfl, Nat.le_refl _, fun _ _ _ => rfl⟩
theorem But.trans {g B : Nat} {a b c : World} (h : But g B a b) (k : But g B b c) : But g B a c :=
  ⟨k.os.trans h.os, k.tape.trans h.tape, k.output.trans h.output, Nat.le_trans h.size k.size, fun i hi hn => (k.block i hi hn).trans (h.block i hi hn)⟩
theorem But.ofBelow {g B : Nat} {w w' : World} (h : Below B w w') : But g B w w' := ⟨h.os, h.tape, h.output, h.size, fun k hk _ => h.block k hk⟩
theorem But.mono {g B B' : Nat} {w w' : World} (h : But g B w w') (hb : B' ≤ B) : But g B' w w' := ⟨h.os, h.tape, h.output, h.size, fun k hk hn => h.block k (by omega) hn⟩
theorem But.below {g B B' : Nat} {w w' : World} (h : But g B w w') (hb : B' ≤ B) (hg : B' ≤ g) : Below B' w w' := ⟨h.os, h.tape, h.output, h.size, fun k hk => h.block k (by omega) (by omega)⟩
theorem But.set {g B : Nat} {w w' : World} (h : But g B w w') (i : Nat) (v : Value) : But g B w (w'.setCell ⟨g, i, none⟩ v) :=
  ⟨h.os, h.tape, h.output, by rw [World.size_setCell]; exact h.size, fun k hk hn => by rw [heap_setCell_other w' ⟨g, i, none⟩ k v hn]; exact h.block k hk hn⟩
theorem But.alloc {g B : Nat} {w w' : World} (h : But g B w w') (hB : B ≤ w.heap.size) (o : Obj) : But g B w (w'.alloc o) := by
  have := h.size
  exact h.trans (.ofBelow ((Below.refl B w').alloc (by omega) o))
theorem But.drewN {g B : Nat} {w w' : World} (h : But g B w w') (n : Nat) : But g B w (w'.drewN n) := ⟨h.os, h.tape, h.output, h.size, h.block⟩
theorem Has.but {w w' : World} {g g' B : Nat} {C : List Value} {t : TypeId} (h : Has w g C t) (hb : But g' B w w') (hg : g < B) (hn : g ≠ g') : Has w' g C t := (hb.block g hg hn).trans h
theorem own_but {w w' : World} {g B e size : Nat} {v : Value} {n : Nat} {xs : List Value} (h : w.ownsRow B e size v n xs) (hb : But g w.heap.size w w') (hg : g < B) : w'.ownsRow B e size v n xs := by
  refine ⟨h.1, ?_⟩
  rcases h.2 with hn | ⟨r, cap, cur, rfl, hB, hr, rest⟩
  · exact .inl hn
  · exact .inr ⟨r, cap, cur, rfl, hB, (hb.block r (Array.getElem?_eq_some_iff.1 hr).1 (by omega)).trans hr, rest⟩
theorem zero3 (w : World) (g : Nat) (x y z : Value) : But g w.heap.size w (((w.setCell ⟨g, 0, none⟩ x).setCell ⟨g, 1, none⟩ y).setCell ⟨g, 2, none⟩ z) :=
  (((But.refl _ _ _).set 0 _).set 1 _).set 2 _
end Go.Proofs.YtomfclkldmmmgaaDoor
