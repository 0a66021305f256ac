/- The reference's pen: Put. -/
import Derived.Test.YtoeggiplcaegoaaGreatDoorMg9
import Derived.Test.YtoeggiplcaegoaaGreatDoorCellP
import Derived.Test.YtoeggiplcaegoaaGreatDoorCursorE
import Derived.Test.YtoeggiplcaegoaaGreatDoorGrdR
import Derived.Deep.Cut
import Derived.Lib.MinMax
namespace Go.Proofs.YtoeggiplcaegoaaGreatDoor
open Go.RowKit Go.ChangeShapes Go.WideShapes
def ZN (Z : Zone) (w : World) : Zone := fun b => Z b ∨ w.heap.size + 3 ≤ b
/-- What the reference's Put knows on its way. -/
def RSt (Z : Zone) (w : World) (Ls : List Ln) (r c : Int) (pd au : Bool) (tv : Value) (ys : List Int) (wx : World) : Prop :=
  ∃ o k, Has wx w.heap.size [.slice o Ls.length k, .int .i64 r, .int .i64 c, .bool pd, .bool au] 43 ∧ Has wx (w.heap.size + 1) [.slice none 0 0, .int .i64 0, .int .i64 0, .bool false, .bool false] 43 ∧ Has wx (w.heap.size + 2) [.int .i64 0, .int .i64 0, .bool false] 24 ∧
    HeldE lineE (ZN Z w) wx (.slice o Ls.length k) Ls ∧ HeldE (intE .i32) (ZN Z w) wx tv ys ∧ Below w.heap.size w wx ∧ w.heap.size + 3 ≤ wx.heap.size
section
variable {Z : Zone} {w w1 w2 : World} {Ls L2 : List Ln} {r c r2 c2 : Int} {pd au pd2 au2 : Bool} {tv : Value} {ys : List Int}
theorem RSt.below (h : RSt Z w Ls r c pd au tv ys w1) (hb : Below w1.heap.size w1 w2) : RSt Z w Ls r c pd au tv ys w2 := by
  obtain ⟨o, k, h1, h2, h3, h4, h5, h6, h7⟩ := h
  exact ⟨o, k, h1.below hb h1.lt, h2.below hb h2.lt, h3.below hb h3.lt, h4.below hb, h5.below hb, h6.trans (hb.mono h6.size), Nat.le_trans h7 hb.size⟩
theorem RSt.text (h : RSt Z w Ls r c pd au tv ys w1) {u : Value} {zs : List Int} (hu : HeldE (intE .i32) (ZN Z w) w1 u zs) : RSt Z w Ls r c pd au u zs w1 := by
  obtain ⟨o, k, h1, h2, h3, h4, h5, h6, h7⟩ := h
  exact ⟨o, k, h1, h2, h3, h4, hu, h6, h7⟩
/-- The pen's box takes a pen. -/
theorem RSt.store (hZ : ∀ b, Z b → b < w.heap.size) (h : RSt Z w Ls r c pd au tv ys w1) {o : Option Addr} {n k : Nat} (hv : HeldE lineE (ZN Z w) w1 (.slice o n k) L2) : RSt Z w L2 r2 c2 pd2 au2 tv ys (((((w1.setCell ⟨w.heap.size, 0, none⟩ (.slice o n k)).setCell ⟨w.heap.size, 1, none⟩ (.int .i64 r2)).setCell ⟨w.heap.size, 2, none⟩ (.int .i64 c2)).setCell ⟨w.heap.size, 3, none⟩ (.bool pd2)).setCell ⟨w.heap.size, 4, none⟩ (.bool au2)) := by
  obtain ⟨o', k', h1, h2, h3, h4, h5, h6, h7⟩ := h
  obtain ⟨o9, k9, e9⟩ := hv.len
  simp only [Value.slice.injEq] at e9
  obtain ⟨rfl, rfl, rfl⟩ := e9
  have hu := pres_upd (W := w1) w.heap.size (.slice o L2.length k) (.int .i64 r2) (.int .i64 c2) (.bool pd2) (.bool au2)
  have hz : ∀ b, ZN Z w b → ¬ b = w.heap.size := fun b hb e => by rcases hb with hb | hb; have := hZ b hb; omega; omega
  exact ⟨o, k, pres_has h1 _ _ _ _ _, hu.keep.has h2 (fun e => by omega), hu.keep.has h3 (fun e => by omega), hv.upd hu hz, h5.upd hu hz, pres (g := w.heap.size) h6 (Nat.le_refl _) _ _ _ _ _, Nat.le_trans h7 hu.size⟩
/-- What a step of the pen gave, goes into the box. -/
theorem RSt.put (hZ : ∀ b, Z b → b < w.heap.size) (h : RSt Z w Ls r c pd au tv ys w1) (hb : Below w1.heap.size w1 w2) {o : Option Addr} {n k : Nat} (hv : HeldE lineE (fun b => (ZN Z w b ∧ b < w1.heap.size) ∨ (w1.heap.size ≤ b ∧ b < w2.heap.size)) w2 (.slice o n k) L2) : RSt Z w L2 r2 c2 pd2 au2 tv ys (((((w2.setCell ⟨w.heap.size, 0, none⟩ (.slice o n k)).setCell ⟨w.heap.size, 1, none⟩ (.int .i64 r2)).setCell ⟨w.heap.size, 2, none⟩ (.int .i64 c2)).setCell ⟨w.heap.size, 3, none⟩ (.bool pd2)).setCell ⟨w.heap.size, 4, none⟩ (.bool au2)) := by
  have h7 := h
  obtain ⟨_, _, _, _, _, _, _, _, h8⟩ := h7
  exact (h.below hb).store hZ (hv.zone fun b _ hz => by rcases hz with hz | hz; exact hz.1; exact .inr (by omega))
/-- The box's cursor alone. -/
theorem RSt.cur (hZ : ∀ b, Z b → b < w.heap.size) (h : RSt Z w Ls r c pd au tv ys w1) (r2 c2 : Int) (pd2 : Bool) : RSt Z w Ls r2 c2 pd2 au tv ys (((w1.setCell ⟨w.heap.size, 1, none⟩ (.int .i64 r2)).setCell ⟨w.heap.size, 2, none⟩ (.int .i64 c2)).setCell ⟨w.heap.size, 3, none⟩ (.bool pd2)) := by
  obtain ⟨o, k, h1, h2, h3, h4, h5, h6, h7⟩ := h
  obtain ⟨W', hW, g1, g2, g3, hu⟩ := pturn h1 h2 h6 (Nat.le_refl _) (.int .i64 r2) (.int .i64 c2) (.bool pd2)
  rw [← hW]
  have hz : ∀ b, ZN Z w b → ¬ b = w.heap.size := fun b hb e => by rcases hb with hb | hb; have := hZ b hb; omega; omega
  exact ⟨o, k, g1, g2, hu.keep.has h3 (fun e => by omega), h4.upd hu hz, h5.upd hu hz, g3, Nat.le_trans h7 hu.size⟩
/-- The box's column alone. -/
theorem RSt.col (hZ : ∀ b, Z b → b < w.heap.size) (h : RSt Z w Ls r c pd au tv ys w1) (c2 : Int) : RSt Z w Ls r c2 pd au tv ys (w1.setCell ⟨w.heap.size, 2, none⟩ (.int .i64 c2)) := by
  obtain ⟨o, k, h1, h2, h3, h4, h5, h6, h7⟩ := h
  have hu := (Upd.refl (fun x => x = w.heap.size) w1).setCell (p := ⟨w.heap.size, 2, none⟩) (.inl rfl) (.int .i64 c2)
  have hz : ∀ b, ZN Z w b → ¬ b = w.heap.size := fun b hb e => by rcases hb with hb | hb; have := hZ b hb; omega; omega
  exact ⟨o, k, h1.set 2 _, hu.keep.has h2 (fun e => by omega), hu.keep.has h3 (fun e => by omega), h4.upd hu hz, h5.upd hu hz, h6.trans (((Upd.refl (fun b => w.heap.size ≤ b) w1).setCell (p := ⟨w.heap.size, 2, none⟩) (.inl (Nat.le_refl _)) _).below h6.size fun _ e => e), Nat.le_trans h7 hu.size⟩
end
end Go.Proofs.YtoeggiplcaegoaaGreatDoor
