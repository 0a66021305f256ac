/- Texts put together: PlcW, PlcY. -/
import Derived.Test.YtgndolgihplngaaDoorMg8
import Derived.Test.YtgndolgihplngaaDoorPlcF
import Derived.Test.YtgndolgihplngaaDoorMg6
/- Layer 34: the reference's New, Alike, works. -/
namespace Go.Proofs.YtgndolgihplngaaDoor
open Go.RowKit Go.ChangeShapes Go.WideShapes
theorem cur_self (r c : Int) (p : Bool) (w : World) : (binOp .eql 24 (.agg #[.int .i64 r, .int .i64 c, .bool p]) (.agg #[.int .i64 r, .int .i64 c, .bool p])).run Tryd.prog w = .ok (.bool true) w := by
  rw [cur_eql]
  simp [curEq]
end Go.Proofs.YtgndolgihplngaaDoor
/- works of layer 34. -/
namespace Go.Proofs.YtgndolgihplngaaDoor
open Go.RowKit Go.ChangeShapes Go.WideShapes
theorem pz_ge {w : World} {B gp gg gr wd : Nat} {R : List Rw} {Ls : List Ln} {r c : Int} {pd au : Bool} (h : PenAt w B gp gg gr wd R Ls r c pd au) (hB : B ≤ w.heap.size) (b : Nat) (hb : PZ w gp gr R b) : B ≤ b := by
  have hl := h.2.2.1.lt
  rcases hb with e | e | ⟨i, hi, e⟩ | e
  · subst e; exact h.2.1
  · omega
  · have := hl.2.2.2.2.2 i hi; rcases e with e | e <;> omega
  · omega
theorem PDo.belowB {w w1 : World} {B gp gg gr wd : Nat} {R : List Rw} {Ls L2 : List Ln} {r c r2 c2 : Int} {pd au pd2 au2 : Bool} (h : PenAt w B gp gg gr wd R Ls r c pd au) (hB : B ≤ w.heap.size) (k : PDo w B gp gg gr wd R L2 r2 c2 pd2 au2 w1) : Below B w w1 := by
  obtain ⟨R2, _, k2, _⟩ := k
  exact k2.below hB (pz_ge h hB)
/-- A text that was made behind the pen is off it. -/
theorem pen_text {w w1 : World} {B gp gg gr wd : Nat} {R : List Rw} {Ls : List Ln} {r c : Int} {pd au : Bool} (h : PenAt w B gp gg gr wd R Ls r c pd au) {u : Value} {ys : List Int} (hu : HeldE (intE .i32) (fun b => w.heap.size ≤ b) w1 u ys) : HeldE (intE .i32) (fun b => ¬ PZ w1 gp gr R b) w1 u ys := hu.zone fun b hlt hz e => by
  have hl := h.lt
  have hg := h.2.2.1.lt
  rcases e with e | e | ⟨i, hi, e⟩ | e
  · omega
  · omega
  · have := hg.2.2.2.2.2 i hi; rcases e with e | e <;> omega
  · omega
def wk0 : List Ln := List.replicate 2 (List.replicate 3 zc, false)
def wk1 : List Ln := plcL wk0 3 0 0 false true 1 [97]
theorem wk_1 : plcR wk0 3 0 0 false true 1 = 0 ∧ plcC 3 0 false true 1 = 0 ∧ plcK 3 1 = 1 ∧ aftC 0 1 3 = 1 ∧ aftP 0 1 3 true = false ∧ wk0.length = 2 ∧ wk1.length = 2 := by decide +kernel
theorem in_num : inI 0 (sideI 2) = ((0 : Nat) : Int) ∧ inI 0 (sideI 3) = ((0 : Nat) : Int) ∧ inI 1 (sideI 3) = ((1 : Nat) : Int) ∧ inI 2 (sideI 3) = ((2 : Nat) : Int) := by decide
end Go.Proofs.YtgndolgihplngaaDoor
