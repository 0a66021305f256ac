/- Cells in memory. -/
import Derived.Test.YtomfclkldmmmgaaDoorCellM
import Derived.Test.YtomfclkldmmmgaaDoorElemA
import Derived.Test.YtomfclkldmmmgaaDoorOpen
namespace Go.Proofs.YtomfclkldmmmgaaDoor
open Go.RowKit Go.ChangeShapes Go.WideShapes
def cellE : Elem Cl := prE (intE .i64) (slE (intE .i32))
abbrev cellsE : Elem (List Cl) := slE cellE
theorem cellE_size : cellE.size = 2 := rfl
theorem cell_rep {Z : Zone} {w : World} {C : List Value} {x : Cl} : cellE.rep Z w C x ↔ ∃ tv, C = [.int .i64 x.1, tv] ∧ HeldE (intE .i32) Z w tv x.2 := by
  constructor
  · rintro ⟨C1, C2, rfl, rfl, tv, rfl, h⟩
    exact ⟨tv, rfl, h⟩
  · rintro ⟨tv, rfl, h⟩
    exact ⟨[_], [tv], rfl, rfl, tv, rfl, h⟩
/-- What a walk asks of a list of cells. -/
theorem cells_at {Z : Zone} {w : World} {ao : Option Addr} {n cap : Nat} {L : List Cl} (h : HeldE cellE Z w (.slice ao n cap) L) : n = L.length ∧ n ≤ cap ∧ ∀ i, i < L.length → ∃ b off tv, ao = some ⟨b, off, none⟩ ∧ b < w.heap.size ∧ Z b ∧
    w.cell? ⟨b, off + i * 2, none⟩ = some (.int .i64 (L.getD i zc).1) ∧ w.cell? ⟨b, off + i * 2 + 1, none⟩ = some tv ∧ HeldE (intE .i32) Z w tv (L.getD i zc).2 := by
  obtain ⟨h1, h2, h3⟩ := h.spots
  refine ⟨h1, h2, fun i hi => ?_⟩
  obtain ⟨b, off, rfl, hb, hz, C, hC, hr⟩ := h3 i hi
  obtain ⟨tv, rfl, ht⟩ := cell_rep.1 hr
  exact ⟨b, off, tv, rfl, hb, hz, hC 0 (by decide), hC 1 (by decide), ht⟩
set_option maxRecDepth 100000 in
theorem cells_arg {H : Type} {enc : TypeId × Value → H} {W : World} {base : Nat} {v : Value} {d : DataW H} {p : List MemPlace} (hv : Value.okWide Tryd.prog W .any base 22 v) (h : DataW.Trod enc Tryd.prog W 0 (fun _ => true) true 22 v d p) :
    ∃ L, HeldE cellE (fun b => b < W.heap.size) W v L ∧ ∀ x ∈ L, (Lit.int .i64 x.1).wf = true ∧ ∀ n ∈ x.2, (Lit.int .i32 n).wf = true :=
  opens_arg Tryd.underlying22 (by kernel_rfl) (by decide) (opens_pair Tryd.underlying27 (by kernel_rfl) rfl rfl (opens_int Tryd.underlying3 (by kernel_rfl)) (opens_slice Tryd.underlying25 (by kernel_rfl) (by decide) (opens_int Tryd.underlying21 (by kernel_rfl)))) hv h
theorem info_cell : (Tryd.prog.info? 27).map (fun i => (i.zero, i.size, i.bytes)) = some (some (.agg #[.int .i64 0, .slice none 0 0]), cellE.size, 32) := by kernel_rfl
theorem info_rune : (Tryd.prog.info? 21).map (fun i => (i.zero, i.size, i.bytes)) = some (some (.int .i32 0), (intE .i32).size, 4) := by kernel_rfl
end Go.Proofs.YtomfclkldmmmgaaDoor
