/- Grids of lines: Of. -/
import Derived.Test.YtoeggiplcaegoaaGreatDoorMg6
import Derived.Test.YtoeggiplcaegoaaGreatDoorMg7
import Derived.Test.YtoeggiplcaegoaaGreatDoorMg4
namespace Go.Proofs.YtoeggiplcaegoaaGreatDoor
open Go.RowKit Go.ChangeShapes Go.WideShapes
section
variable {w w' : World} {B gg wd : Nat} {v v' : Value} {Xs Xs' : List (Option Nat)} {Rs : List Rw}
/-- The rows' slice is another one. -/
theorem PartAt.grow (h : PartAt w B gg wd v Xs Rs) (ho : OwnE ptrE (fun _ => True) w' B 113 v' Xs') (hb : Below B w w') (hk : KeepZ (fun b => v.ownBlock ≠ some b) w w') (hd : ∀ b, b < w.heap.size → v.ownBlock ≠ some b → v'.ownBlock ≠ some b) : PartAt (w'.setCell ⟨gg, 1, none⟩ v') B gg wd v' Xs' Rs ∧ w'.cell? ⟨gg, 1, none⟩ = some v ∧ w'.frozen? ⟨gg, 1, none⟩ = false := by
  have hlt := h.lt
  have hga : v.ownBlock ≠ some gg := fun e => (h.apart e).1 rfl
  have hro : ∀ i, i < Rs.length → v.ownBlock ≠ some (Rs.getD i r0).g ∧ v.ownBlock ≠ some (Rs.getD i r0).gc := fun i hi => ⟨fun e => ((h.apart e).2 i hi).1 rfl, fun e => ((h.apart e).2 i hi).2 rfl⟩
  have hgp := h.gapart
  obtain ⟨Z, h1, h2, h3, h4, h5, h6, h7, h8⟩ := h
  have h2' := hk.has h2 hga
  have hu : Upd (fun b => v.ownBlock = some b) w w' := ⟨hb.os, hb.tape, hb.output, hk.size, fun b hb' hn => hk.block b hb' hn⟩
  have h7' := h7.upd hu (fun b hz e => h6 b e hz) (fun i hi => hro i hi)
  have hu2 := (Upd.refl (fun b => b = gg) w').setCell (p := ⟨gg, 1, none⟩) (.inl rfl) v'
  have hvg : ∀ b, v'.ownBlock = some b → b ≠ gg := fun b e e2 => by
    obtain ⟨C, hC⟩ := own_type ho e
    rw [e2] at hC
    exact other_type h2' hC (by decide)
  refine ⟨⟨Z, fun b hz => ⟨(h1 b hz).1, Nat.lt_of_lt_of_le (h1 b hz).2 (Nat.le_trans hk.size hu2.size)⟩, ?_, h3, own_ptrs (hu2.keep.own ho.ptrs fun b e => hvg b e), h5, fun b e hz => ?_, h7'.upd hu2 (fun b hz e => h5 (e ▸ hz)) (fun i hi => hgp i hi), h8⟩, h2'.cell 1 _ rfl, h2'.free 1⟩
  · have := h2'.set 1 v'
    simpa using this
  · by_cases e2 : v.ownBlock = some b
    · exact h6 b e2 hz
    · exact hd b (h1 b hz).2 e2 e
end
end Go.Proofs.YtoeggiplcaegoaaGreatDoor
