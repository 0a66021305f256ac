/- api.At and api.Within: the places of an error's faults. -/
import Derived.Test.YtmclmhdlnlcafaaDoorErfA
namespace Go.Proofs.YtmclmhdlnlcafaaDoor.F
open Go.RowKit

theorem Handle.keep {w w' : World} (h : Handle w) (hb : Below w.heap.size w w') : Handle w' := (hb.cell (p := ⟨8, 0, none⟩) (World.block_lt_of_cell? _ _ h)).trans h
theorem cell_setCell (w : World) (a : Addr) (v u : Value) (h : w.cell? a = some u) : (w.setCell a v).cell? a = some v := World.cell?_setCell_same' w a v (by rw [h]; rfl)

set_option maxRecDepth 100000 in
theorem at_any (sa : Nat → Addr) (w : World) (hg : Handle w) (e : Value) (ps : List Int) (c : Nat) (he : ErrV sa w e ps c) :
    Calls Tryd.prog 36 #[e] w fun r w' => r = .returned (.int .i64 (ps.headD (-1))) ∧ Below w.heap.size w w' := by
  have hg1 : Handle (w.alloc (.cells #[.pointer none] 99)) := hg.keep ((Below.refl _ _).alloc (Nat.le_refl _) _)
  rcases he with ⟨rfl, rfl, rfl⟩ | he
  · go_enter Tryd.func36, Tryd.ntmps36
    go_wp2
    go_ret
    exact ⟨rfl, (Below.refl _ _).alloc (Nat.le_refl _) _⟩
  · cases he with
    | sent k hk =>
      have HM := Lib.hid (as_miss (sa k) ⟨w.heap.size, 0, none⟩ _ hg1)
      clear hg hg1
      go_enter Tryd.func36, Tryd.ntmps36
      go_wp2_with (go_at_call 70; refine HM.out.mono ?_; rintro e w2 ⟨rfl, hw⟩; have hb2 : Below w.heap.size w w2 := (by rw [← hw]; go_grown); clear hw)
      go_ret
      exact ⟨rfl, hb2⟩
    | fault b off at_ e' qs _ h0 h1 h =>
      have hlt : b < w.heap.size := World.block_lt_of_cell? w ⟨b, off, none⟩ h0
      have HM := Lib.hid (as_hit ⟨b, off, none⟩ ⟨w.heap.size, 0, none⟩ (.pointer none) _ hg1 (by simp) (by simp))
      have H0 := Lib.hid h0
      clear hg hg1 h h1 h0
      go_enter Tryd.func36, Tryd.ntmps36
      go_wp2_with (go_at_call 70; refine HM.out.mono ?_; rintro e w2 ⟨rfl, hw⟩; have hb2 : Below w.heap.size w w2 := (by rw [← hw]; go_grown); have hct : w2.cell? ⟨w.heap.size, 0, none⟩ = some (.pointer (some ⟨b, off, none⟩)) := (by rw [← hw]; exact cell_setCell _ _ _ (.pointer none) (by rw [World.cell?_alloc_lt _ _ ⟨w.heap.size, 0, none⟩ (by simp; omega), World.cell?_alloc_lt _ _ ⟨w.heap.size, 0, none⟩ (by simp; omega), World.cell?_alloc_lt _ _ ⟨w.heap.size, 0, none⟩ (by simp; omega), World.cell?_alloc_lt _ _ ⟨w.heap.size, 0, none⟩ (by simp)]; simp)); have hc0 : w2.cell? ⟨b, off, none⟩ = some (.int .i64 at_) := (hb2.cell (p := ⟨b, off, none⟩) hlt).trans H0.out; clear hw)
      go_ret
      exact ⟨rfl, hb2⟩
end Go.Proofs.YtmclmhdlnlcafaaDoor.F
