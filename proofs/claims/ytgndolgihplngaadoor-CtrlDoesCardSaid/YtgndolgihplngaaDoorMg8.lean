/- Texts put together: ScrW, ScrX, PlcA, PlcB, PlcM, CtlM, PlcR, PlcS, PlcT, RfB. -/
import Derived.Test.YtgndolgihplngaaDoorScrQ
import Derived.Test.YtgndolgihplngaaDoorMg1
import Derived.Test.YtgndolgihplngaaDoorMg3
import Derived.Test.YtgndolgihplngaaDoorMg7
import Derived.Test.YtgndolgihplngaaDoorRowP
import Derived.Test.YtgndolgihplngaaDoorMg4
import Derived.Test.YtgndolgihplngaaDoorCursorC
import Derived.Test.YtgndolgihplngaaDoorScrP
/- The works of layer 33. -/
namespace Go.Proofs.YtgndolgihplngaaDoor
open Go.RowKit Go.ChangeShapes Go.WideShapes
end Go.Proofs.YtgndolgihplngaaDoor
/- Moved rows, whatever is asked (33): the reference's Move, and do on a grid. -/
namespace Go.Proofs.YtgndolgihplngaaDoor
open Go.RowKit Go.ChangeShapes Go.WideShapes
/-- What is moved, if anything is. -/
def mvd (Ls : List Ln) (a b k : Int) (up : Bool) : List Ln := if heldK Ls.length a b k < 1 then Ls else moveL Ls (heldF Ls.length a) (heldF Ls.length b) (heldK Ls.length a b k).toNat up
theorem mvd_len (Ls : List Ln) (a b k : Int) (up : Bool) : (mvd Ls a b k up).length = Ls.length := by
  unfold mvd
  split
  · rfl
  · simp [moveL]
theorem rmove_all (v : Value) (Z : Zone) (Ls : List Ln) (a b k : Int) (up : Bool) (w : World) (hv : HeldE lineE Z w v Ls) (hZ : ∀ b, Z b → b < w.heap.size) (hl : Ls.length ≤ 1000) (hLW : ∀ i, i < Ls.length → (Ls.getD i zl).1.length ≤ 1024) : Calls Tryd.prog 95 #[v, .int .i64 a, .int .i64 b, .int .i64 k, .bool up] w (fun e w' => ∃ v', e = .returned v' ∧ HeldE lineE (fun b => Z b ∨ (w.heap.size ≤ b ∧ b < w'.heap.size)) w' v' (mvd Ls a b k up) ∧ Below w.heap.size w w') := by
  by_cases hk : heldK Ls.length a b k < 1
  · refine (rmove_none v Z Ls a b k up w hv hl hk).mono ?_
    rintro e w' ⟨rfl, hb⟩
    refine ⟨v, rfl, ?_, hb⟩
    unfold mvd
    rw [if_pos hk]
    exact (hv.below hb).zone fun _ _ h => .inl h
  · have hq : heldK Ls.length a b k = (((heldK Ls.length a b k).toNat : Nat) : Int) := by omega
    have h0 : 0 < (heldK Ls.length a b k).toNat := by omega
    have hm : Calls Tryd.prog 95 #[v, .int .i64 a, .int .i64 b, .int .i64 k, .bool up] w (MadeE lineE (fun b => Z b ∨ w.heap.size ≤ b) 56 w (moveL Ls (heldF Ls.length a) (heldF Ls.length b) (heldK Ls.length a b k).toNat up)) := by
      cases up with
      | true => exact rmove_up v Z Ls a b k _ _ _ w hv hZ hl hLW rfl rfl hq h0
      | false => exact rmove_down v Z Ls a b k _ _ _ w hv hZ hl hLW rfl rfl hq h0
    refine hm.mono ?_
    rintro e w' ⟨v', rfl, ho, hb⟩
    refine ⟨v', rfl, ?_, hb⟩
    unfold mvd
    rw [if_neg hk]
    exact ((ho.zone (Y := fun b => Z b ∨ (w.heap.size ≤ b ∧ b < w'.heap.size)) (fun b hb h => by rcases h with h | h; exact .inl h; exact .inr ⟨h, hb⟩)).held (fun b h1 h2 => .inr ⟨h1, h2⟩))
/-- Each row of the new grid is one of the old, or new. -/
def RowsFrom (w : World) (Rs Rs' : List Rw) : Prop := ∀ i, i < Rs'.length → (∃ j, j < Rs.length ∧ (Rs'.getD i r0).g = (Rs.getD j r0).g ∧ (Rs'.getD i r0).gc = (Rs.getD j r0).gc) ∨ (w.heap.size ≤ (Rs'.getD i r0).g ∧ w.heap.size ≤ (Rs'.getD i r0).gc)
theorem RowsFrom.off {w : World} {Rs Rs' : List Rw} (h : RowsFrom w Rs Rs') (k : Nat) : RowsFrom w Rs (offAt Rs' k) := by
  intro i hi
  unfold offAt at hi ⊢
  rw [List.length_set] at hi
  by_cases e : k < Rs'.length
  · rw [getD_setI _ _ _ _ _ e]
    by_cases e2 : i = k
    · subst e2; rw [if_pos rfl]; exact h i hi
    · rw [if_neg e2]; exact h i hi
  · rw [List.set_eq_of_length_le (by omega)]; exact h i hi
theorem up_from {w : World} {Rs Ns : List Rw} {f t q : Nat} (hf : f < t) (ht : t ≤ Rs.length) (hq : q ≤ t - f) (hn : Ns.length = q) (hns : ∀ i, i < Ns.length → w.heap.size ≤ (Ns.getD i r0).g ∧ w.heap.size ≤ (Ns.getD i r0).gc) : RowsFrom w Rs (Rs.take f ++ upMid Rs Ns f t q ++ Rs.drop (f + (upMid Rs Ns f t q).length)) := by
  intro i hi
  have hml := upMid_len (Rs := Rs) (Ns := Ns) (f := f) (t := t) (q := q) (by omega) ht hq hn
  have hil : i < Rs.length := by rw [List.length_append, List.length_append, List.length_take, List.length_drop, hml] at hi; omega
  rw [mid_at _ hml (by omega) ht]
  split
  · exact .inl ⟨i, hil, rfl, rfl⟩
  · split
    · rw [up_at (by omega) ht hq hn _ (by omega)]
      split
      · exact .inl ⟨_, by omega, rfl, rfl⟩
      · exact .inr (hns _ (by omega))
    · exact .inl ⟨i, hil, rfl, rfl⟩
/-- What Up and Down leave. -/
def Moved (w : World) (B gg gr wd : Nat) (Rs : List Rw) (Ls' : List Ln) (e : Ending) (w' : World) : Prop := e = .returned (.tuple #[]) ∧ ∃ Rs', GridAt w' B gg gr wd Rs' ∧ Rs'.map lineOf = Ls' ∧ Upd (GridB w gr Rs) w w' ∧ RowsFrom w Rs Rs'
theorem map_len {Rs : List Rw} {Ls : List Ln} (h : Rs.map lineOf = Ls) : Rs.length = Ls.length := by rw [← h]; simp
theorem RowsFrom.self (w : World) (Rs : List Rw) : RowsFrom w Rs Rs := fun i hi => .inl ⟨i, hi, rfl, rfl⟩
theorem scup_all (B gg gr wd : Nat) (Rs : List Rw) (Ls : List Ln) (a b k : Int) (w : World) (h : GridAt w B gg gr wd Rs) (hL : Rs.map lineOf = Ls) : Calls Tryd.prog 88 #[.pointer (some ⟨gg, 0, none⟩), .int .i64 a, .int .i64 b, .int .i64 k] w (Moved w B gg gr wd Rs (mvd Ls a b k true)) := by
  have hll := map_len hL
  have hsz := h.sizes
  by_cases hk : heldK Ls.length a b k < 1
  · refine (scup_raw _ Ls.length (by omega) a b k w (by rw [← hll]; exact ghigh_any B gg gr wd Rs w h) hk).mono ?_
    rintro e w' ⟨rfl, rfl⟩
    refine ⟨rfl, Rs, h, ?_, .refl _ _, .self _ _⟩
    unfold mvd
    rw [if_pos hk, hL]
  · have hq : heldK Ls.length a b k = (((heldK Ls.length a b k).toNat : Nat) : Int) := by omega
    have h0 : 0 < (heldK Ls.length a b k).toNat := by omega
    have hfl := heldF_le Ls.length b
    have hkk : heldK Ls.length a b k ≤ (heldF Ls.length b : Int) - heldF Ls.length a := by unfold heldK; omega
    refine (scup_good B gg gr wd (heldF Ls.length a) (heldF Ls.length b) (heldK Ls.length a b k).toNat Rs a b k w h (by rw [hll]) (by rw [hll]) (by rw [hll]; exact hq) h0).mono ?_
    rintro e w' ⟨rfl, Ns, ⟨hm, hns⟩, hg, hu⟩
    refine ⟨rfl, _, hg, ?_, hu, ?_⟩
    · unfold mvd
      rw [if_neg hk]
      exact up_lines hL (by omega) (by omega) (by omega) hm (fun i hi => hsz.2.2.2.2 i hi)
    · have hr := up_from (w := w) (f := heldF Ls.length a) (t := heldF Ls.length b) (q := (heldK Ls.length a b k).toNat) (Rs := Rs) (by omega) (by omega) (by omega) (lines_wide hm).1 hns
      split
      · exact hr
      · exact hr.off _
/-- Zones apart from a grid's blocks. -/
def OffG (Z : Zone) (gg gr : Nat) (Rs : List Rw) : Prop := ∀ b, Z b → b ≠ gg ∧ b ≠ gr ∧ ∀ i, i < Rs.length → b ≠ (Rs.getD i r0).g ∧ b ≠ (Rs.getD i r0).gc
theorem OffG.from {Z : Zone} {gg gr : Nat} {Rs Rs' : List Rw} {w : World} (h : OffG Z gg gr Rs) (hz : ∀ b, Z b → b < w.heap.size) (hr : RowsFrom w Rs Rs') : OffG Z gg gr Rs' := fun b hb => by
  obtain ⟨h1, h2, h3⟩ := h b hb
  refine ⟨h1, h2, fun i hi => ?_⟩
  have hlt := hz b hb
  rcases hr i hi with ⟨j, hj, e1, e2⟩ | ⟨e1, e2⟩
  · rw [e1, e2]; exact h3 j hj
  · omega
theorem OffG.not {Z : Zone} {gg gr : Nat} {Rs : List Rw} {w : World} (h : OffG Z gg gr Rs) (hz : ∀ b, Z b → b < w.heap.size) (b : Nat) (hb : Z b) : ¬ GridB w gr Rs b := by
  obtain ⟨h1, h2, h3⟩ := h b hb
  have hlt := hz b hb
  rintro (e | ⟨i, hi, e⟩ | e)
  · exact h2 e
  · rcases e with e | e
    · exact (h3 i hi).1 e
    · exact (h3 i hi).2 e
  · omega
end Go.Proofs.YtgndolgihplngaaDoor
/- Grids keep off a block that has no text; a pen's block. -/
namespace Go.Proofs.YtgndolgihplngaaDoor
open Go.RowKit Go.ChangeShapes Go.WideShapes
def NoTx (w : World) (g : Nat) : Prop := ∀ o x, w.cell? ⟨g, o, none⟩ ≠ some (.int .i32 x)
theorem text_off {Z : Zone} {w : World} {v : Value} {xs : List Int} {g : Nat} (h : HeldE (intE .i32) Z w v xs) (hg : NoTx w g) : HeldE (intE .i32) (fun b => Z b ∧ b ≠ g) w v xs := by
  obtain ⟨ao, cap, rfl, hl, hm, hn, hc⟩ := h
  refine ⟨ao, cap, rfl, hl, hm, hn, fun i hi => ?_⟩
  obtain ⟨b, off, rfl, hb, hz, C, hC, hr⟩ := hc i hi
  have hr' : C = [.int .i32 (xs.getD i 0)] := hr
  refine ⟨b, off, rfl, hb, ⟨hz, fun e => ?_⟩, C, hC, hr⟩
  subst e
  have h0 := hC 0 (by decide)
  rw [hr'] at h0
  exact hg _ _ h0
theorem row_off {Z : Zone} {w : World} {B g gc gp : Nat} {L : List Cl} {wrap : Bool} (h : RowAt Z w B g gc L wrap) (hg : NoTx w gp) : RowAt (fun b => Z b ∧ b ≠ gp) w B g gc L wrap := by
  obtain ⟨cap, h1, h2, h3, ⟨CS, k1, k2, k3⟩, h5⟩ := h
  refine ⟨cap, h1, h2, h3, ⟨CS, k1, k2, fun i hi => ?_⟩, h5⟩
  obtain ⟨tv, e, ht⟩ := cell_rep.1 (k3 i hi)
  exact cell_rep.2 ⟨tv, e, (text_off ht hg).zone fun b _ hz => ⟨⟨⟨hz.1.1.1, hz.2⟩, hz.1.1.2⟩, hz.1.2⟩⟩
theorem rows_off {Z : Zone} {w : World} {B gp : Nat} {Rs : List Rw} (h : RowsAt Z w B Rs) (hg : NoTx w gp) : RowsAt (fun b => Z b ∧ b ≠ gp) w B Rs :=
  ⟨fun i hi => row_off (h.row i hi) hg, fun i hi => ⟨fun hz => (h.out i hi).1 hz.1, fun hz => (h.out i hi).2 hz.1⟩, h.apart⟩
theorem GridAt.off {w : World} {B gg gr wd gp : Nat} {Rs : List Rw} (h : GridAt w B gg gr wd Rs) (hg : NoTx w gp) : ∃ (Z : Zone) (cap : Nat), (∀ b, Z b → B ≤ b ∧ b < w.heap.size ∧ b ≠ gp) ∧ Has w gg [.int .i64 wd, .slice (some ⟨gr, 0, none⟩) Rs.length cap] 85 ∧ B ≤ gg ∧ OwnE ptrE (fun _ => True) w B 74 (.slice (some ⟨gr, 0, none⟩) Rs.length cap) (ptrs Rs) ∧ ¬ Z gg ∧ ¬ Z gr ∧ RowsAt Z w B Rs ∧ (∀ i, i < Rs.length → (Rs.getD i r0).L.length = wd) ∧ 0 < Rs.length ∧ Rs.length ≤ 1024 := by
  obtain ⟨Z, cap, h1, h2, h3, h4, h5, h6, h7, h8⟩ := h
  exact ⟨fun b => Z b ∧ b ≠ gp, cap, fun b hz => ⟨(h1 b hz.1).1, (h1 b hz.1).2, hz.2⟩, h2, h3, h4, fun hz => h5 hz.1, fun hz => h6 hz.1, rows_off h7 hg, h8⟩
/-- A block of another type is none of the grid's. -/
theorem GridAt.other {w : World} {B gg gr wd g : Nat} {Rs : List Rw} (h : GridAt w B gg gr wd Rs) {C : List Value} {t : TypeId} (hg : Has w g C t) (t1 : t ≠ 85) (t2 : t ≠ 74) (t3 : t ≠ 118) (t4 : t ≠ 73) : g ≠ gg ∧ g ≠ gr ∧ ∀ i, i < Rs.length → g ≠ (Rs.getD i r0).g ∧ g ≠ (Rs.getD i r0).gc := by
  obtain ⟨Z, cap, h1, h2, h3, h4, h5, h6, h7, h8⟩ := h
  obtain ⟨D, hD⟩ := own_type h4 (b := gr) rfl
  refine ⟨fun e => by subst e; exact other_type hg h2 t1, fun e => by subst e; exact other_type hg hD t2, fun i hi => ?_⟩
  obtain ⟨⟨D, hD⟩, D', hD'⟩ := (h7.row i hi).types
  exact ⟨fun e => by subst e; exact other_type hg hD t3, fun e => by subst e; exact other_type hg hD' t4⟩
/-- A write to a block that has no text and is none of the grid's leaves the grid. -/
theorem GridAt.pen {w w' : World} {B gg gr wd gp : Nat} {Rs : List Rw} (h : GridAt w B gg gr wd Rs) (hg : NoTx w gp) (ho : gp ≠ gg ∧ gp ≠ gr ∧ ∀ i, i < Rs.length → gp ≠ (Rs.getD i r0).g ∧ gp ≠ (Rs.getD i r0).gc) (hu : Upd (fun b => b = gp) w w') : GridAt w' B gg gr wd Rs := by
  obtain ⟨Z, cap, h1, h2, h3, h4, h5, h6, h7, h8⟩ := h.off hg
  have hk := hu.keep
  refine ⟨Z, cap, fun b hz => ⟨(h1 b hz).1, Nat.lt_of_lt_of_le (h1 b hz).2.1 hu.size⟩, hk.has h2 (fun e => ho.1 e.symm), h3, ?_, h5, h6, h7.upd hu (fun b hz e => (h1 b hz).2.2 e) (fun i hi => ⟨fun e => (ho.2.2 i hi).1 e.symm, fun e => (ho.2.2 i hi).2 e.symm⟩), h8⟩
  exact own_ptrs (hk.own h4.ptrs fun b hb e => by
    have : gr = b := by simpa [Value.ownBlock] using hb
    exact ho.2.1 (by rw [this]; exact e.symm))
end Go.Proofs.YtgndolgihplngaaDoor
/- The pen in the world, and what its steps leave. -/
namespace Go.Proofs.YtgndolgihplngaaDoor
open Go.RowKit Go.ChangeShapes Go.WideShapes
/-- A pen at block gp, over a grid with the lines Ls. -/
def PenAt (w : World) (B gp gg gr wd : Nat) (Rs : List Rw) (Ls : List Ln) (r c : Int) (pd au : Bool) : Prop :=
  Has w gp [.pointer (some ⟨gg, 0, none⟩), .int .i64 r, .int .i64 c, .bool pd, .bool au] 38 ∧ B ≤ gp ∧ GridAt w B gg gr wd Rs ∧ Rs.map lineOf = Ls
/-- The blocks that a pen may write. -/
def PZ (w : World) (gp gr : Nat) (Rs : List Rw) (b : Nat) : Prop := b = gp ∨ GridB w gr Rs b
theorem RowsFrom.trans {w w1 : World} {Rs R1 R2 : List Rw} (h : RowsFrom w Rs R1) (k : RowsFrom w1 R1 R2) (hs : w.heap.size ≤ w1.heap.size) : RowsFrom w Rs R2 := fun i hi => by
  rcases k i hi with ⟨j, hj, e1, e2⟩ | ⟨e1, e2⟩
  · rcases h j hj with ⟨q, hq, f1, f2⟩ | ⟨f1, f2⟩
    · exact .inl ⟨q, hq, e1.trans f1, e2.trans f2⟩
    · exact .inr ⟨by omega, by omega⟩
  · exact .inr ⟨by omega, by omega⟩
theorem PZ.from {w w1 : World} {gp gr : Nat} {Rs R1 : List Rw} (h : RowsFrom w Rs R1) (hs : w.heap.size ≤ w1.heap.size) (b : Nat) (hb : PZ w1 gp gr R1 b) : PZ w gp gr Rs b := by
  rcases hb with e | e | ⟨i, hi, e⟩ | e
  · exact .inl e
  · exact .inr (.inl e)
  · rcases h i hi with ⟨q, hq, f1, f2⟩ | ⟨f1, f2⟩
    · exact .inr (.inr (.inl ⟨q, hq, by rcases e with e | e; exact .inl (e.trans f1); exact .inr (e.trans f2)⟩))
    · exact .inr (.inr (.inr (by rcases e with e | e <;> omega)))
  · exact .inr (.inr (.inr (by omega)))
section
variable {w w1 w2 : World} {B gp gg gr wd : Nat} {Rs R1 : List Rw} {Ls : List Ln} {r c : Int} {pd au : Bool}
theorem PenAt.notx (h : PenAt w B gp gg gr wd Rs Ls r c pd au) : NoTx w gp := fun o x e => by
  rw [cell_of_row w gp o _ _ (0, 0) h.1] at e
  match o with
  | 0 => simp at e
  | 1 => simp at e
  | 2 => simp at e
  | 3 => simp at e
  | 4 => simp at e
  | o + 5 => simp at e
theorem PenAt.other (h : PenAt w B gp gg gr wd Rs Ls r c pd au) : gp ≠ gg ∧ gp ≠ gr ∧ ∀ i, i < Rs.length → gp ≠ (Rs.getD i r0).g ∧ gp ≠ (Rs.getD i r0).gc := h.2.2.1.other h.1 (by decide) (by decide) (by decide) (by decide)
theorem PenAt.lt (h : PenAt w B gp gg gr wd Rs Ls r c pd au) : gp < w.heap.size := h.1.lt
/-- The pen's own block was turned. -/
theorem PenAt.turn (h : PenAt w B gp gg gr wd Rs Ls r c pd au) {r' c' : Int} {pd' au' : Bool} (hh : Has w1 gp [.pointer (some ⟨gg, 0, none⟩), .int .i64 r', .int .i64 c', .bool pd', .bool au'] 38) (hu : Upd (fun b => b = gp) w w1) : PenAt w1 B gp gg gr wd Rs Ls r' c' pd' au' :=
  ⟨hh, h.2.1, h.2.2.1.pen h.notx h.other hu, h.2.2.2⟩
theorem PenAt.off (h : PenAt w B gp gg gr wd Rs Ls r c pd au) : ¬ GridB w gr Rs gp := fun e => by
  have ho := h.other
  have hl := h.lt
  rcases e with e | ⟨i, hi, e⟩ | e
  · exact ho.2.1 e
  · rcases e with e | e
    · exact (ho.2.2 i hi).1 e
    · exact (ho.2.2 i hi).2 e
  · omega
/-- The grid was turned. -/
theorem PenAt.grid (h : PenAt w B gp gg gr wd Rs Ls r c pd au) {Ls' : List Ln} (hg : GridAt w1 B gg gr wd R1) (hm : R1.map lineOf = Ls') (hu : Upd (GridB w gr Rs) w w1) : PenAt w1 B gp gg gr wd R1 Ls' r c pd au :=
  ⟨hu.keep.has h.1 h.off, h.2.1, hg, hm⟩
theorem PenAt.below (h : PenAt w B gp gg gr wd Rs Ls r c pd au) (hb : Below w.heap.size w w1) : PenAt w1 B gp gg gr wd Rs Ls r c pd au := ⟨h.1.below hb h.lt, h.2.1, h.2.2.1.below hb, h.2.2.2⟩
/-- What a step leaves. -/
def PDo (w : World) (B gp gg gr wd : Nat) (Rs : List Rw) (Ls' : List Ln) (r c : Int) (pd au : Bool) (w1 : World) : Prop := ∃ R1, PenAt w1 B gp gg gr wd R1 Ls' r c pd au ∧ Upd (PZ w gp gr Rs) w w1 ∧ RowsFrom w Rs R1
theorem PDo.trans {L2 : List Ln} {r2 c2 : Int} {pd2 au2 : Bool} (hu : Upd (PZ w gp gr Rs) w w1) (hf : RowsFrom w Rs R1) (k : PDo w1 B gp gg gr wd R1 L2 r2 c2 pd2 au2 w2) : PDo w B gp gg gr wd Rs L2 r2 c2 pd2 au2 w2 := by
  obtain ⟨R2, h1, h2, h3⟩ := k
  exact ⟨R2, h1, hu.trans (h2.mono fun b _ hb => PZ.from hf hu.size b hb), hf.trans h3 hu.size⟩
theorem PDo.turn (h : PenAt w B gp gg gr wd Rs Ls r c pd au) {r' c' : Int} {pd' au' : Bool} (hh : Has w1 gp [.pointer (some ⟨gg, 0, none⟩), .int .i64 r', .int .i64 c', .bool pd', .bool au'] 38) (hu : Upd (fun b => b = gp) w w1) : PDo w B gp gg gr wd Rs Ls r' c' pd' au' w1 :=
  ⟨Rs, h.turn hh hu, hu.mono fun b _ e => .inl e, RowsFrom.self _ _⟩
theorem PDo.grid (h : PenAt w B gp gg gr wd Rs Ls r c pd au) {Ls' : List Ln} (hg : GridAt w1 B gg gr wd R1) (hm : R1.map lineOf = Ls') (hu : Upd (GridB w gr Rs) w w1) (hf : RowsFrom w Rs R1) : PDo w B gp gg gr wd Rs Ls' r c pd au w1 :=
  ⟨R1, h.grid hg hm hu, hu.mono fun b _ e => .inr e, hf⟩
theorem PDo.below (h : PenAt w B gp gg gr wd Rs Ls r c pd au) (hb : Below w.heap.size w w1) : PDo w B gp gg gr wd Rs Ls r c pd au w1 := ⟨Rs, h.below hb, .ofBelow hb, RowsFrom.self _ _⟩
/-- The sizes and the cells of a pen's grid. -/
theorem PenAt.sizes (h : PenAt w B gp gg gr wd Rs Ls r c pd au) : 0 < Ls.length ∧ Ls.length ≤ 1024 ∧ 0 < wd ∧ wd ≤ 1024 ∧ Rs.length = Ls.length ∧ ∀ i, i < Ls.length → (Ls.getD i zl).1.length = wd := by
  have hs := h.2.2.1.sizes
  have hl := map_len h.2.2.2
  refine ⟨by omega, by omega, hs.2.2.1, hs.2.2.2.1, hl, fun i hi => ?_⟩
  rw [← lines_at_i h.2.2.2 i (by omega)]
  exact hs.2.2.2.2 i (by omega)
theorem set_lines {Rs : List Rw} {Ls : List Ln} (h : Rs.map lineOf = Ls) (i g gc : Nat) (L : List Cl) (b : Bool) : (Rs.set i ⟨g, gc, L, b⟩).map lineOf = Ls.set i (L, b) := by rw [List.map_set, h]; rfl
theorem rows_set {w : World} (Rs : List Rw) (i : Nat) (L : List Cl) (b : Bool) : RowsFrom w Rs (Rs.set i ⟨(Rs.getD i r0).g, (Rs.getD i r0).gc, L, b⟩) := fun j hj => by
  rw [List.length_set] at hj
  refine .inl ⟨j, hj, ?_⟩
  by_cases e : j = i
  · subst e; rw [getD_setI _ _ _ _ _ hj, if_pos rfl]; exact ⟨rfl, rfl⟩
  · rw [show (Rs.set i (⟨(Rs.getD i r0).g, (Rs.getD i r0).gc, L, b⟩ : Rw)).getD j r0 = Rs.getD j r0 from by simp [List.getD, List.getElem?_set_ne (Ne.symm e)]]; exact ⟨rfl, rfl⟩
/-- A call that paints a row of the grid. -/
theorem GridAt.painted {i : Nat} {L : List Cl} {b : Bool} {f : FuncId} {args : Array Value} (h : GridAt w B gg gr wd Rs) (hi : i < Rs.length) (hl : L.length = wd) (hc : ∀ Z : Zone, (∀ b, w.heap.size ≤ b → Z b) → RowAt Z w B (Rs.getD i r0).g (Rs.getD i r0).gc (Rs.getD i r0).L (Rs.getD i r0).wrap → Calls Tryd.prog f args w (PaintOk Z B (Rs.getD i r0).g (Rs.getD i r0).gc w L b)) :
    Calls Tryd.prog f args w (fun e w1 => e = .returned .nilIface ∧ GridAt w1 B gg gr wd (Rs.set i ⟨(Rs.getD i r0).g, (Rs.getD i r0).gc, L, b⟩) ∧ Upd (fun x => x = (Rs.getD i r0).g ∨ x = (Rs.getD i r0).gc) w w1) := by
  obtain ⟨cap', hp⟩ := h.part
  have hap := hp.apart (b := gr) rfl
  have hgp := hp.gapart
  have hlt := h.lt
  obtain ⟨Z, cap, h1, h2, h3, h4, h5, h6, h7, h8, h9, h10⟩ := h
  have hri := hlt.2.2.2.2.2 i hi
  refine (hc (fun b => Z b ∨ w.heap.size ≤ b) (fun b hb => .inr hb) ((h7.row i hi).keep (.refl _ _) fun b _ hz => .inl hz)).mono ?_
  rintro e w1 ⟨rfl, hr1, hu⟩
  refine ⟨rfl, ?_, hu⟩
  refine ⟨fun b => Z b ∨ (w.heap.size ≤ b ∧ b < w1.heap.size), cap, fun b hz => by have := hu.size; rcases hz with hz | hz; have := h1 b hz; omega; omega, ?_, h3, ?_, ?_, ?_, ?_, fun j hj => ?_, by rw [List.length_set]; exact h9, by rw [List.length_set]; exact h10⟩
  · rw [List.length_set]
    exact hu.keep.has h2 (fun e => by rcases e with e | e; exact (hgp i hi).1 e.symm; exact (hgp i hi).2 e.symm)
  · have he : ptrs (Rs.set i ⟨(Rs.getD i r0).g, (Rs.getD i r0).gc, L, b⟩) = ptrs Rs := by
      unfold ptrs
      rw [List.map_set]
      apply List.ext_getElem?
      intro j
      by_cases e : j = i
      · subst e
        rw [List.getElem?_set_self (by rw [List.length_map]; exact hi)]
        simp [List.getD, List.getElem?_eq_getElem hi]
      · rw [List.getElem?_set_ne (Ne.symm e)]
    rw [he, List.length_set]
    exact own_ptrs (hu.keep.own h4.ptrs fun b hb e => by
      have : gr = b := by simpa [Value.ownBlock] using hb
      subst this
      rcases e with e | e
      · exact (hap.2 i hi).1 e.symm
      · exact (hap.2 i hi).2 e.symm)
  · rintro (hz | hz)
    · exact h5 hz
    · have := hlt.2.1; omega
  · rintro (hz | hz)
    · exact h6 hz
    · have := hlt.2.2.2.1; omega
  · have hz1 : RowAt (fun b => Z b ∨ (w.heap.size ≤ b ∧ b < w1.heap.size)) w1 B (Rs.getD i r0).g (Rs.getD i r0).gc L b := hr1.keep (.refl _ _) fun b hb hz => by rcases hz with hz | hz; exact .inl hz; exact .inr ⟨hz, hb⟩
    refine h7.put hi hz1 ⟨fun hz => by rcases hz with hz | hz; exact (h7.out i hi).1 hz; omega, fun hz => by rcases hz with hz | hz; exact (h7.out i hi).2 hz; omega⟩ (fun j hj hne => ((h7.row j hj).upd hu (fun b hz e => by rcases e with e | e; exact (h7.out i hi).1 (e ▸ hz); exact (h7.out i hi).2 (e ▸ hz)) (fun e => by rcases e with e | e; exact (h7.apart j i hj hi hne).1 e; exact h7.cross j i hj hi e) (fun e => by rcases e with e | e; exact h7.cross i j hi hj e.symm; exact (h7.apart j i hj hi hne).2 e)).keep (.refl _ _) fun b _ hz => .inl hz) (fun j hj hne => ?_) (fun j hj hne => h7.apart i j hi hj (Ne.symm hne)) h7.apart
    have hrj := hlt.2.2.2.2.2 j hj
    exact ⟨fun hz => by rcases hz with hz | hz; exact (h7.out j hj).1 hz; omega, fun hz => by rcases hz with hz | hz; exact (h7.out j hj).2 hz; omega⟩
  · rw [List.length_set] at hj
    rw [getD_setI _ _ _ _ _ hi]
    by_cases e : j = i
    · rw [if_pos e]; exact hl
    · rw [if_neg e]; exact h8 j hj
end
end Go.Proofs.YtgndolgihplngaaDoor
/- What a pen's steps make of lines. Of no program's code. -/
namespace Go.Proofs.YtgndolgihplngaaDoor
open Go.RowKit Go.ChangeShapes Go.WideShapes
/-- Lines of one width. -/
def Even (Ls : List Ln) (wd : Nat) : Prop := 0 < Ls.length ∧ Ls.length ≤ 1000 ∧ 0 < wd ∧ wd ≤ 1024 ∧ ∀ i, i < Ls.length → (Ls.getD i zl).1.length = wd
theorem Even.short {Ls : List Ln} {wd : Nat} (h : Even Ls wd) : ∀ i, i < Ls.length → (Ls.getD i zl).1.length ≤ 1024 := fun i hi => by have := h.2.2.2.2 i hi; have := h.2.2.2.1; omega
theorem Even.set {Ls : List Ln} {wd : Nat} (h : Even Ls wd) (i : Nat) {x : Ln} (hx : x.1.length = wd) : Even (Ls.set i x) wd := by
  refine ⟨by rw [List.length_set]; exact h.1, by rw [List.length_set]; exact h.2.1, h.2.2.1, h.2.2.2.1, fun j hj => ?_⟩
  rw [List.length_set] at hj
  by_cases e : j = i
  · subst e; rw [getD_setI _ _ _ _ _ hj, if_pos rfl]; exact hx
  · rw [show (Ls.set i x).getD j zl = Ls.getD j zl from by simp [List.getD, List.getElem?_set_ne (Ne.symm e)]]; exact h.2.2.2.2 j hj
theorem src_len {Ls : List Ln} {wd f t q : Nat} {up : Bool} (h : Even Ls wd) (hf : f < t) (ht : t ≤ Ls.length) (i : Nat) (hi : i < Ls.length) : (srcM Ls f t q up i).1.length = wd := by
  have h5 := h.2.2.2.2
  have hz : (List.replicate (Ls.getD i zl).1.length zc).length = wd := by rw [List.length_replicate]; exact h5 i hi
  unfold srcM
  repeat' split
  all_goals first
    | exact h5 _ (by omega)
    | (simp only [List.length_replicate]; exact h5 _ (by omega))
theorem Even.mvd {Ls : List Ln} {wd : Nat} (h : Even Ls wd) (a b k : Int) (up : Bool) : Even (mvd Ls a b k up) wd := by
  refine ⟨by rw [mvd_len]; exact h.1, by rw [mvd_len]; exact h.2.1, h.2.2.1, h.2.2.2.1, fun j hj => ?_⟩
  rw [mvd_len] at hj
  unfold Go.Proofs.YtgndolgihplngaaDoor.mvd
  split
  · exact h.2.2.2.2 j hj
  · rename_i hk
    have hh := heldF_le Ls.length b
    unfold moveL
    rw [show ((List.range Ls.length).map (entM Ls (heldF Ls.length a) (heldF Ls.length b) (heldK Ls.length a b k).toNat up)).getD j zl = entM Ls (heldF Ls.length a) (heldF Ls.length b) (heldK Ls.length a b k).toNat up j from by simp [List.getD, hj]]
    exact src_len h (by unfold heldK at hk; omega) hh j hj
/-- Down: the lines and the row. -/
def downL (Ls : List Ln) (r : Nat) : List Ln := if r + 1 < Ls.length then Ls else mvd Ls 0 Ls.length 1 true
def downR (Ls : List Ln) (r : Nat) : Nat := if r + 1 < Ls.length then r + 1 else r
def markL (Ls : List Ln) (r : Nat) : List Ln := Ls.set r ((Ls.getD r zl).1, true)
def goL (Ls : List Ln) (r : Nat) : List Ln := downL (markL Ls r) r
def pntL (Ls : List Ln) (r c : Nat) (p : List Cl) : List Ln := Ls.set r (paintL (Ls.getD r zl).1 p c, (Ls.getD r zl).2 && !lastHit (Ls.getD r zl).1 p c)
theorem mark_len (Ls : List Ln) (r : Nat) : (markL Ls r).length = Ls.length := by unfold markL; rw [List.length_set]
theorem pnt_len (Ls : List Ln) (r c : Nat) (p : List Cl) : (pntL Ls r c p).length = Ls.length := by unfold pntL; rw [List.length_set]
theorem down_len (Ls : List Ln) (r : Nat) : (downL Ls r).length = Ls.length := by unfold downL; split; rfl; rw [mvd_len]
theorem go_len (Ls : List Ln) (r : Nat) : (goL Ls r).length = Ls.length := by unfold goL; rw [down_len, mark_len]
theorem down_lt {Ls : List Ln} {r : Nat} (h : r < Ls.length) : downR Ls r < Ls.length := by unfold downR; split <;> omega
theorem Even.down {Ls : List Ln} {wd : Nat} (h : Even Ls wd) (r : Nat) : Even (downL Ls r) wd := by unfold downL; split; exact h; exact h.mvd _ _ _ _
theorem Even.mark {Ls : List Ln} {wd : Nat} (h : Even Ls wd) {r : Nat} (hr : r < Ls.length) : Even (markL Ls r) wd := h.set r (h.2.2.2.2 r hr)
theorem Even.go {Ls : List Ln} {wd : Nat} (h : Even Ls wd) {r : Nat} (hr : r < Ls.length) : Even (goL Ls r) wd := (h.mark hr).down r
/-- Put, behind Hold: the width and the text that are put; then row by row. -/
def plcK (wd : Nat) (n : Int) : Int := if (wd : Int) < max 1 (min n 2) then 1 else max 1 (min n 2)
def plcX (wd : Nat) (n : Int) (xs : List Int) : List Int := if (wd : Int) < max 1 (min n 2) then [65533] else xs
def p1L (Ls : List Ln) (r : Nat) (pd : Bool) : List Ln := if pd then goL Ls r else Ls
def p1R (Ls : List Ln) (r : Nat) (pd : Bool) : Nat := if pd then downR Ls r else r
def p1C (c : Nat) (pd : Bool) : Nat := if pd then 0 else c
/-- Room for what is 2 wide. -/
def p2L (wd : Nat) (k : Int) (Ls : List Ln) (r c : Nat) (au : Bool) : List Ln := if k = 2 ∧ c + 1 = wd then (if au then goL (pntL Ls r c [zc]) r else Ls) else Ls
def p2R (wd : Nat) (k : Int) (Ls : List Ln) (r c : Nat) (au : Bool) : Nat := if k = 2 ∧ c + 1 = wd then (if au then downR Ls r else r) else r
def p2C (wd : Nat) (k : Int) (c : Nat) (au : Bool) : Nat := if k = 2 ∧ c + 1 = wd then (if au then 0 else c - 1) else c
theorem plcK_cases (wd : Nat) (n : Int) : plcK wd n = 1 ∨ plcK wd n = 2 ∧ 2 ≤ wd := by unfold plcK; split <;> omega
theorem p1_lt {Ls : List Ln} {r : Nat} (pd : Bool) (h : r < Ls.length) : p1R Ls r pd < (p1L Ls r pd).length ∧ (p1L Ls r pd).length = Ls.length := by
  unfold p1R p1L
  cases pd
  · exact ⟨h, rfl⟩
  · exact ⟨by rw [if_pos rfl, if_pos rfl, go_len]; exact down_lt h, by rw [if_pos rfl, go_len]⟩
theorem p2_lt {wd : Nat} {k : Int} {Ls : List Ln} {r c : Nat} (au : Bool) (h : r < Ls.length) : p2R wd k Ls r c au < (p2L wd k Ls r c au).length ∧ (p2L wd k Ls r c au).length = Ls.length := by
  unfold p2R p2L
  split
  · cases au
    · exact ⟨h, rfl⟩
    · exact ⟨by rw [if_pos rfl, if_pos rfl, go_len, pnt_len]; exact down_lt h, by rw [if_pos rfl, go_len, pnt_len]⟩
  · exact ⟨h, rfl⟩
theorem p2_room {wd : Nat} {k : Int} {c : Nat} (au : Bool) (hk : k = 1 ∨ k = 2 ∧ 2 ≤ wd) (hc : c < wd) : (p2C wd k c au : Int) + k ≤ wd ∧ p2C wd k c au < wd := by
  unfold p2C
  split
  · cases au
    · rw [if_neg (by decide)]; omega
    · rw [if_pos rfl]; omega
  · omega
/-- Put as a whole: lines, row and column of the cluster. -/
def plcL (Ls : List Ln) (wd r c : Nat) (pd au : Bool) (n : Int) (xs : List Int) : List Ln :=
  pntL (p2L wd (plcK wd n) (p1L Ls r pd) (p1R Ls r pd) (p1C c pd) au) (p2R wd (plcK wd n) (p1L Ls r pd) (p1R Ls r pd) (p1C c pd) au) (p2C wd (plcK wd n) (p1C c pd) au) (ofC (plcK wd n) (plcX wd n xs))
def plcR (Ls : List Ln) (wd r c : Nat) (pd au : Bool) (n : Int) : Nat := p2R wd (plcK wd n) (p1L Ls r pd) (p1R Ls r pd) (p1C c pd) au
def plcC (wd c : Nat) (pd au : Bool) (n : Int) : Nat := p2C wd (plcK wd n) (p1C c pd) au
end Go.Proofs.YtgndolgihplngaaDoor
/- What controls make of lines and cursors. Of no program's code. -/
namespace Go.Proofs.YtgndolgihplngaaDoor
open Go.RowKit Go.ChangeShapes Go.WideShapes
def ctL (Ls : List Ln) (r2 : Nat) (k : Int) : List Ln := if k = 10 then downL Ls r2 else Ls
def ctR (Ls : List Ln) (r : Int) (r2 : Nat) (k : Int) : Int := if k = 13 ∨ k = 8 then r2 else if k = 10 then (downR Ls r2 : Nat) else r
def ctC (c : Int) (c2 : Nat) (k : Int) : Int := if k = 13 then 0 else if k = 10 then c2 else if k = 8 then ((c2 - 1 : Nat) : Int) else c
def ctP (pd : Bool) (k : Int) : Bool := if k = 13 ∨ k = 10 ∨ k = 8 then false else pd
theorem ct_13 (Ls : List Ln) (r c : Int) (r2 c2 : Nat) (pd : Bool) : ctL Ls r2 13 = Ls ∧ ctR Ls r r2 13 = r2 ∧ ctC c c2 13 = 0 ∧ ctP pd 13 = false := ⟨rfl, rfl, rfl, rfl⟩
theorem ct_10 (Ls : List Ln) (r c : Int) (r2 c2 : Nat) (pd : Bool) : ctL Ls r2 10 = downL Ls r2 ∧ ctR Ls r r2 10 = (downR Ls r2 : Nat) ∧ ctC c c2 10 = c2 ∧ ctP pd 10 = false := ⟨rfl, rfl, rfl, rfl⟩
theorem ct_8 (Ls : List Ln) (r c : Int) (r2 c2 : Nat) (pd : Bool) : ctL Ls r2 8 = Ls ∧ ctR Ls r r2 8 = r2 ∧ ctC c c2 8 = ((c2 - 1 : Nat) : Int) ∧ ctP pd 8 = false := ⟨rfl, rfl, rfl, rfl⟩
theorem ct_no (Ls : List Ln) (r c : Int) (r2 c2 : Nat) (pd : Bool) (k : Int) (h : k ≠ 13 ∧ k ≠ 10 ∧ k ≠ 8) : ctL Ls r2 k = Ls ∧ ctR Ls r r2 k = r ∧ ctC c c2 k = c ∧ ctP pd k = pd := by
  unfold ctL ctR ctC ctP
  simp [h.1, h.2.1, h.2.2]
theorem ct_len (Ls : List Ln) (r2 : Nat) (k : Int) : (ctL Ls r2 k).length = Ls.length := by unfold ctL; split; exact down_len _ _; rfl
end Go.Proofs.YtgndolgihplngaaDoor
/- The reference's pen: Wide, Hold, With. -/
namespace Go.Proofs.YtgndolgihplngaaDoor
open Go.RowKit Go.ChangeShapes Go.WideShapes
theorem pboxes (w : World) (a0 a1 a2 a3 a4 b0 b1 b2 b3 b4 : Value) : ∃ W, W = (w.alloc (.cells #[a0, a1, a2, a3, a4] 39)).alloc (.cells #[b0, b1, b2, b3, b4] 39) ∧
    Has W w.heap.size [a0, a1, a2, a3, a4] 39 ∧ Has W (w.heap.size + 1) [b0, b1, b2, b3, b4] 39 ∧ Below w.heap.size w W := by
  refine ⟨_, rfl, (Has.new w _ _).alloc _, ?_, ((Below.refl _ _).alloc (Nat.le_refl _) _).alloc (by simp) _⟩
  have := Has.new (w.alloc (.cells #[a0, a1, a2, a3, a4] 39)) [b0, b1, b2, b3, b4] 39
  simpa using this
/-- A pen's box that was turned, beside the result's. -/
theorem pturn {w W : World} {g : Nat} {p a b d e : Value} {D : List Value} (h : Has W g [p, a, b, d, e] 39) (k : Has W (g + 1) D 39) (hb : Below w.heap.size w W) (hg : w.heap.size ≤ g) (x y z : Value) : ∃ W', W' = ((W.setCell ⟨g, 1, none⟩ x).setCell ⟨g, 2, none⟩ y).setCell ⟨g, 3, none⟩ z ∧ Has W' g [p, x, y, z, e] 39 ∧ Has W' (g + 1) D 39 ∧ Below w.heap.size w W' ∧ Upd (fun b => b = g) W W' :=
  ⟨_, rfl, ((h.set 1 x).set 2 y).set 3 z, ((k.setOther ⟨g, 1, none⟩ x (by show g + 1 ≠ g; omega)).setOther ⟨g, 2, none⟩ y (by show g + 1 ≠ g; omega)).setOther ⟨g, 3, none⟩ z (by show g + 1 ≠ g; omega),
    hb.trans ((((Upd.refl (fun b => w.heap.size ≤ b) W).setCell (p := ⟨g, 1, none⟩) (.inl hg) x).setCell (p := ⟨g, 2, none⟩) (.inl hg) y).setCell (p := ⟨g, 3, none⟩) (.inl hg) z |>.below hb.size fun _ e => e), (((Upd.refl (fun b => b = g) W).setCell (p := ⟨g, 1, none⟩) (.inl rfl) x).setCell (p := ⟨g, 2, none⟩) (.inl rfl) y).setCell (p := ⟨g, 3, none⟩) (.inl rfl) z⟩
/-- The result's box was written. -/
theorem pres {w W : World} {g : Nat} (hb : Below w.heap.size w W) (hg : w.heap.size ≤ g) (a b c d e : Value) : Below w.heap.size w (((((W.setCell ⟨g, 0, none⟩ a).setCell ⟨g, 1, none⟩ b).setCell ⟨g, 2, none⟩ c).setCell ⟨g, 3, none⟩ d).setCell ⟨g, 4, none⟩ e) :=
  hb.trans ((((((Upd.refl (fun b => w.heap.size ≤ b) W).setCell (p := ⟨g, 0, none⟩) (.inl hg) a).setCell (p := ⟨g, 1, none⟩) (.inl hg) b).setCell (p := ⟨g, 2, none⟩) (.inl hg) c).setCell (p := ⟨g, 3, none⟩) (.inl hg) d).setCell (p := ⟨g, 4, none⟩) (.inl hg) e |>.below hb.size fun _ e => e)
/-- What the reference's steps give. -/
def RPen (Z : Zone) (w : World) (Ls : List Ln) (r c : Int) (pd au : Bool) (e : Ending) (w' : World) : Prop := ∃ v, e = .returned (.agg #[v, .int .i64 r, .int .i64 c, .bool pd, .bool au]) ∧ HeldE lineE (fun b => Z b ∨ (w.heap.size ≤ b ∧ b < w'.heap.size)) w' v Ls ∧ Below w.heap.size w w'
set_option maxRecDepth 100000 in
theorem rpw_any (Z : Zone) (v : Value) (Ls : List Ln) (r c : Int) (pd au : Bool) (w : World) (hv : HeldE lineE Z w v Ls) (h0 : 0 < Ls.length) : Calls Tryd.prog 85 #[.agg #[v, .int .i64 r, .int .i64 c, .bool pd, .bool au]] w (Gives w (.int .i64 ((Ls.getD 0 zl).1.length : Nat))) := by
  obtain ⟨ao, ca, rfl⟩ := hv.len
  obtain ⟨_, hcap, hc⟩ := lines_at hv
  obtain ⟨b, off, cv, rfl, hb, _, z0, _, hz0⟩ := hc 0 h0
  obtain ⟨a0, x0, rfl⟩ := hz0.len
  rw [Nat.zero_mul, Nat.add_zero] at z0
  obtain ⟨n, hn⟩ : ∃ n, n = Ls.length := ⟨_, rfl⟩
  rw [← hn] at h0 hcap ⊢
  obtain ⟨m, hm⟩ : ∃ m, m = (Ls.getD 0 zl).1.length := ⟨_, rfl⟩
  rw [← hm] at z0 ⊢
  have hb5 := (Below.refl w.heap.size w).alloc (Nat.le_refl _) (.cells [Value.slice (some ⟨b, off, none⟩) n ca, .int .i64 r, .int .i64 c, .bool pd, .bool au].toArray 39)
  have HB := Lib.hid hb5
  have z1 := (hb5.cell (p := ⟨b, off, none⟩) hb).trans z0
  obtain ⟨W, hW⟩ : ∃ W, W = w.alloc (.cells [Value.slice (some ⟨b, off, none⟩) n ca, .int .i64 r, .int .i64 c, .bool pd, .bool au].toArray 39) := ⟨_, rfl⟩
  have hn5 := Has.new w [Value.slice (some ⟨b, off, none⟩) n ca, .int .i64 r, .int .i64 c, .bool pd, .bool au] 39
  rw [← hW] at z1 hn5 HB
  have q0 := hn5.cell 0 _ rfl
  have hW' : W = w.alloc (.cells #[Value.slice (some ⟨b, off, none⟩) n ca, .int .i64 r, .int .i64 c, .bool pd, .bool au] 39) := hW
  clear hv hc hz0 z0 hb5 hn5 hW hm hn
  go_enter Tryd.func85, Tryd.ntmps85
  go_upto_region 1 with (fail)
  rw [← hW']
  clear hW'
  go_wp2
  go_ret
  exact ⟨(ret_eq (by first | rfl | (simp <;> omega))), HB.out⟩
set_option maxRecDepth 100000 in
theorem rph_any (Z : Zone) (v : Value) (Ls : List Ln) (r c : Int) (pd au : Bool) (w : World) (hv : HeldE lineE Z w v Ls) (h0 : 0 < Ls.length) (wd : Nat) (hwd : (Ls.getD 0 zl).1.length = wd) : Calls Tryd.prog 46 #[.agg #[v, .int .i64 r, .int .i64 c, .bool pd, .bool au]] w (Gives w (.agg #[v, .int .i64 (inI r (sideI Ls.length)), .int .i64 (inI c (sideI wd)), .bool (holdP c pd wd), .bool au])) := by
  obtain ⟨ao, ca, rfl⟩ := hv.len
  obtain ⟨n, hn⟩ : ∃ n, n = Ls.length := ⟨_, rfl⟩
  have HN := Lib.hid hn
  have HV := Lib.hid hv
  rw [← hn] at h0 HV ⊢
  obtain ⟨W, hW, hb, hr, hl⟩ := pboxes w (.slice ao n ca) (.int .i64 r) (.int .i64 c) (.bool pd) (.bool au) (.slice none 0 0) (.int .i64 0) (.int .i64 0) (.bool false) (.bool false)
  have HB := Lib.hid hb
  have HR := Lib.hid hr
  have HL := Lib.hid hl
  have HWD := Lib.hid (show ∀ w' : World, Below w.heap.size w w' → Calls Tryd.prog 85 #[.agg #[.slice ao n ca, .int .i64 r, .int .i64 c, .bool pd, .bool au]] w' (Gives w' (.int .i64 wd)) from fun w' hb => by
    have h := rpw_any Z (.slice ao n ca) Ls r c pd au w' (HV.out.below hb) (by omega)
    rw [hwd] at h
    exact h)
  have e0 := ext_cell (hb.cell 0 _ rfl)
  have e1 := ext_cell (hb.cell 1 _ rfl)
  have e2 := ext_cell (hb.cell 2 _ rfl)
  have e3 := ext_cell (hb.cell 3 _ rfl)
  have e4 := ext_cell (hb.cell 4 _ rfl)
  have f1 := ext_free (a := ⟨w.heap.size, 1, none⟩) hb.lt (hb.free 1)
  have f2 := ext_free (a := ⟨w.heap.size, 2, none⟩) hb.lt (hb.free 2)
  have f3 := ext_free (a := ⟨w.heap.size, 3, none⟩) hb.lt (hb.free 3)
  clear hv hn hb hr hl hwd
  go_enter Tryd.func46, Tryd.ntmps46
  go_upto_region 1 with (fail)
  rw [← hW]
  clear hW
  refine wp_region_ext_tail 9 (by kernel_rfl) (by simp) (by kernel_rfl) (by kernel_rfl) (by kernel_rfl) (by kernel_rfl) (by kernel_rfl) ?_
  simp only [List.take_succ_cons, List.take_zero, List.drop_succ_cons, List.drop_zero]
  repeat (go_big_quiet_step ((first | (go_at_call 85; exact callx (HWD.out _ (ext_below HL.out _))) | (go_at_call 84; exact callx (rhold_any r c pd wd n _)))))
  refine wpQuiet_nil ?_
  intro _ hw'
  obtain ⟨u, hw''⟩ := hw'
  subst hw''
  obtain ⟨W2, hW2⟩ : ∃ W2, W2 = ext W u := ⟨_, rfl⟩
  have hb2 : Has W2 w.heap.size [.slice ao n ca, .int .i64 r, .int .i64 c, .bool pd, .bool au] 39 := by rw [hW2]; exact HB.out.below u.ok HB.out.lt
  have hr2 : Has W2 (w.heap.size + 1) [.slice none 0 0, .int .i64 0, .int .i64 0, .bool false, .bool false] 39 := by rw [hW2]; exact HR.out.below u.ok HR.out.lt
  have hl2 : Below w.heap.size w W2 := by rw [hW2]; exact ext_below HL.out u
  obtain ⟨W3, hW3, hb3, hr3, hl3, _⟩ := pturn hb2 hr2 hl2 (Nat.le_refl _) (.int .i64 (inI r (sideI n))) (.int .i64 (inI c (sideI wd))) (.bool (holdP c pd wd))
  have HW2 := Lib.hid hW2
  have HB3 := Lib.hid hb3
  have HR3 := Lib.hid hr3
  have HL3 := Lib.hid hl3
  have HW3 := Lib.hid hW3
  clear hW2 hb2 hr2 hl2 hb3 hr3 hl3 hW3
  go_upto_region 2 with (fail)
  rw [← HW2.out]
  rw [← HW3.out]
  clear e0 e1 e2 e3 e4 f1 f2 f3
  have hb3 := HB3.out
  have hr3 := HR3.out
  have c0 := hb3.cell 0 _ rfl
  have c1 := hb3.cell 1 _ rfl
  have c2 := hb3.cell 2 _ rfl
  have c3 := hb3.cell 3 _ rfl
  have c4 := hb3.cell 4 _ rfl
  have k0 := hr3.cell 0 _ rfl
  have k1 := hr3.cell 1 _ rfl
  have k2 := hr3.cell 2 _ rfl
  have k3 := hr3.cell 3 _ rfl
  have k4 := hr3.cell 4 _ rfl
  have g0 := hr3.free 0
  have g1 := hr3.free 1
  have g2 := hr3.free 2
  have g3 := hr3.free 3
  have g4 := hr3.free 4
  have hlt := hr3.lt
  have HBL := Lib.hid (pres (g := w.heap.size + 1) HL3.out (by omega) (.slice ao n ca) (.int .i64 (inI r (sideI n))) (.int .i64 (inI c (sideI wd))) (.bool (holdP c pd wd)) (.bool au))
  clear hb3 hr3
  go_wp2
  exact bodyPost_ret (v := .agg #[.slice ao n ca, .int .i64 (inI r (sideI n)), .int .i64 (inI c (sideI wd)), .bool (holdP c pd wd), .bool au]) (by simp [results, Tryd.results46, go_sem, k0, k1, k2, k3, k4]) rfl ⟨rfl, HBL.out⟩
end Go.Proofs.YtgndolgihplngaaDoor
/- The reference's pen: With. -/
namespace Go.Proofs.YtgndolgihplngaaDoor
open Go.RowKit Go.ChangeShapes Go.WideShapes
end Go.Proofs.YtgndolgihplngaaDoor
/- The reference's pen: Paint. -/
namespace Go.Proofs.YtgndolgihplngaaDoor
open Go.RowKit Go.ChangeShapes Go.WideShapes
/-- The result's box, five cells. -/
theorem pres_upd {W : World} (g : Nat) (a b c d e : Value) : Upd (fun x => x = g) W (((((W.setCell ⟨g, 0, none⟩ a).setCell ⟨g, 1, none⟩ b).setCell ⟨g, 2, none⟩ c).setCell ⟨g, 3, none⟩ d).setCell ⟨g, 4, none⟩ e) :=
  (((((Upd.refl (fun x => x = g) W).setCell (p := ⟨g, 0, none⟩) (.inl rfl) a).setCell (p := ⟨g, 1, none⟩) (.inl rfl) b).setCell (p := ⟨g, 2, none⟩) (.inl rfl) c).setCell (p := ⟨g, 3, none⟩) (.inl rfl) d).setCell (p := ⟨g, 4, none⟩) (.inl rfl) e
theorem pres_has {W : World} {g : Nat} {x0 x1 x2 x3 x4 : Value} (h : Has W g [x0, x1, x2, x3, x4] 39) (a b c d e : Value) : Has (((((W.setCell ⟨g, 0, none⟩ a).setCell ⟨g, 1, none⟩ b).setCell ⟨g, 2, none⟩ c).setCell ⟨g, 3, none⟩ d).setCell ⟨g, 4, none⟩ e) g [a, b, c, d, e] 39 := ((((h.set 0 a).set 1 b).set 2 c).set 3 d).set 4 e
end Go.Proofs.YtgndolgihplngaaDoor
/- The reference's own box, and what is done to it. -/
namespace Go.Proofs.YtgndolgihplngaaDoor
open Go.RowKit Go.ChangeShapes Go.WideShapes
/-- The reference's own box gb, beside the result's box g2. -/
def RB (w0 : World) (Z : Zone) (gb g2 : Nat) (Ls : List Ln) (r c : Int) (pd au : Bool) (o : Option Addr) (k : Nat) (w' : World) : Prop :=
  Has w' gb [.slice o Ls.length k, .int .i64 r, .int .i64 c, .bool pd, .bool au] 39 ∧ HeldE lineE (fun b => (Z b ∨ w0.heap.size ≤ b) ∧ b ≠ gb ∧ b ≠ g2) w' (.slice o Ls.length k) Ls ∧ Has w' g2 [.slice none 0 0, .int .i64 0, .int .i64 0, .bool false, .bool false] 39 ∧ Below w0.heap.size w0 w' ∧ w0.heap.size ≤ gb ∧ w0.heap.size ≤ g2 ∧ gb ≠ g2
section
variable {w0 w1 w2 : World} {Z : Zone} {gb g2 : Nat} {Ls L3 : List Ln} {r c r3 c3 : Int} {pd au pd3 au3 : Bool} {o o' : Option Addr} {k k' : Nat}
theorem RB.below (h : RB w0 Z gb g2 Ls r c pd au o k w1) (hb : Below w1.heap.size w1 w2) : RB w0 Z gb g2 Ls r c pd au o k w2 :=
  ⟨h.1.below hb h.1.lt, h.2.1.below hb, h.2.2.1.below hb h.2.2.1.lt, h.2.2.2.1.trans (hb.mono h.2.2.2.1.size), h.2.2.2.2⟩
/-- The pen's value, where a call takes it. -/
theorem RB.arg (h : RB w0 Z gb g2 Ls r c pd au o k w1) : HeldE lineE (fun b => ((Z b ∨ w0.heap.size ≤ b) ∧ b ≠ gb ∧ b ≠ g2) ∧ b < w1.heap.size) w1 (.slice o Ls.length k) Ls := h.2.1.zone fun _ hlt hz => ⟨hz, hlt⟩
/-- Own cells of the box were written. -/
theorem RB.own (h : RB w0 Z gb g2 Ls r c pd au o k w1) (hu : Upd (fun b => b = gb) w1 w2) (hh : Has w2 gb [.slice o Ls.length k, .int .i64 r3, .int .i64 c3, .bool pd3, .bool au3] 39) : RB w0 Z gb g2 Ls r3 c3 pd3 au3 o k w2 :=
  ⟨hh, h.2.1.upd hu (fun b hz e => hz.2.1 e), hu.keep.has h.2.2.1 (fun e => h.2.2.2.2.2.2 e.symm), h.2.2.2.1.trans (hu.below h.2.2.2.1.size fun b e => by rw [e]; exact h.2.2.2.2.1), h.2.2.2.2⟩
theorem RB.held {w0' : World} (h : RB w0 Z gb g2 Ls r c pd au o k w1) (hb : Below w1.heap.size w1 w2) (hu : Upd (fun b => b = gb) w2 w0') (hv : HeldE lineE (fun b => (((Z b ∨ w0.heap.size ≤ b) ∧ b ≠ gb ∧ b ≠ g2) ∧ b < w1.heap.size) ∨ (w1.heap.size ≤ b ∧ b < w2.heap.size)) w2 (.slice o' L3.length k') L3) (hh : Has w0' gb [.slice o' L3.length k', .int .i64 r3, .int .i64 c3, .bool pd3, .bool au3] 39) : RB w0 Z gb g2 L3 r3 c3 pd3 au3 o' k' w0' := by
  have h2 := h.below hb
  have l1 := h.1.lt
  have l2 := h.2.2.1.lt
  have l3 := h.2.2.2.1.size
  refine ⟨hh, (hv.zone (Y := fun b => (Z b ∨ w0.heap.size ≤ b) ∧ b ≠ gb ∧ b ≠ g2) fun b _ hz => ?_).upd hu (fun b hz e => hz.2.1 e), hu.keep.has h2.2.2.1 (fun e => h.2.2.2.2.2.2 e.symm), h2.2.2.2.1.trans (hu.below h2.2.2.2.1.size fun b e => by rw [e]; exact h.2.2.2.2.1), h.2.2.2.2⟩
  rcases hz with hz | hz
  · exact hz.1
  · exact ⟨.inr (by omega), by omega, by omega⟩
/-- The box takes a whole pen. -/
theorem RB.store (h : RB w0 Z gb g2 Ls r c pd au o k w1) (hb : Below w1.heap.size w1 w2) (hv : HeldE lineE (fun b => (((Z b ∨ w0.heap.size ≤ b) ∧ b ≠ gb ∧ b ≠ g2) ∧ b < w1.heap.size) ∨ (w1.heap.size ≤ b ∧ b < w2.heap.size)) w2 (.slice o' L3.length k') L3) : RB w0 Z gb g2 L3 r3 c3 pd3 au3 o' k' (((((w2.setCell ⟨gb, 0, none⟩ (.slice o' L3.length k')).setCell ⟨gb, 1, none⟩ (.int .i64 r3)).setCell ⟨gb, 2, none⟩ (.int .i64 c3)).setCell ⟨gb, 3, none⟩ (.bool pd3)).setCell ⟨gb, 4, none⟩ (.bool au3)) :=
  h.held hb (pres_upd gb _ _ _ _ _) hv (pres_has (h.1.below hb h.1.lt) _ _ _ _ _)
end
end Go.Proofs.YtgndolgihplngaaDoor
