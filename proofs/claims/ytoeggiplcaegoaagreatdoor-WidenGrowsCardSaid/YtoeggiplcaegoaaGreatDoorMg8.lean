/- Texts put together: ScrW, ScrX, PlcA, PlcB, PlcM, PlcR, PlcS, PlcT, WidM. -/
import Derived.Test.YtoeggiplcaegoaaGreatDoorScrQ
import Derived.Test.YtoeggiplcaegoaaGreatDoorMg1
import Derived.Test.YtoeggiplcaegoaaGreatDoorCellP
import Derived.Test.YtoeggiplcaegoaaGreatDoorMg7
import Derived.Test.YtoeggiplcaegoaaGreatDoorRowP
import Derived.Test.YtoeggiplcaegoaaGreatDoorRowR
import Derived.Test.YtoeggiplcaegoaaGreatDoorCursorC
import Derived.Test.YtoeggiplcaegoaaGreatDoorScrP
import Derived.Test.YtoeggiplcaegoaaGreatDoorGrdG
/- The works of layer 33. -/
namespace Go.Proofs.YtoeggiplcaegoaaGreatDoor
open Go.RowKit Go.ChangeShapes Go.WideShapes
end Go.Proofs.YtoeggiplcaegoaaGreatDoor
/- MovedY Yo rows, whatever is asked (33): the reference's Move, and do on a grid. -/
namespace Go.Proofs.YtoeggiplcaegoaaGreatDoor
open Go.RowKit Go.ChangeShapes Go.WideShapes
variable {Yo : Zone}
/-- What is moved, if anything is. -/
def mvd (Ls : List Ln) (a b k : Int) (up : Bool) : List Ln := if heldK Ls.length a b k < 1 then Ls else moveL Ls (heldF Ls.length a) (heldF Ls.length b) (heldK Ls.length a b k).toNat up
theorem mvd_len (Ls : List Ln) (a b k : Int) (up : Bool) : (mvd Ls a b k up).length = Ls.length := by
  unfold mvd
  split
  · rfl
  · simp [moveL]
theorem rmove_all (v : Value) (Z : Zone) (Ls : List Ln) (a b k : Int) (up : Bool) (w : World) (hv : HeldE lineE Z w v Ls) (hZ : ∀ b, Z b → b < w.heap.size) (hl : Ls.length ≤ 1000) (hLW : ∀ i, i < Ls.length → (Ls.getD i zl).1.length ≤ 1024) : Calls Tryz.prog 170 #[v, .int .i64 a, .int .i64 b, .int .i64 k, .bool up] w (fun e w' => ∃ v', e = .returned v' ∧ HeldE lineE (fun b => Z b ∨ (w.heap.size ≤ b ∧ b < w'.heap.size)) w' v' (mvd Ls a b k up) ∧ Below w.heap.size w w') := by
  by_cases hk : heldK Ls.length a b k < 1
  · refine (rmove_none v Z Ls a b k up w hv hl hk).mono ?_
    rintro e w' ⟨rfl, hb⟩
    refine ⟨v, rfl, ?_, hb⟩
    unfold mvd
    rw [if_pos hk]
    exact (hv.below hb).zone fun _ _ h => .inl h
  · have hq : heldK Ls.length a b k = (((heldK Ls.length a b k).toNat : Nat) : Int) := by omega
    have h0 : 0 < (heldK Ls.length a b k).toNat := by omega
    have hm : Calls Tryz.prog 170 #[v, .int .i64 a, .int .i64 b, .int .i64 k, .bool up] w (MadeE lineE (fun b => Z b ∨ w.heap.size ≤ b) 104 w (moveL Ls (heldF Ls.length a) (heldF Ls.length b) (heldK Ls.length a b k).toNat up)) := by
      cases up with
      | true => exact rmove_up v Z Ls a b k _ _ _ w hv hZ hl hLW rfl rfl hq h0
      | false => exact rmove_down v Z Ls a b k _ _ _ w hv hZ hl hLW rfl rfl hq h0
    refine hm.mono ?_
    rintro e w' ⟨v', rfl, ho, hb⟩
    refine ⟨v', rfl, ?_, hb⟩
    unfold mvd
    rw [if_neg hk]
    exact ((ho.zone (Y := fun b => Z b ∨ (w.heap.size ≤ b ∧ b < w'.heap.size)) (fun b hb h => by rcases h with h | h; exact .inl h; exact .inr ⟨h, hb⟩)).held (fun b h1 h2 => .inr ⟨h1, h2⟩))
/-- Each row of the new grid is one of the old, or new. -/
def RowsFrom (w : World) (Rs Rs' : List Rw) : Prop := ∀ i, i < Rs'.length → (∃ j, j < Rs.length ∧ (Rs'.getD i r0).g = (Rs.getD j r0).g ∧ (Rs'.getD i r0).gc = (Rs.getD j r0).gc) ∨ (w.heap.size ≤ (Rs'.getD i r0).g ∧ w.heap.size ≤ (Rs'.getD i r0).gc)
theorem RowsFrom.off {w : World} {Rs Rs' : List Rw} (h : RowsFrom w Rs Rs') (k : Nat) : RowsFrom w Rs (offAt Rs' k) := by
  intro i hi
  unfold offAt at hi ⊢
  rw [List.length_set] at hi
  by_cases e : k < Rs'.length
  · rw [getD_setI _ _ _ _ _ e]
    by_cases e2 : i = k
    · subst e2; rw [if_pos rfl]; exact h i hi
    · rw [if_neg e2]; exact h i hi
  · rw [List.set_eq_of_length_le (by omega)]; exact h i hi
theorem up_from {w : World} {Rs Ns : List Rw} {f t q : Nat} (hf : f < t) (ht : t ≤ Rs.length) (hq : q ≤ t - f) (hn : Ns.length = q) (hns : ∀ i, i < Ns.length → w.heap.size ≤ (Ns.getD i r0).g ∧ w.heap.size ≤ (Ns.getD i r0).gc) : RowsFrom w Rs (Rs.take f ++ upMid Rs Ns f t q ++ Rs.drop (f + (upMid Rs Ns f t q).length)) := by
  intro i hi
  have hml := upMid_len (Rs := Rs) (Ns := Ns) (f := f) (t := t) (q := q) (by omega) ht hq hn
  have hil : i < Rs.length := by rw [List.length_append, List.length_append, List.length_take, List.length_drop, hml] at hi; omega
  rw [mid_at _ hml (by omega) ht]
  split
  · exact .inl ⟨i, hil, rfl, rfl⟩
  · split
    · rw [up_at (by omega) ht hq hn _ (by omega)]
      split
      · exact .inl ⟨_, by omega, rfl, rfl⟩
      · exact .inr (hns _ (by omega))
    · exact .inl ⟨i, hil, rfl, rfl⟩
/-- What Up and Down leave. -/
def MovedY (Yo : Zone) (w : World) (B gg gr wd : Nat) (Rs : List Rw) (Ls' : List Ln) (e : Ending) (w' : World) : Prop := e = .returned (.tuple #[]) ∧ ∃ Rs', GridY Yo w' B gg gr wd Rs' ∧ Rs'.map lineOf = Ls' ∧ Upd (GridB w gr Rs) w w' ∧ RowsFrom w Rs Rs'
abbrev Moved (w : World) (B gg gr wd : Nat) (Rs : List Rw) (Ls' : List Ln) (e : Ending) (w' : World) : Prop := MovedY (fun _ => True) w B gg gr wd Rs Ls' e w'
theorem map_len {Rs : List Rw} {Ls : List Ln} (h : Rs.map lineOf = Ls) : Rs.length = Ls.length := by rw [← h]; simp
theorem RowsFrom.self (w : World) (Rs : List Rw) : RowsFrom w Rs Rs := fun i hi => .inl ⟨i, hi, rfl, rfl⟩
theorem scup_all (B gg gr wd : Nat) (Rs : List Rw) (Ls : List Ln) (a b k : Int) (w : World) (h : GridY Yo w B gg gr wd Rs) (hL : Rs.map lineOf = Ls) : Calls Tryz.prog 227 #[.pointer (some ⟨gg, 0, none⟩), .int .i64 a, .int .i64 b, .int .i64 k] w (MovedY Yo w B gg gr wd Rs (mvd Ls a b k true)) := by
  have hll := map_len hL
  have hsz := h.sizes
  by_cases hk : heldK Ls.length a b k < 1
  · refine (scup_raw _ Ls.length (by omega) a b k w (by rw [← hll]; exact ghigh_any B gg gr wd Rs w h) hk).mono ?_
    rintro e w' ⟨rfl, rfl⟩
    refine ⟨rfl, Rs, h, ?_, .refl _ _, .self _ _⟩
    unfold mvd
    rw [if_pos hk, hL]
  · have hq : heldK Ls.length a b k = (((heldK Ls.length a b k).toNat : Nat) : Int) := by omega
    have h0 : 0 < (heldK Ls.length a b k).toNat := by omega
    have hfl := heldF_le Ls.length b
    have hkk : heldK Ls.length a b k ≤ (heldF Ls.length b : Int) - heldF Ls.length a := by unfold heldK; omega
    refine (scup_good B gg gr wd (heldF Ls.length a) (heldF Ls.length b) (heldK Ls.length a b k).toNat Rs a b k w h (by rw [hll]) (by rw [hll]) (by rw [hll]; exact hq) h0).mono ?_
    rintro e w' ⟨rfl, Ns, ⟨hm, hns⟩, hg, hu⟩
    refine ⟨rfl, _, hg, ?_, hu, ?_⟩
    · unfold mvd
      rw [if_neg hk]
      exact up_lines hL (by omega) (by omega) (by omega) hm (fun i hi => hsz.2.2.2.2 i hi)
    · have hr := up_from (w := w) (f := heldF Ls.length a) (t := heldF Ls.length b) (q := (heldK Ls.length a b k).toNat) (Rs := Rs) (by omega) (by omega) (by omega) (lines_wide hm).1 hns
      split
      · exact hr
      · exact hr.off _
/-- Zones apart from a grid's blocks. -/
def OffG (Z : Zone) (gg gr : Nat) (Rs : List Rw) : Prop := ∀ b, Z b → b ≠ gg ∧ b ≠ gr ∧ ∀ i, i < Rs.length → b ≠ (Rs.getD i r0).g ∧ b ≠ (Rs.getD i r0).gc
theorem OffG.from {Z : Zone} {gg gr : Nat} {Rs Rs' : List Rw} {w : World} (h : OffG Z gg gr Rs) (hz : ∀ b, Z b → b < w.heap.size) (hr : RowsFrom w Rs Rs') : OffG Z gg gr Rs' := fun b hb => by
  obtain ⟨h1, h2, h3⟩ := h b hb
  refine ⟨h1, h2, fun i hi => ?_⟩
  have hlt := hz b hb
  rcases hr i hi with ⟨j, hj, e1, e2⟩ | ⟨e1, e2⟩
  · rw [e1, e2]; exact h3 j hj
  · omega
theorem OffG.not {Z : Zone} {gg gr : Nat} {Rs : List Rw} {w : World} (h : OffG Z gg gr Rs) (hz : ∀ b, Z b → b < w.heap.size) (b : Nat) (hb : Z b) : ¬ GridB w gr Rs b := by
  obtain ⟨h1, h2, h3⟩ := h b hb
  have hlt := hz b hb
  rintro (e | ⟨i, hi, e⟩ | e)
  · exact h2 e
  · rcases e with e | e
    · exact (h3 i hi).1 e
    · exact (h3 i hi).2 e
  · omega
end Go.Proofs.YtoeggiplcaegoaaGreatDoor
/- Grids keep off a block that has no text; a pen's block. -/
namespace Go.Proofs.YtoeggiplcaegoaaGreatDoor
open Go.RowKit Go.ChangeShapes Go.WideShapes
variable {Yo : Zone}
def NoTx (w : World) (g : Nat) : Prop := ∀ o x, w.cell? ⟨g, o, none⟩ ≠ some (.int .i32 x)
theorem text_off {Z : Zone} {w : World} {v : Value} {xs : List Int} {g : Nat} (h : HeldE (intE .i32) Z w v xs) (hg : NoTx w g) : HeldE (intE .i32) (fun b => Z b ∧ b ≠ g) w v xs := by
  obtain ⟨ao, cap, rfl, hl, hm, hn, hc⟩ := h
  refine ⟨ao, cap, rfl, hl, hm, hn, fun i hi => ?_⟩
  obtain ⟨b, off, rfl, hb, hz, C, hC, hr⟩ := hc i hi
  have hr' : C = [.int .i32 (xs.getD i 0)] := hr
  refine ⟨b, off, rfl, hb, ⟨hz, fun e => ?_⟩, C, hC, hr⟩
  subst e
  have h0 := hC 0 (by decide)
  rw [hr'] at h0
  exact hg _ _ h0
theorem row_off {Z : Zone} {w : World} {B g gc gp : Nat} {L : List Cl} {wrap : Bool} (h : RowAt Z w B g gc L wrap) (hg : NoTx w gp) : RowAt (fun b => Z b ∧ b ≠ gp) w B g gc L wrap := by
  obtain ⟨cap, h1, h2, h3, ⟨CS, k1, k2, k3⟩, h5⟩ := h
  refine ⟨cap, h1, h2, h3, ⟨CS, k1, k2, fun i hi => ?_⟩, h5⟩
  obtain ⟨tv, e, ht⟩ := cell_rep.1 (k3 i hi)
  exact cell_rep.2 ⟨tv, e, (text_off ht hg).zone fun b _ hz => ⟨⟨⟨hz.1.1.1, hz.2⟩, hz.1.1.2⟩, hz.1.2⟩⟩
theorem rows_off {Z : Zone} {w : World} {B gp : Nat} {Rs : List Rw} (h : RowsAt Z w B Rs) (hg : NoTx w gp) : RowsAt (fun b => Z b ∧ b ≠ gp) w B Rs :=
  ⟨fun i hi => row_off (h.row i hi) hg, fun i hi => ⟨fun hz => (h.out i hi).1 hz.1, fun hz => (h.out i hi).2 hz.1⟩, h.apart⟩
theorem GridY.off {w : World} {B gg gr wd gp : Nat} {Rs : List Rw} (h : GridY Yo w B gg gr wd Rs) (hg : NoTx w gp) : ∃ (Z : Zone) (cap : Nat), (∀ b, Z b → B ≤ b ∧ b < w.heap.size ∧ b ≠ gp) ∧ Has w gg [.int .i64 wd, .slice (some ⟨gr, 0, none⟩) Rs.length cap] 119 ∧ B ≤ gg ∧ OwnE ptrE (fun _ => True) w B 113 (.slice (some ⟨gr, 0, none⟩) Rs.length cap) (ptrs Rs) ∧ ¬ Z gg ∧ ¬ Z gr ∧ RowsAt Z w B Rs ∧ (∀ i, i < Rs.length → (Rs.getD i r0).L.length = wd) ∧ 0 < Rs.length ∧ Rs.length ≤ 1024 ∧ ∀ b, (Z b ∨ w.heap.size ≤ b) → Yo b := by
  obtain ⟨Z, cap, h1, h2, h3, h4, h5, h6, h7, h8, h9, h10, hY⟩ := h
  exact ⟨fun b => Z b ∧ b ≠ gp, cap, fun b hz => ⟨(h1 b hz.1).1, (h1 b hz.1).2, hz.2⟩, h2, h3, h4, fun hz => h5 hz.1, fun hz => h6 hz.1, rows_off h7 hg, h8, h9, h10, fun b hb => hY b (hb.imp And.left id)⟩
/-- A block of another type is none of the grid's. -/
theorem GridY.other {w : World} {B gg gr wd g : Nat} {Rs : List Rw} (h : GridY Yo w B gg gr wd Rs) {C : List Value} {t : TypeId} (hg : Has w g C t) (t1 : t ≠ 119) (t2 : t ≠ 113) (t3 : t ≠ 187) (t4 : t ≠ 147) : g ≠ gg ∧ g ≠ gr ∧ ∀ i, i < Rs.length → g ≠ (Rs.getD i r0).g ∧ g ≠ (Rs.getD i r0).gc := by
  obtain ⟨Z, cap, h1, h2, h3, h4, h5, h6, h7, h8⟩ := h
  obtain ⟨D, hD⟩ := own_type h4 (b := gr) rfl
  refine ⟨fun e => by subst e; exact other_type hg h2 t1, fun e => by subst e; exact other_type hg hD t2, fun i hi => ?_⟩
  obtain ⟨⟨D, hD⟩, D', hD'⟩ := (h7.row i hi).types
  exact ⟨fun e => by subst e; exact other_type hg hD t3, fun e => by subst e; exact other_type hg hD' t4⟩
/-- A write to a block that has no text and is none of the grid's leaves the grid. -/
theorem GridY.pen {w w' : World} {B gg gr wd gp : Nat} {Rs : List Rw} (h : GridY Yo w B gg gr wd Rs) (hg : NoTx w gp) (ho : gp ≠ gg ∧ gp ≠ gr ∧ ∀ i, i < Rs.length → gp ≠ (Rs.getD i r0).g ∧ gp ≠ (Rs.getD i r0).gc) (hu : Upd (fun b => b = gp) w w') : GridY Yo w' B gg gr wd Rs := by
  obtain ⟨Z, cap, h1, h2, h3, h4, h5, h6, h7, h8, h9, h10, hY⟩ := h.off hg
  have hk := hu.keep
  refine ⟨Z, cap, fun b hz => ⟨(h1 b hz).1, Nat.lt_of_lt_of_le (h1 b hz).2.1 hu.size⟩, hk.has h2 (fun e => ho.1 e.symm), h3, ?_, h5, h6, h7.upd hu (fun b hz e => (h1 b hz).2.2 e) (fun i hi => ⟨fun e => (ho.2.2 i hi).1 e.symm, fun e => (ho.2.2 i hi).2 e.symm⟩), h8, h9, h10, fun b hb => hY b (hb.imp id (Nat.le_trans hu.size))⟩
  exact own_ptrs (hk.own h4.ptrs fun b hb e => by
    have : gr = b := by simpa [Value.ownBlock] using hb
    exact ho.2.1 (by rw [this]; exact e.symm))
end Go.Proofs.YtoeggiplcaegoaaGreatDoor
/- The pen in the world, and what its steps leave. -/
namespace Go.Proofs.YtoeggiplcaegoaaGreatDoor
open Go.RowKit Go.ChangeShapes Go.WideShapes
variable {Yo : Zone}
/-- A pen at block gp, over a grid with the lines Ls. -/
def PenY (Yo : Zone) (w : World) (B gp gg gr wd : Nat) (Rs : List Rw) (Ls : List Ln) (r c : Int) (pd au : Bool) : Prop :=
  Has w gp [.pointer (some ⟨gg, 0, none⟩), .int .i64 r, .int .i64 c, .bool pd, .bool au] 42 ∧ B ≤ gp ∧ GridY Yo w B gg gr wd Rs ∧ Rs.map lineOf = Ls
abbrev PenAt (w : World) (B gp gg gr wd : Nat) (Rs : List Rw) (Ls : List Ln) (r c : Int) (pd au : Bool) : Prop := PenY (fun _ => True) w B gp gg gr wd Rs Ls r c pd au
/-- The blocks that a pen may write. -/
def PZ (w : World) (gp gr : Nat) (Rs : List Rw) (b : Nat) : Prop := b = gp ∨ GridB w gr Rs b
theorem RowsFrom.trans {w w1 : World} {Rs R1 R2 : List Rw} (h : RowsFrom w Rs R1) (k : RowsFrom w1 R1 R2) (hs : w.heap.size ≤ w1.heap.size) : RowsFrom w Rs R2 := fun i hi => by
  rcases k i hi with ⟨j, hj, e1, e2⟩ | ⟨e1, e2⟩
  · rcases h j hj with ⟨q, hq, f1, f2⟩ | ⟨f1, f2⟩
    · exact .inl ⟨q, hq, e1.trans f1, e2.trans f2⟩
    · exact .inr ⟨by omega, by omega⟩
  · exact .inr ⟨by omega, by omega⟩
theorem PZ.from {w w1 : World} {gp gr : Nat} {Rs R1 : List Rw} (h : RowsFrom w Rs R1) (hs : w.heap.size ≤ w1.heap.size) (b : Nat) (hb : PZ w1 gp gr R1 b) : PZ w gp gr Rs b := by
  rcases hb with e | e | ⟨i, hi, e⟩ | e
  · exact .inl e
  · exact .inr (.inl e)
  · rcases h i hi with ⟨q, hq, f1, f2⟩ | ⟨f1, f2⟩
    · exact .inr (.inr (.inl ⟨q, hq, by rcases e with e | e; exact .inl (e.trans f1); exact .inr (e.trans f2)⟩))
    · exact .inr (.inr (.inr (by rcases e with e | e <;> omega)))
  · exact .inr (.inr (.inr (by omega)))
section
variable {w w1 w2 : World} {B gp gg gr wd : Nat} {Rs R1 : List Rw} {Ls : List Ln} {r c : Int} {pd au : Bool}
theorem PenY.notx (h : PenY Yo w B gp gg gr wd Rs Ls r c pd au) : NoTx w gp := fun o x e => by
  rw [cell_of_row w gp o _ _ (0, 0) h.1] at e
  match o with
  | 0 => simp at e
  | 1 => simp at e
  | 2 => simp at e
  | 3 => simp at e
  | 4 => simp at e
  | o + 5 => simp at e
theorem PenY.other (h : PenY Yo w B gp gg gr wd Rs Ls r c pd au) : gp ≠ gg ∧ gp ≠ gr ∧ ∀ i, i < Rs.length → gp ≠ (Rs.getD i r0).g ∧ gp ≠ (Rs.getD i r0).gc := h.2.2.1.other h.1 (by decide) (by decide) (by decide) (by decide)
theorem PenY.any (h : PenY Yo w B gp gg gr wd Rs Ls r c pd au) : PenAt w B gp gg gr wd Rs Ls r c pd au := ⟨h.1, h.2.1, h.2.2.1.any, h.2.2.2⟩
theorem PenY.lt (h : PenY Yo w B gp gg gr wd Rs Ls r c pd au) : gp < w.heap.size := h.1.lt
/-- The pen's own block was turned. -/
theorem PenY.turn (h : PenY Yo w B gp gg gr wd Rs Ls r c pd au) {r' c' : Int} {pd' au' : Bool} (hh : Has w1 gp [.pointer (some ⟨gg, 0, none⟩), .int .i64 r', .int .i64 c', .bool pd', .bool au'] 42) (hu : Upd (fun b => b = gp) w w1) : PenY Yo w1 B gp gg gr wd Rs Ls r' c' pd' au' :=
  ⟨hh, h.2.1, h.2.2.1.pen h.notx h.other hu, h.2.2.2⟩
theorem PenY.off (h : PenY Yo w B gp gg gr wd Rs Ls r c pd au) : ¬ GridB w gr Rs gp := fun e => by
  have ho := h.other
  have hl := h.lt
  rcases e with e | ⟨i, hi, e⟩ | e
  · exact ho.2.1 e
  · rcases e with e | e
    · exact (ho.2.2 i hi).1 e
    · exact (ho.2.2 i hi).2 e
  · omega
/-- The grid was turned. -/
theorem PenY.grid (h : PenY Yo w B gp gg gr wd Rs Ls r c pd au) {Ls' : List Ln} (hg : GridY Yo w1 B gg gr wd R1) (hm : R1.map lineOf = Ls') (hu : Upd (GridB w gr Rs) w w1) : PenY Yo w1 B gp gg gr wd R1 Ls' r c pd au :=
  ⟨hu.keep.has h.1 h.off, h.2.1, hg, hm⟩
theorem PenY.below (h : PenY Yo w B gp gg gr wd Rs Ls r c pd au) (hb : Below w.heap.size w w1) : PenY Yo w1 B gp gg gr wd Rs Ls r c pd au := ⟨h.1.below hb h.lt, h.2.1, h.2.2.1.below hb, h.2.2.2⟩
/-- What a step leaves. -/
def PDoY (Yo : Zone) (w : World) (B gp gg gr wd : Nat) (Rs : List Rw) (Ls' : List Ln) (r c : Int) (pd au : Bool) (w1 : World) : Prop := ∃ R1, PenY Yo w1 B gp gg gr wd R1 Ls' r c pd au ∧ Upd (PZ w gp gr Rs) w w1 ∧ RowsFrom w Rs R1
abbrev PDo (w : World) (B gp gg gr wd : Nat) (Rs : List Rw) (Ls' : List Ln) (r c : Int) (pd au : Bool) (w1 : World) : Prop := PDoY (fun _ => True) w B gp gg gr wd Rs Ls' r c pd au w1
theorem PDoY.trans {L2 : List Ln} {r2 c2 : Int} {pd2 au2 : Bool} (hu : Upd (PZ w gp gr Rs) w w1) (hf : RowsFrom w Rs R1) (k : PDoY Yo w1 B gp gg gr wd R1 L2 r2 c2 pd2 au2 w2) : PDoY Yo w B gp gg gr wd Rs L2 r2 c2 pd2 au2 w2 := by
  obtain ⟨R2, h1, h2, h3⟩ := k
  exact ⟨R2, h1, hu.trans (h2.mono fun b _ hb => PZ.from hf hu.size b hb), hf.trans h3 hu.size⟩
theorem PDoY.turn (h : PenY Yo w B gp gg gr wd Rs Ls r c pd au) {r' c' : Int} {pd' au' : Bool} (hh : Has w1 gp [.pointer (some ⟨gg, 0, none⟩), .int .i64 r', .int .i64 c', .bool pd', .bool au'] 42) (hu : Upd (fun b => b = gp) w w1) : PDoY Yo w B gp gg gr wd Rs Ls r' c' pd' au' w1 :=
  ⟨Rs, h.turn hh hu, hu.mono fun b _ e => .inl e, RowsFrom.self _ _⟩
theorem PDoY.grid (h : PenY Yo w B gp gg gr wd Rs Ls r c pd au) {Ls' : List Ln} (hg : GridY Yo w1 B gg gr wd R1) (hm : R1.map lineOf = Ls') (hu : Upd (GridB w gr Rs) w w1) (hf : RowsFrom w Rs R1) : PDoY Yo w B gp gg gr wd Rs Ls' r c pd au w1 :=
  ⟨R1, h.grid hg hm hu, hu.mono fun b _ e => .inr e, hf⟩
theorem PDoY.below (h : PenY Yo w B gp gg gr wd Rs Ls r c pd au) (hb : Below w.heap.size w w1) : PDoY Yo w B gp gg gr wd Rs Ls r c pd au w1 := ⟨Rs, h.below hb, .ofBelow hb, RowsFrom.self _ _⟩
/-- The sizes and the cells of a pen's grid. -/
theorem PenY.sizes (h : PenY Yo w B gp gg gr wd Rs Ls r c pd au) : 0 < Ls.length ∧ Ls.length ≤ 1024 ∧ 0 < wd ∧ wd ≤ 1024 ∧ Rs.length = Ls.length ∧ ∀ i, i < Ls.length → (Ls.getD i zl).1.length = wd := by
  have hs := h.2.2.1.sizes
  have hl := map_len h.2.2.2
  refine ⟨by omega, by omega, hs.2.2.1, hs.2.2.2.1, hl, fun i hi => ?_⟩
  rw [← lines_at_i h.2.2.2 i (by omega)]
  exact hs.2.2.2.2 i (by omega)
theorem set_lines {Rs : List Rw} {Ls : List Ln} (h : Rs.map lineOf = Ls) (i g gc : Nat) (L : List Cl) (b : Bool) : (Rs.set i ⟨g, gc, L, b⟩).map lineOf = Ls.set i (L, b) := by rw [List.map_set, h]; rfl
theorem rows_set {w : World} (Rs : List Rw) (i : Nat) (L : List Cl) (b : Bool) : RowsFrom w Rs (Rs.set i ⟨(Rs.getD i r0).g, (Rs.getD i r0).gc, L, b⟩) := fun j hj => by
  rw [List.length_set] at hj
  refine .inl ⟨j, hj, ?_⟩
  by_cases e : j = i
  · subst e; rw [getD_setI _ _ _ _ _ hj, if_pos rfl]; exact ⟨rfl, rfl⟩
  · rw [show (Rs.set i (⟨(Rs.getD i r0).g, (Rs.getD i r0).gc, L, b⟩ : Rw)).getD j r0 = Rs.getD j r0 from by simp [List.getD, List.getElem?_set_ne (Ne.symm e)]]; exact ⟨rfl, rfl⟩
/-- A call that paints a row of the grid. -/
theorem GridY.painted {i : Nat} {L : List Cl} {b : Bool} {f : FuncId} {args : Array Value} (h : GridY Yo w B gg gr wd Rs) (hi : i < Rs.length) (hl : L.length = wd) (hc : ∀ Z : Zone, (∀ b, w.heap.size ≤ b → Z b) → RowAt Z w B (Rs.getD i r0).g (Rs.getD i r0).gc (Rs.getD i r0).L (Rs.getD i r0).wrap → Calls Tryz.prog f args w (PaintOk Z B (Rs.getD i r0).g (Rs.getD i r0).gc w L b)) :
    Calls Tryz.prog f args w (fun e w1 => e = .returned .nilIface ∧ GridY Yo w1 B gg gr wd (Rs.set i ⟨(Rs.getD i r0).g, (Rs.getD i r0).gc, L, b⟩) ∧ Upd (fun x => x = (Rs.getD i r0).g ∨ x = (Rs.getD i r0).gc) w w1) := by
  obtain ⟨cap', hp⟩ := h.part
  have hap := hp.apart (b := gr) rfl
  have hgp := hp.gapart
  have hlt := h.lt
  obtain ⟨Z, cap, h1, h2, h3, h4, h5, h6, h7, h8, h9, h10⟩ := h
  have hri := hlt.2.2.2.2.2 i hi
  refine (hc (fun b => Z b ∨ w.heap.size ≤ b) (fun b hb => .inr hb) ((h7.row i hi).keep (.refl _ _) fun b _ hz => .inl hz)).mono ?_
  rintro e w1 ⟨rfl, hr1, hu⟩
  refine ⟨rfl, ?_, hu⟩
  refine ⟨fun b => Z b ∨ (w.heap.size ≤ b ∧ b < w1.heap.size), cap, fun b hz => by have := hu.size; rcases hz with hz | hz; have := h1 b hz; omega; omega, ?_, h3, ?_, ?_, ?_, ?_, fun j hj => ?_, by rw [List.length_set]; exact h9, by rw [List.length_set]; exact h10.1, fun x hx => h10.2 x (by
    have := hu.size
    rcases hx with (hz | hz) | hz
    · exact .inl hz
    · exact .inr hz.1
    · exact .inr (by omega))⟩
  · rw [List.length_set]
    exact hu.keep.has h2 (fun e => by rcases e with e | e; exact (hgp i hi).1 e.symm; exact (hgp i hi).2 e.symm)
  · have he : ptrs (Rs.set i ⟨(Rs.getD i r0).g, (Rs.getD i r0).gc, L, b⟩) = ptrs Rs := by
      unfold ptrs
      rw [List.map_set]
      apply List.ext_getElem?
      intro j
      by_cases e : j = i
      · subst e
        rw [List.getElem?_set_self (by rw [List.length_map]; exact hi)]
        simp [List.getD, List.getElem?_eq_getElem hi]
      · rw [List.getElem?_set_ne (Ne.symm e)]
    rw [he, List.length_set]
    exact own_ptrs (hu.keep.own h4.ptrs fun b hb e => by
      have : gr = b := by simpa [Value.ownBlock] using hb
      subst this
      rcases e with e | e
      · exact (hap.2 i hi).1 e.symm
      · exact (hap.2 i hi).2 e.symm)
  · rintro (hz | hz)
    · exact h5 hz
    · have := hlt.2.1; omega
  · rintro (hz | hz)
    · exact h6 hz
    · have := hlt.2.2.2.1; omega
  · have hz1 : RowAt (fun b => Z b ∨ (w.heap.size ≤ b ∧ b < w1.heap.size)) w1 B (Rs.getD i r0).g (Rs.getD i r0).gc L b := hr1.keep (.refl _ _) fun b hb hz => by rcases hz with hz | hz; exact .inl hz; exact .inr ⟨hz, hb⟩
    refine h7.put hi hz1 ⟨fun hz => by rcases hz with hz | hz; exact (h7.out i hi).1 hz; omega, fun hz => by rcases hz with hz | hz; exact (h7.out i hi).2 hz; omega⟩ (fun j hj hne => ((h7.row j hj).upd hu (fun b hz e => by rcases e with e | e; exact (h7.out i hi).1 (e ▸ hz); exact (h7.out i hi).2 (e ▸ hz)) (fun e => by rcases e with e | e; exact (h7.apart j i hj hi hne).1 e; exact h7.cross j i hj hi e) (fun e => by rcases e with e | e; exact h7.cross i j hi hj e.symm; exact (h7.apart j i hj hi hne).2 e)).keep (.refl _ _) fun b _ hz => .inl hz) (fun j hj hne => ?_) (fun j hj hne => h7.apart i j hi hj (Ne.symm hne)) h7.apart
    have hrj := hlt.2.2.2.2.2 j hj
    exact ⟨fun hz => by rcases hz with hz | hz; exact (h7.out j hj).1 hz; omega, fun hz => by rcases hz with hz | hz; exact (h7.out j hj).2 hz; omega⟩
  · rw [List.length_set] at hj
    rw [getD_setI _ _ _ _ _ hi]
    by_cases e : j = i
    · rw [if_pos e]; exact hl
    · rw [if_neg e]; exact h8 j hj
end
end Go.Proofs.YtoeggiplcaegoaaGreatDoor
/- What a pen's steps make of lines. Of no program's code. -/
namespace Go.Proofs.YtoeggiplcaegoaaGreatDoor
open Go.RowKit Go.ChangeShapes Go.WideShapes
/-- Lines of one width. -/
def Even (Ls : List Ln) (wd : Nat) : Prop := 0 < Ls.length ∧ Ls.length ≤ 1000 ∧ 0 < wd ∧ wd ≤ 1024 ∧ ∀ i, i < Ls.length → (Ls.getD i zl).1.length = wd
theorem Even.short {Ls : List Ln} {wd : Nat} (h : Even Ls wd) : ∀ i, i < Ls.length → (Ls.getD i zl).1.length ≤ 1024 := fun i hi => by have := h.2.2.2.2 i hi; have := h.2.2.2.1; omega
theorem Even.set {Ls : List Ln} {wd : Nat} (h : Even Ls wd) (i : Nat) {x : Ln} (hx : x.1.length = wd) : Even (Ls.set i x) wd := by
  refine ⟨by rw [List.length_set]; exact h.1, by rw [List.length_set]; exact h.2.1, h.2.2.1, h.2.2.2.1, fun j hj => ?_⟩
  rw [List.length_set] at hj
  by_cases e : j = i
  · subst e; rw [getD_setI _ _ _ _ _ hj, if_pos rfl]; exact hx
  · rw [show (Ls.set i x).getD j zl = Ls.getD j zl from by simp [List.getD, List.getElem?_set_ne (Ne.symm e)]]; exact h.2.2.2.2 j hj
theorem src_len {Ls : List Ln} {wd f t q : Nat} {up : Bool} (h : Even Ls wd) (hf : f < t) (ht : t ≤ Ls.length) (i : Nat) (hi : i < Ls.length) : (srcM Ls f t q up i).1.length = wd := by
  have h5 := h.2.2.2.2
  have hz : (List.replicate (Ls.getD i zl).1.length zc).length = wd := by rw [List.length_replicate]; exact h5 i hi
  unfold srcM
  repeat' split
  all_goals first
    | exact h5 _ (by omega)
    | (simp only [List.length_replicate]; exact h5 _ (by omega))
theorem Even.mvd {Ls : List Ln} {wd : Nat} (h : Even Ls wd) (a b k : Int) (up : Bool) : Even (mvd Ls a b k up) wd := by
  refine ⟨by rw [mvd_len]; exact h.1, by rw [mvd_len]; exact h.2.1, h.2.2.1, h.2.2.2.1, fun j hj => ?_⟩
  rw [mvd_len] at hj
  unfold Go.Proofs.YtoeggiplcaegoaaGreatDoor.mvd
  split
  · exact h.2.2.2.2 j hj
  · rename_i hk
    have hh := heldF_le Ls.length b
    unfold moveL
    rw [show ((List.range Ls.length).map (entM Ls (heldF Ls.length a) (heldF Ls.length b) (heldK Ls.length a b k).toNat up)).getD j zl = entM Ls (heldF Ls.length a) (heldF Ls.length b) (heldK Ls.length a b k).toNat up j from by simp [List.getD, hj]]
    exact src_len h (by unfold heldK at hk; omega) hh j hj
/-- Down: the lines and the row. -/
def downL (Ls : List Ln) (r : Nat) : List Ln := if r + 1 < Ls.length then Ls else mvd Ls 0 Ls.length 1 true
def downR (Ls : List Ln) (r : Nat) : Nat := if r + 1 < Ls.length then r + 1 else r
def markL (Ls : List Ln) (r : Nat) : List Ln := Ls.set r ((Ls.getD r zl).1, true)
def goL (Ls : List Ln) (r : Nat) : List Ln := downL (markL Ls r) r
def pntL (Ls : List Ln) (r c : Nat) (p : List Cl) : List Ln := Ls.set r (paintL (Ls.getD r zl).1 p c, (Ls.getD r zl).2 && !lastHit (Ls.getD r zl).1 p c)
theorem mark_len (Ls : List Ln) (r : Nat) : (markL Ls r).length = Ls.length := by unfold markL; rw [List.length_set]
theorem pnt_len (Ls : List Ln) (r c : Nat) (p : List Cl) : (pntL Ls r c p).length = Ls.length := by unfold pntL; rw [List.length_set]
theorem down_len (Ls : List Ln) (r : Nat) : (downL Ls r).length = Ls.length := by unfold downL; split; rfl; rw [mvd_len]
theorem go_len (Ls : List Ln) (r : Nat) : (goL Ls r).length = Ls.length := by unfold goL; rw [down_len, mark_len]
theorem down_lt {Ls : List Ln} {r : Nat} (h : r < Ls.length) : downR Ls r < Ls.length := by unfold downR; split <;> omega
theorem Even.down {Ls : List Ln} {wd : Nat} (h : Even Ls wd) (r : Nat) : Even (downL Ls r) wd := by unfold downL; split; exact h; exact h.mvd _ _ _ _
theorem Even.mark {Ls : List Ln} {wd : Nat} (h : Even Ls wd) {r : Nat} (hr : r < Ls.length) : Even (markL Ls r) wd := h.set r (h.2.2.2.2 r hr)
theorem Even.go {Ls : List Ln} {wd : Nat} (h : Even Ls wd) {r : Nat} (hr : r < Ls.length) : Even (goL Ls r) wd := (h.mark hr).down r
theorem Even.pnt {Ls : List Ln} {wd : Nat} (h : Even Ls wd) {r : Nat} (hr : r < Ls.length) (c : Nat) (p : List Cl) : Even (pntL Ls r c p) wd := h.set r (by show (paintL _ _ _).length = wd; rw [paint_len]; exact h.2.2.2.2 r hr)
/-- Put, behind Hold: the width and the text that are put; then row by row. -/
def plcK (wd : Nat) (n : Int) : Int := if (wd : Int) < max 1 (min n 2) then 1 else max 1 (min n 2)
def plcX (wd : Nat) (n : Int) (xs : List Int) : List Int := if (wd : Int) < max 1 (min n 2) then [65533] else xs
def p1L (Ls : List Ln) (r : Nat) (pd : Bool) : List Ln := if pd then goL Ls r else Ls
def p1R (Ls : List Ln) (r : Nat) (pd : Bool) : Nat := if pd then downR Ls r else r
def p1C (c : Nat) (pd : Bool) : Nat := if pd then 0 else c
/-- Room for what is 2 wide. -/
def p2L (wd : Nat) (k : Int) (Ls : List Ln) (r c : Nat) (au : Bool) : List Ln := if k = 2 ∧ c + 1 = wd then (if au then goL (pntL Ls r c [zc]) r else Ls) else Ls
def p2R (wd : Nat) (k : Int) (Ls : List Ln) (r c : Nat) (au : Bool) : Nat := if k = 2 ∧ c + 1 = wd then (if au then downR Ls r else r) else r
def p2C (wd : Nat) (k : Int) (c : Nat) (au : Bool) : Nat := if k = 2 ∧ c + 1 = wd then (if au then 0 else c - 1) else c
theorem plcK_cases (wd : Nat) (n : Int) : plcK wd n = 1 ∨ plcK wd n = 2 ∧ 2 ≤ wd := by unfold plcK; split <;> omega
theorem p1_lt {Ls : List Ln} {r : Nat} (pd : Bool) (h : r < Ls.length) : p1R Ls r pd < (p1L Ls r pd).length ∧ (p1L Ls r pd).length = Ls.length := by
  unfold p1R p1L
  cases pd
  · exact ⟨h, rfl⟩
  · exact ⟨by rw [if_pos rfl, if_pos rfl, go_len]; exact down_lt h, by rw [if_pos rfl, go_len]⟩
theorem p2_lt {wd : Nat} {k : Int} {Ls : List Ln} {r c : Nat} (au : Bool) (h : r < Ls.length) : p2R wd k Ls r c au < (p2L wd k Ls r c au).length ∧ (p2L wd k Ls r c au).length = Ls.length := by
  unfold p2R p2L
  split
  · cases au
    · exact ⟨h, rfl⟩
    · exact ⟨by rw [if_pos rfl, if_pos rfl, go_len, pnt_len]; exact down_lt h, by rw [if_pos rfl, go_len, pnt_len]⟩
  · exact ⟨h, rfl⟩
theorem p1_even {Ls : List Ln} {wd r : Nat} (h : Even Ls wd) (pd : Bool) (hr : r < Ls.length) : Even (p1L Ls r pd) wd := by
  unfold p1L; cases pd; exact h; exact h.go hr
theorem p2_even {Ls : List Ln} {wd r c : Nat} {k : Int} (h : Even Ls wd) (au : Bool) (hr : r < Ls.length) : Even (p2L wd k Ls r c au) wd := by
  unfold p2L
  split
  · cases au
    · exact h
    · exact (h.pnt hr c [zc]).go (by rw [pnt_len]; exact hr)
  · exact h
theorem p2_room {wd : Nat} {k : Int} {c : Nat} (au : Bool) (hk : k = 1 ∨ k = 2 ∧ 2 ≤ wd) (hc : c < wd) : (p2C wd k c au : Int) + k ≤ wd ∧ p2C wd k c au < wd := by
  unfold p2C
  split
  · cases au
    · rw [if_neg (by decide)]; omega
    · rw [if_pos rfl]; omega
  · omega
/-- Put as a whole: lines, row and column of the cluster. -/
def plcL (Ls : List Ln) (wd r c : Nat) (pd au : Bool) (n : Int) (xs : List Int) : List Ln :=
  pntL (p2L wd (plcK wd n) (p1L Ls r pd) (p1R Ls r pd) (p1C c pd) au) (p2R wd (plcK wd n) (p1L Ls r pd) (p1R Ls r pd) (p1C c pd) au) (p2C wd (plcK wd n) (p1C c pd) au) (ofC (plcK wd n) (plcX wd n xs))
def plcR (Ls : List Ln) (wd r c : Nat) (pd au : Bool) (n : Int) : Nat := p2R wd (plcK wd n) (p1L Ls r pd) (p1R Ls r pd) (p1C c pd) au
def plcC (wd c : Nat) (pd au : Bool) (n : Int) : Nat := p2C wd (plcK wd n) (p1C c pd) au
theorem plc_lt {Ls : List Ln} {wd r c : Nat} (pd au : Bool) (n : Int) (xs : List Int) (hr : r < Ls.length) (hc : c < wd) : plcR Ls wd r c pd au n < Ls.length ∧ plcC wd c pd au n < wd ∧ (plcC wd c pd au n : Int) + plcK wd n ≤ wd ∧ (plcL Ls wd r c pd au n xs).length = Ls.length := by
  have h1 := p1_lt pd hr
  have h2 := p2_lt (wd := wd) (k := plcK wd n) (c := p1C c pd) au h1.1
  have h3 := p2_room (c := p1C c pd) au (plcK_cases wd n) (by unfold p1C; split <;> omega)
  refine ⟨by unfold plcR; omega, h3.2, h3.1, ?_⟩
  unfold plcL
  rw [pnt_len]
  omega
end Go.Proofs.YtoeggiplcaegoaaGreatDoor
/- The reference's pen: Wide, Hold, With. -/
namespace Go.Proofs.YtoeggiplcaegoaaGreatDoor
open Go.RowKit Go.ChangeShapes Go.WideShapes
theorem pboxes (w : World) (a0 a1 a2 a3 a4 b0 b1 b2 b3 b4 : Value) : ∃ W, W = (w.alloc (.cells #[a0, a1, a2, a3, a4] 43)).alloc (.cells #[b0, b1, b2, b3, b4] 43) ∧
    Has W w.heap.size [a0, a1, a2, a3, a4] 43 ∧ Has W (w.heap.size + 1) [b0, b1, b2, b3, b4] 43 ∧ Below w.heap.size w W := by
  refine ⟨_, rfl, (Has.new w _ _).alloc _, ?_, ((Below.refl _ _).alloc (Nat.le_refl _) _).alloc (by simp) _⟩
  have := Has.new (w.alloc (.cells #[a0, a1, a2, a3, a4] 43)) [b0, b1, b2, b3, b4] 43
  simpa using this
/-- A pen's box that was turned, beside the result's. -/
theorem pturn {w W : World} {g : Nat} {p a b d e : Value} {D : List Value} (h : Has W g [p, a, b, d, e] 43) (k : Has W (g + 1) D 43) (hb : Below w.heap.size w W) (hg : w.heap.size ≤ g) (x y z : Value) : ∃ W', W' = ((W.setCell ⟨g, 1, none⟩ x).setCell ⟨g, 2, none⟩ y).setCell ⟨g, 3, none⟩ z ∧ Has W' g [p, x, y, z, e] 43 ∧ Has W' (g + 1) D 43 ∧ Below w.heap.size w W' ∧ Upd (fun b => b = g) W W' :=
  ⟨_, rfl, ((h.set 1 x).set 2 y).set 3 z, ((k.setOther ⟨g, 1, none⟩ x (by show g + 1 ≠ g; omega)).setOther ⟨g, 2, none⟩ y (by show g + 1 ≠ g; omega)).setOther ⟨g, 3, none⟩ z (by show g + 1 ≠ g; omega),
    hb.trans ((((Upd.refl (fun b => w.heap.size ≤ b) W).setCell (p := ⟨g, 1, none⟩) (.inl hg) x).setCell (p := ⟨g, 2, none⟩) (.inl hg) y).setCell (p := ⟨g, 3, none⟩) (.inl hg) z |>.below hb.size fun _ e => e), (((Upd.refl (fun b => b = g) W).setCell (p := ⟨g, 1, none⟩) (.inl rfl) x).setCell (p := ⟨g, 2, none⟩) (.inl rfl) y).setCell (p := ⟨g, 3, none⟩) (.inl rfl) z⟩
/-- The result's box was written. -/
theorem pres {w W : World} {g : Nat} (hb : Below w.heap.size w W) (hg : w.heap.size ≤ g) (a b c d e : Value) : Below w.heap.size w (((((W.setCell ⟨g, 0, none⟩ a).setCell ⟨g, 1, none⟩ b).setCell ⟨g, 2, none⟩ c).setCell ⟨g, 3, none⟩ d).setCell ⟨g, 4, none⟩ e) :=
  hb.trans ((((((Upd.refl (fun b => w.heap.size ≤ b) W).setCell (p := ⟨g, 0, none⟩) (.inl hg) a).setCell (p := ⟨g, 1, none⟩) (.inl hg) b).setCell (p := ⟨g, 2, none⟩) (.inl hg) c).setCell (p := ⟨g, 3, none⟩) (.inl hg) d).setCell (p := ⟨g, 4, none⟩) (.inl hg) e |>.below hb.size fun _ e => e)
/-- What the reference's steps give. -/
def RPen (Z : Zone) (w : World) (Ls : List Ln) (r c : Int) (pd au : Bool) (e : Ending) (w' : World) : Prop := ∃ v, e = .returned (.agg #[v, .int .i64 r, .int .i64 c, .bool pd, .bool au]) ∧ HeldE lineE (fun b => Z b ∨ (w.heap.size ≤ b ∧ b < w'.heap.size)) w' v Ls ∧ Below w.heap.size w w'
set_option maxRecDepth 100000 in
theorem rpw_any (Z : Zone) (v : Value) (Ls : List Ln) (r c : Int) (pd au : Bool) (w : World) (hv : HeldE lineE Z w v Ls) (h0 : 0 < Ls.length) : Calls Tryz.prog 107 #[.agg #[v, .int .i64 r, .int .i64 c, .bool pd, .bool au]] w (Gives w (.int .i64 ((Ls.getD 0 zl).1.length : Nat))) := by
  obtain ⟨ao, ca, rfl⟩ := hv.len
  obtain ⟨_, hcap, hc⟩ := lines_at hv
  obtain ⟨b, off, cv, rfl, hb, _, z0, _, hz0⟩ := hc 0 h0
  obtain ⟨a0, x0, rfl⟩ := hz0.len
  rw [Nat.zero_mul, Nat.add_zero] at z0
  obtain ⟨n, hn⟩ : ∃ n, n = Ls.length := ⟨_, rfl⟩
  rw [← hn] at h0 hcap ⊢
  obtain ⟨m, hm⟩ : ∃ m, m = (Ls.getD 0 zl).1.length := ⟨_, rfl⟩
  rw [← hm] at z0 ⊢
  have hb5 := (Below.refl w.heap.size w).alloc (Nat.le_refl _) (.cells [Value.slice (some ⟨b, off, none⟩) n ca, .int .i64 r, .int .i64 c, .bool pd, .bool au].toArray 43)
  have HB := Lib.hid hb5
  have z1 := (hb5.cell (p := ⟨b, off, none⟩) hb).trans z0
  obtain ⟨W, hW⟩ : ∃ W, W = w.alloc (.cells [Value.slice (some ⟨b, off, none⟩) n ca, .int .i64 r, .int .i64 c, .bool pd, .bool au].toArray 43) := ⟨_, rfl⟩
  have hn5 := Has.new w [Value.slice (some ⟨b, off, none⟩) n ca, .int .i64 r, .int .i64 c, .bool pd, .bool au] 43
  rw [← hW] at z1 hn5 HB
  have q0 := hn5.cell 0 _ rfl
  have hW' : W = w.alloc (.cells #[Value.slice (some ⟨b, off, none⟩) n ca, .int .i64 r, .int .i64 c, .bool pd, .bool au] 43) := hW
  clear hv hc hz0 z0 hb5 hn5 hW hm hn
  go_enter Tryz.func107, Tryz.ntmps107
  go_upto_region 1 with (fail)
  rw [← hW']
  clear hW'
  go_wp2
  go_ret
  exact ⟨(ret_eq (by first | rfl | (simp <;> omega))), HB.out⟩
set_option maxRecDepth 100000 in
theorem rph_any (Z : Zone) (v : Value) (Ls : List Ln) (r c : Int) (pd au : Bool) (w : World) (hv : HeldE lineE Z w v Ls) (h0 : 0 < Ls.length) (wd : Nat) (hwd : (Ls.getD 0 zl).1.length = wd) : Calls Tryz.prog 141 #[.agg #[v, .int .i64 r, .int .i64 c, .bool pd, .bool au]] w (Gives w (.agg #[v, .int .i64 (inI r (sideI Ls.length)), .int .i64 (inI c (sideI wd)), .bool (holdP c pd wd), .bool au])) := by
  obtain ⟨ao, ca, rfl⟩ := hv.len
  obtain ⟨n, hn⟩ : ∃ n, n = Ls.length := ⟨_, rfl⟩
  have HN := Lib.hid hn
  have HV := Lib.hid hv
  rw [← hn] at h0 HV ⊢
  obtain ⟨W, hW, hb, hr, hl⟩ := pboxes w (.slice ao n ca) (.int .i64 r) (.int .i64 c) (.bool pd) (.bool au) (.slice none 0 0) (.int .i64 0) (.int .i64 0) (.bool false) (.bool false)
  have HB := Lib.hid hb
  have HR := Lib.hid hr
  have HL := Lib.hid hl
  have HWD := Lib.hid (show ∀ w' : World, Below w.heap.size w w' → Calls Tryz.prog 107 #[.agg #[.slice ao n ca, .int .i64 r, .int .i64 c, .bool pd, .bool au]] w' (Gives w' (.int .i64 wd)) from fun w' hb => by
    have h := rpw_any Z (.slice ao n ca) Ls r c pd au w' (HV.out.below hb) (by omega)
    rw [hwd] at h
    exact h)
  have e0 := ext_cell (hb.cell 0 _ rfl)
  have e1 := ext_cell (hb.cell 1 _ rfl)
  have e2 := ext_cell (hb.cell 2 _ rfl)
  have e3 := ext_cell (hb.cell 3 _ rfl)
  have e4 := ext_cell (hb.cell 4 _ rfl)
  have f1 := ext_free (a := ⟨w.heap.size, 1, none⟩) hb.lt (hb.free 1)
  have f2 := ext_free (a := ⟨w.heap.size, 2, none⟩) hb.lt (hb.free 2)
  have f3 := ext_free (a := ⟨w.heap.size, 3, none⟩) hb.lt (hb.free 3)
  clear hv hn hb hr hl hwd
  go_enter Tryz.func141, Tryz.ntmps141
  go_upto_region 1 with (fail)
  rw [← hW]
  clear hW
  refine wp_region_ext_tail 9 (by kernel_rfl) (by simp) (by kernel_rfl) (by kernel_rfl) (by kernel_rfl) (by kernel_rfl) (by kernel_rfl) ?_
  simp only [List.take_succ_cons, List.take_zero, List.drop_succ_cons, List.drop_zero]
  repeat (go_big_quiet_step ((first | (go_at_call 107; exact callx (HWD.out _ (ext_below HL.out _))) | (go_at_call 165; exact callx (rhold_any r c pd wd n _)))))
  refine wpQuiet_nil ?_
  intro _ hw'
  obtain ⟨u, hw''⟩ := hw'
  subst hw''
  obtain ⟨W2, hW2⟩ : ∃ W2, W2 = ext W u := ⟨_, rfl⟩
  have hb2 : Has W2 w.heap.size [.slice ao n ca, .int .i64 r, .int .i64 c, .bool pd, .bool au] 43 := by rw [hW2]; exact HB.out.below u.ok HB.out.lt
  have hr2 : Has W2 (w.heap.size + 1) [.slice none 0 0, .int .i64 0, .int .i64 0, .bool false, .bool false] 43 := by rw [hW2]; exact HR.out.below u.ok HR.out.lt
  have hl2 : Below w.heap.size w W2 := by rw [hW2]; exact ext_below HL.out u
  obtain ⟨W3, hW3, hb3, hr3, hl3, _⟩ := pturn hb2 hr2 hl2 (Nat.le_refl _) (.int .i64 (inI r (sideI n))) (.int .i64 (inI c (sideI wd))) (.bool (holdP c pd wd))
  have HW2 := Lib.hid hW2
  have HB3 := Lib.hid hb3
  have HR3 := Lib.hid hr3
  have HL3 := Lib.hid hl3
  have HW3 := Lib.hid hW3
  clear hW2 hb2 hr2 hl2 hb3 hr3 hl3 hW3
  go_upto_region 2 with (fail)
  rw [← HW2.out]
  rw [← HW3.out]
  clear e0 e1 e2 e3 e4 f1 f2 f3
  have hb3 := HB3.out
  have hr3 := HR3.out
  have c0 := hb3.cell 0 _ rfl
  have c1 := hb3.cell 1 _ rfl
  have c2 := hb3.cell 2 _ rfl
  have c3 := hb3.cell 3 _ rfl
  have c4 := hb3.cell 4 _ rfl
  have k0 := hr3.cell 0 _ rfl
  have k1 := hr3.cell 1 _ rfl
  have k2 := hr3.cell 2 _ rfl
  have k3 := hr3.cell 3 _ rfl
  have k4 := hr3.cell 4 _ rfl
  have g0 := hr3.free 0
  have g1 := hr3.free 1
  have g2 := hr3.free 2
  have g3 := hr3.free 3
  have g4 := hr3.free 4
  have hlt := hr3.lt
  have HBL := Lib.hid (pres (g := w.heap.size + 1) HL3.out (by omega) (.slice ao n ca) (.int .i64 (inI r (sideI n))) (.int .i64 (inI c (sideI wd))) (.bool (holdP c pd wd)) (.bool au))
  clear hb3 hr3
  go_wp2
  exact bodyPost_ret (v := .agg #[.slice ao n ca, .int .i64 (inI r (sideI n)), .int .i64 (inI c (sideI wd)), .bool (holdP c pd wd), .bool au]) (by simp [results, Tryz.results141, go_sem, k0, k1, k2, k3, k4]) rfl ⟨rfl, HBL.out⟩
end Go.Proofs.YtoeggiplcaegoaaGreatDoor
/- The reference's pen: With. -/
namespace Go.Proofs.YtoeggiplcaegoaaGreatDoor
open Go.RowKit Go.ChangeShapes Go.WideShapes
/-- A row that is owned and has something is a block. -/
theorem own_shape {α : Type} {E : Elem α} {Z : Zone} {w : World} {B : Nat} {ty : TypeId} {v : Value} {L : List α} (h : OwnE E Z w B ty v L) (h0 : 0 < L.length) : ∃ g cap, v = .slice (some ⟨g, 0, none⟩) L.length cap ∧ B ≤ g ∧ g < w.heap.size ∧ L.length ≤ cap := by
  obtain ⟨CS, h1, h2, h3⟩ := h
  rcases h1.2 with ⟨e, hz⟩ | ⟨g, cap, cur, rfl, hB, hg, hnc, _⟩
  · omega
  · exact ⟨g, cap, rfl, hB, (Array.getElem?_eq_some_iff.1 hg).1, hnc⟩
theorem wboxes (w : World) (a0 a1 a2 a3 a4 x0 x1 : Value) : ∃ W, W = ((w.alloc (.cells #[a0, a1, a2, a3, a4] 43)).alloc (.cells #[x0, x1] 104)).alloc (.cells #[Value.slice none 0 0, .int .i64 0, .int .i64 0, .bool false, .bool false] 43) ∧
    Has W w.heap.size [a0, a1, a2, a3, a4] 43 ∧ Has W (w.heap.size + 1) [x0, x1] 104 ∧ Has W (w.heap.size + 2) [Value.slice none 0 0, .int .i64 0, .int .i64 0, .bool false, .bool false] 43 ∧ Below w.heap.size w W ∧ W.heap.size = w.heap.size + 3 := by
  refine ⟨_, rfl, ((Has.new w _ _).alloc _).alloc _, ?_, ?_, (((Below.refl _ _).alloc (Nat.le_refl _) _).alloc (by simp) _).alloc (by simp <;> omega) _, by simp⟩
  · have := Has.new (w.alloc (.cells #[a0, a1, a2, a3, a4] 43)) [x0, x1] 104
    exact Has.alloc (by simpa using this) _
  · have := Has.new ((w.alloc (.cells #[a0, a1, a2, a3, a4] 43)).alloc (.cells #[x0, x1] 104)) [Value.slice none 0 0, .int .i64 0, .int .i64 0, .bool false, .bool false] 43
    simpa using this
set_option maxRecDepth 100000 in
set_option maxHeartbeats 2000000 in
theorem rpwith_any (Z : Zone) (v : Value) (Ls : List Ln) (r c : Int) (pd au : Bool) (i : Nat) (cv : Value) (L : List Cl) (b : Bool) (w : World) (hv : HeldE lineE Z w v Ls) (hc : HeldE cellE Z w cv L) (hZ : ∀ b, Z b → b < w.heap.size) (hi : i < Ls.length) (hl : Ls.length ≤ 1000) : Calls Tryz.prog 171 #[.agg #[v, .int .i64 r, .int .i64 c, .bool pd, .bool au], .int .i64 i, .agg #[cv, .bool b]] w (RPen Z w (Ls.set i (L, b)) r c pd au) := by
  obtain ⟨ao, ca, rfl⟩ := hv.len
  obtain ⟨co, cc, rfl⟩ := hc.len
  obtain ⟨W, hW, hb, hx, hr, hl0, hs⟩ := wboxes w (.slice ao Ls.length ca) (.int .i64 r) (.int .i64 c) (.bool pd) (.bool au) (.slice co L.length cc) (.bool b)
  have hb3 := (Below.refl W.heap.size W).alloc (Nat.le_refl _) (.cells #[] 104)
  have ho1 := OwnE.lit (B := W.heap.size) (ty := 104) (Z := Z) W lineE [] [] 0 rfl rfl (Nat.le_refl _) (by decide) (fun i hi => absurd hi (Nat.not_lt_zero _)) #[] rfl
  have HB := Lib.hid (hb.below hb3 hb.lt)
  have HX := Lib.hid (hx.below hb3 hx.lt)
  have HR := Lib.hid (hr.below hb3 hr.lt)
  have HL := Lib.hid (hl0.trans (hb3.mono hl0.size))
  have HO := Lib.hid ho1
  have hap : ∀ x, Z x → (Value.slice (some ⟨W.heap.size, 0, none⟩) 0 0).ownBlock ≠ some x := fun x hz e => by
    have := hZ x hz
    have e2 : W.heap.size = x := by simpa [Value.ownBlock] using e
    omega
  have HV := Lib.hid (show HeldE lineE (fun x => Z x ∧ (Value.slice (some ⟨W.heap.size, 0, none⟩) 0 0).ownBlock ≠ some x) (W.alloc (.cells #[] 104)) (.slice ao Ls.length ca) Ls from (hv.below HL.out).zone fun x _ hz => ⟨hz, hap x hz⟩)
  have HC := Lib.hid (hc.below HL.out)
  have HBW := Lib.hid (show W.heap.size ≤ (W.alloc (.cells #[] 104)).heap.size from hb3.size)
  have q0 := HB.out.cell 0 _ rfl
  have HS := Lib.hid hs
  have HZ := Lib.hid hZ
  obtain ⟨n, hn⟩ : ∃ n, n = Ls.length := ⟨_, rfl⟩
  have HN := Lib.hid hn
  obtain ⟨m, hm⟩ : ∃ m, m = L.length := ⟨_, rfl⟩
  rw [← hn] at hW HB HV q0 hi hl ⊢
  rw [← hm] at hW HX HC ⊢
  clear hv hc hb hx hr hl0 hb3 ho1 hap hs hZ hn hm
  go_enter Tryz.func171, Tryz.ntmps171
  go_upto_region 1 with (fail)
  rw [← hW]
  clear hW
  go_wp2_with (at_builtin; refine wpList_append_e (E := lineE) (Z := Z) rfl (.tmp 7) (.tmp 9) 22 rfl (.agg #[.slice none 0 0, .bool false]) 32 Tryz.underlying22 info_line rfl (by decide) rfl rfl HO.out HV.out (by have := HN.out; simp only [List.length_nil]; omega) (by have := HN.out; simp only [List.length_nil]; omega) HBW.out ?_)
  intro v2 wn ho2 b2 k2 h4
  obtain ⟨g2, n2, rfl, hB2, hg2, hn2⟩ := own_shape ho2 (by have := HN.out; omega)
  rw [← HN.out] at ho2 hn2 ⊢
  have hb2 := HB.out.below b2 (by have := HS.out; omega)
  have HX2 := Lib.hid (HX.out.below b2 (by have := HS.out; omega))
  have HR2 := Lib.hid (HR.out.below b2 (by have := HS.out; omega))
  have hu3 := (Upd.refl (fun x => x = w.heap.size) wn).setCell (p := ⟨w.heap.size, 0, none⟩) (.inl rfl) (.slice (some ⟨g2, 0, none⟩) n n2)
  have HO3 := Lib.hid (OwnE.upd ho2 hu3 (fun x hx e => by
    have := HS.out
    rcases hx with hx | hx
    · have := HZ.out x hx; omega
    · have e2 : g2 = x := by simpa [Value.ownBlock] using hx
      omega))
  have HB3 := Lib.hid (show Has (wn.setCell ⟨w.heap.size, 0, none⟩ (.slice (some ⟨g2, 0, none⟩) n n2)) w.heap.size [.slice (some ⟨g2, 0, none⟩) n n2, .int .i64 r, .int .i64 c, .bool pd, .bool au] 43 from hb2.set 0 _)
  have HX3 := Lib.hid (hu3.keep.has HX2.out (fun e => by omega))
  have HR3 := Lib.hid (hu3.keep.has HR2.out (fun e => by omega))
  have hl3 : Below w.heap.size w wn := HL.out.trans (b2.mono (by have := HS.out; omega))
  have HL3 := Lib.hid (hl3.trans (((Upd.refl (fun b => w.heap.size ≤ b) wn).setCell (p := ⟨w.heap.size, 0, none⟩) (.inl (Nat.le_refl _)) (.slice (some ⟨g2, 0, none⟩) n n2)).below hl3.size fun _ e => e))
  have HC3 := Lib.hid ((HC.out.kept ((KeepZ.below b2).mono fun x _ hz => by have := HZ.out x hz; have := HS.out; omega)).upd hu3 (fun x hx e => by have := HZ.out x hx; omega))
  have f0 := hb2.free 0
  have p0 := hb2.cell 0 _ rfl
  obtain ⟨W3, hW3⟩ : ∃ W3, W3 = wn.setCell ⟨w.heap.size, 0, none⟩ (.slice (some ⟨g2, 0, none⟩) n n2) := ⟨_, rfl⟩
  rw [← hW3] at HO3 HB3 HX3 HR3 HL3 HC3
  have HN2 := Lib.hid hn2
  have HB2 := Lib.hid (show w.heap.size + 3 ≤ g2 from by have := HS.out; omega)
  clear ho2 hb2 b2 k2 h4 hB2 hg2 hn2 hu3 hl3 HX2 HR2 HO HV HX HR HB HC HBW HL q0
  go_upto_region 2 with (fail)
  rw [← hW3]
  clear hW3 f0 p0
  have c0 := HB3.out.cell 0 _ rfl
  have x0 := HX3.out.cell 0 _ rfl
  have x1 := HX3.out.cell 1 _ rfl
  have hii : (i : Int) < (n : Int) := by omega
  go_wp2_with (refine wpList_put_e (E := lineE) (Y := Z) (i := i) rfl 104 (.tmp 16) (.tmp 15) rfl rfl rfl [.slice co m cc, .bool b] rfl (by kernel_rfl) HO3.out.each (by rw [← HN.out]; exact hi) (L, b) (line_rep.2 ⟨_, rfl, HC3.out.zone fun x _ hz => ⟨hz, fun e => by have := HZ.out x hz; have := HB2.out; omega⟩⟩) ?_)
  intro w5 ho5 hu5
  have ho6 := ho5.all (Z := Z) (fun j x _ _ hz => hz)
  have HO6 := Lib.hid ho6
  have hb5 := hu5.keep.has HB3.out (fun e => by have := HB2.out; omega)
  have hr5 := hu5.keep.has HR3.out (fun e => by have := HB2.out; omega)
  have hl5 : Below w.heap.size w w5 := HL3.out.trans (hu5.below HL3.out.size fun x e => by have := HB2.out; omega)
  clear ho5 ho6 c0 x0 x1
  have c0 := hb5.cell 0 _ rfl
  have c1 := hb5.cell 1 _ rfl
  have c2 := hb5.cell 2 _ rfl
  have c3 := hb5.cell 3 _ rfl
  have c4 := hb5.cell 4 _ rfl
  have k0 := hr5.cell 0 _ rfl
  have k1 := hr5.cell 1 _ rfl
  have k2 := hr5.cell 2 _ rfl
  have k3 := hr5.cell 3 _ rfl
  have k4 := hr5.cell 4 _ rfl
  have g0 := hr5.free 0
  have g1 := hr5.free 1
  have g2' := hr5.free 2
  have g3 := hr5.free 3
  have g4 := hr5.free 4
  have hlt := hr5.lt
  have hbl := pres (g := w.heap.size + 2) hl5 (by omega) (.slice (some ⟨g2, 0, none⟩) n n2) (.int .i64 r) (.int .i64 c) (.bool pd) (.bool au)
  have hue := (((((Upd.refl (fun x => x = w.heap.size + 2) w5).setCell (p := ⟨w.heap.size + 2, 0, none⟩) (.inl rfl) (.slice (some ⟨g2, 0, none⟩) n n2)).setCell (p := ⟨w.heap.size + 2, 1, none⟩) (.inl rfl) (.int .i64 r)).setCell (p := ⟨w.heap.size + 2, 2, none⟩) (.inl rfl) (.int .i64 c)).setCell (p := ⟨w.heap.size + 2, 3, none⟩) (.inl rfl) (.bool pd)).setCell (p := ⟨w.heap.size + 2, 4, none⟩) (.inl rfl) (.bool au)
  have hoe := OwnE.upd HO6.out hue (fun x hx e => by
    rcases hx with hx | hx
    · have := HZ.out x hx; omega
    · have e2 : g2 = x := by simpa [Value.ownBlock] using hx
      have := HB2.out; omega)
  have hhe := ((ownE_zone (Y := fun x => Z x ∨ w.heap.size ≤ x) hoe (fun x _ hz => .inl hz)).held (fun x hx _ => .inr (by have := HS.out; omega))).zone (Y := fun x => Z x ∨ (w.heap.size ≤ x ∧ x < (((((w5.setCell ⟨w.heap.size + 2, 0, none⟩ (.slice (some ⟨g2, 0, none⟩) n n2)).setCell ⟨w.heap.size + 2, 1, none⟩ (.int .i64 r)).setCell ⟨w.heap.size + 2, 2, none⟩ (.int .i64 c)).setCell ⟨w.heap.size + 2, 3, none⟩ (.bool pd)).setCell ⟨w.heap.size + 2, 4, none⟩ (.bool au)).heap.size)) (fun x hx hz => by rcases hz with hz | hz; exact .inl hz; exact .inr ⟨hz, hx⟩)
  have HF := Lib.hid (And.intro hhe hbl)
  clear hhe hbl hue hoe hb5 hr5 hl5 hu5
  go_wp2
  exact bodyPost_ret (v := .agg #[.slice (some ⟨g2, 0, none⟩) n n2, .int .i64 r, .int .i64 c, .bool pd, .bool au]) (by simp [results, Tryz.results171, go_sem, k0, k1, k2, k3, k4]) rfl ⟨_, rfl, HF.out.1, HF.out.2⟩
end Go.Proofs.YtoeggiplcaegoaaGreatDoor
/- The reference's pen: Paint. -/
namespace Go.Proofs.YtoeggiplcaegoaaGreatDoor
open Go.RowKit Go.ChangeShapes Go.WideShapes
theorem lines_len {Z : Zone} {w : World} {v : Value} {L : List Ln} (h : HeldE lineE Z w v L) : ∃ ao cap, v = .slice ao L.length cap ∧ L.length ≤ cap ∧ ∀ i, i < L.length → ∃ b off cv, ao = some ⟨b, off, none⟩ ∧ b < w.heap.size ∧ Z b ∧ w.cell? ⟨b, off + i * 2, none⟩ = some cv ∧ w.cell? ⟨b, off + i * 2 + 1, none⟩ = some (.bool (L.getD i zl).2) ∧ HeldE cellE Z w cv (L.getD i zl).1 := by
  obtain ⟨ao, cap, rfl⟩ := h.len
  exact ⟨ao, cap, rfl, (lines_at h).2.1, (lines_at h).2.2⟩
/-- The result's box, five cells. -/
theorem pres_upd {W : World} (g : Nat) (a b c d e : Value) : Upd (fun x => x = g) W (((((W.setCell ⟨g, 0, none⟩ a).setCell ⟨g, 1, none⟩ b).setCell ⟨g, 2, none⟩ c).setCell ⟨g, 3, none⟩ d).setCell ⟨g, 4, none⟩ e) :=
  (((((Upd.refl (fun x => x = g) W).setCell (p := ⟨g, 0, none⟩) (.inl rfl) a).setCell (p := ⟨g, 1, none⟩) (.inl rfl) b).setCell (p := ⟨g, 2, none⟩) (.inl rfl) c).setCell (p := ⟨g, 3, none⟩) (.inl rfl) d).setCell (p := ⟨g, 4, none⟩) (.inl rfl) e
theorem pres_has {W : World} {g : Nat} {x0 x1 x2 x3 x4 : Value} (h : Has W g [x0, x1, x2, x3, x4] 43) (a b c d e : Value) : Has (((((W.setCell ⟨g, 0, none⟩ a).setCell ⟨g, 1, none⟩ b).setCell ⟨g, 2, none⟩ c).setCell ⟨g, 3, none⟩ d).setCell ⟨g, 4, none⟩ e) g [a, b, c, d, e] 43 := ((((h.set 0 a).set 1 b).set 2 c).set 3 d).set 4 e
set_option maxRecDepth 100000 in
set_option maxHeartbeats 3000000 in
theorem rpp_any (Z : Zone) (v : Value) (Ls : List Ln) (r c : Int) (pd au : Bool) (i a : Nat) (pv : Value) (p : List Cl) (w : World) (hv : HeldE lineE Z w v Ls) (hp : HeldE cellE Z w pv p) (hZ : ∀ b, Z b → b < w.heap.size) (hi : i < Ls.length) (hl : Ls.length ≤ 1000) (h0 : 0 < (Ls.getD i zl).1.length) (h1 : (Ls.getD i zl).1.length ≤ 1024) (hle : a + p.length ≤ (Ls.getD i zl).1.length) :
    Calls Tryz.prog 143 #[.agg #[v, .int .i64 r, .int .i64 c, .bool pd, .bool au], .int .i64 i, .int .i64 a, pv] w (RPen Z w (pntL Ls i a p) r c pd au) := by
  obtain ⟨ao, ca, rfl, hcap, hc⟩ := lines_len hv
  obtain ⟨b, off, cv, rfl, hbb, _, z0, z1, hz0⟩ := hc i hi
  obtain ⟨co, cc, rfl⟩ := hz0.len
  obtain ⟨po, pc, rfl⟩ := hp.len
  obtain ⟨pn, hpn⟩ : ∃ pn, pn = p.length := ⟨_, rfl⟩
  have hpl : pntL Ls i a p = Ls.set i (paintL (Ls.getD i zl).1 p a, (Ls.getD i zl).2 && !lastHit (Ls.getD i zl).1 p a) := rfl
  obtain ⟨⟨L, q⟩, hLq⟩ : ∃ y, y = Ls.getD i zl := ⟨_, rfl⟩
  rw [← hLq] at z0 z1 hz0 h0 h1 hle hpl
  simp only at z0 z1 hz0 h0 h1 hle hpl
  obtain ⟨W, hW, hb, hr, hl0⟩ := pboxes w (.slice (some ⟨b, off, none⟩) Ls.length ca) (.int .i64 r) (.int .i64 c) (.bool pd) (.bool au) (.slice none 0 0) (.int .i64 0) (.int .i64 0) (.bool false) (.bool false)
  have hs : W.heap.size = w.heap.size + 2 := by rw [hW]; simp
  have HB := Lib.hid hb
  have HR := Lib.hid hr
  have HL := Lib.hid hl0
  have HS := Lib.hid hs
  have HZ := Lib.hid hZ
  have HBB := Lib.hid (show b < W.heap.size from by omega)
  have Z0 := Lib.hid ((hl0.cell (p := ⟨b, off + i * 2, none⟩) hbb).trans z0)
  have Z1 := Lib.hid ((hl0.cell (p := ⟨b, off + i * 2 + 1, none⟩) hbb).trans z1)
  have HV := Lib.hid (hv.below hl0)
  have HPT := Lib.hid (show ∀ w' : World, Below W.heap.size W w' → Calls Tryz.prog 195 #[.slice co L.length cc, .bool q, .int .i64 a, .slice po p.length pc] w' (Painted (fun x => Z x ∨ W.heap.size ≤ x) w' (paintL L p a) (q && !lastHit L p a)) from fun w' hb' => rfpaint_any (fun x => Z x ∨ W.heap.size ≤ x) (.slice co L.length cc) (.slice po p.length pc) L p q a w' (fun x hx => .inr (Nat.le_trans hb'.size hx)) (((hz0.below hl0).below hb').zone fun x _ hz => .inl hz) (((hp.below hl0).below hb').zone fun x _ hz => .inl hz) h0 (by omega) hle)
  have HPL := Lib.hid hpl
  have HPN := Lib.hid (paint_len L p a)
  have HWT := Lib.hid (fun (w' : World) (v' : Value) (q' : Bool) (hb' : Below W.heap.size W w') (hc' : HeldE cellE (fun x => Z x ∨ (W.heap.size ≤ x ∧ x < w'.heap.size)) w' v' (paintL L p a)) => rpwith_any (fun x => Z x ∨ (W.heap.size ≤ x ∧ x < w'.heap.size)) (.slice (some ⟨b, off, none⟩) Ls.length ca) Ls r c pd au i v' (paintL L p a) q' w' (((hv.below hl0).below hb').zone fun x _ hz => .inl hz) hc' (fun x hx => by have := hb'.size; rcases hx with hx | hx; have := hZ x hx; omega; omega) hi hl)
  obtain ⟨n, hn⟩ : ∃ n, n = Ls.length := ⟨_, rfl⟩
  obtain ⟨ln, hln⟩ : ∃ ln, ln = L.length := ⟨_, rfl⟩
  rw [← hln] at HPT Z0 h0 h1 hle
  rw [← hn] at hW HB HWT hcap hi hl
  rw [← hpn] at HPT hle
  rw [← hn, ← hpn]
  obtain ⟨qq, hqq⟩ : ∃ qq, qq = (q && !lastHit L p a) := ⟨_, rfl⟩
  rw [← hqq] at HPT hpl
  obtain ⟨PL, hPL⟩ : ∃ PL, PL = paintL L p a := ⟨_, rfl⟩
  rw [← hPL] at HPT HWT hpl
  rw [hpl]
  have hii : (i : Int) < (n : Int) := by omega
  clear hv hc hz0 hp hb hr hl0 hs hZ hbb z0 z1 hLq hn hln hpn HPL hpl hqq hPL HPN
  go_enter Tryz.func143, Tryz.ntmps143
  go_upto_region 1 with (fail)
  rw [← hW]
  clear hW
  obtain ⟨Erg, hErg⟩ : ∃ EE : Nat → Value → World → Prop, EE = fun jj xx ww => match jj with
      | 0 => xx = .pointer (some ⟨w.heap.size, 0, none⟩)
      | 1 => xx = .slice (some ⟨b, off, none⟩) n ca
      | 2 => xx = .int .i64 i
      | 3 => xx = .pointer (some ⟨b, off + i * 2, none⟩)
      | 4 => xx = .pointer (some ⟨b, off + i * 2, none⟩)
      | 5 => xx = .slice co ln cc
      | 6 => xx = .pointer (some ⟨w.heap.size, 0, none⟩)
      | 7 => xx = .slice (some ⟨b, off, none⟩) n ca
      | 8 => xx = .int .i64 i
      | 9 => xx = .pointer (some ⟨b, off + i * 2, none⟩)
      | 10 => xx = .pointer (some ⟨b, off + i * 2 + 1, none⟩)
      | 11 => xx = .bool q
      | 12 => xx = .int .i64 a
      | 13 => xx = .slice po pn pc
      | 14 => (fun x w' => ∃ v', x = .tuple #[v', .bool qq] ∧ HeldE cellE (fun x => Z x ∨ W.heap.size ≤ x) w' v' PL) xx ww
      | 15 => (fun x w' => ∃ v', x = .tuple #[v', .bool qq] ∧ HeldE cellE (fun x => Z x ∨ W.heap.size ≤ x) w' v' PL) xx ww
      | 16 => (fun x w' => HeldE cellE (fun x => Z x ∨ W.heap.size ≤ x) w' x PL) xx ww
      | 17 => xx = .bool qq
      | 18 => (fun x w' => HeldE cellE (fun x => Z x ∨ W.heap.size ≤ x) w' x PL) xx ww
      | 19 => xx = .bool qq
      | _ => True := ⟨_, rfl⟩
  have erg0 : ∀ xx ww, Erg 0 xx ww = (xx = .pointer (some ⟨w.heap.size, 0, none⟩)) := fun xx ww => congrFun (congrFun (congrFun hErg 0) xx) ww
  have erg1 : ∀ xx ww, Erg 1 xx ww = (xx = .slice (some ⟨b, off, none⟩) n ca) := fun xx ww => congrFun (congrFun (congrFun hErg 1) xx) ww
  have erg2 : ∀ xx ww, Erg 2 xx ww = (xx = .int .i64 i) := fun xx ww => congrFun (congrFun (congrFun hErg 2) xx) ww
  have erg3 : ∀ xx ww, Erg 3 xx ww = (xx = .pointer (some ⟨b, off + i * 2, none⟩)) := fun xx ww => congrFun (congrFun (congrFun hErg 3) xx) ww
  have erg4 : ∀ xx ww, Erg 4 xx ww = (xx = .pointer (some ⟨b, off + i * 2, none⟩)) := fun xx ww => congrFun (congrFun (congrFun hErg 4) xx) ww
  have erg5 : ∀ xx ww, Erg 5 xx ww = (xx = .slice co ln cc) := fun xx ww => congrFun (congrFun (congrFun hErg 5) xx) ww
  have erg6 : ∀ xx ww, Erg 6 xx ww = (xx = .pointer (some ⟨w.heap.size, 0, none⟩)) := fun xx ww => congrFun (congrFun (congrFun hErg 6) xx) ww
  have erg7 : ∀ xx ww, Erg 7 xx ww = (xx = .slice (some ⟨b, off, none⟩) n ca) := fun xx ww => congrFun (congrFun (congrFun hErg 7) xx) ww
  have erg8 : ∀ xx ww, Erg 8 xx ww = (xx = .int .i64 i) := fun xx ww => congrFun (congrFun (congrFun hErg 8) xx) ww
  have erg9 : ∀ xx ww, Erg 9 xx ww = (xx = .pointer (some ⟨b, off + i * 2, none⟩)) := fun xx ww => congrFun (congrFun (congrFun hErg 9) xx) ww
  have erg10 : ∀ xx ww, Erg 10 xx ww = (xx = .pointer (some ⟨b, off + i * 2 + 1, none⟩)) := fun xx ww => congrFun (congrFun (congrFun hErg 10) xx) ww
  have erg11 : ∀ xx ww, Erg 11 xx ww = (xx = .bool q) := fun xx ww => congrFun (congrFun (congrFun hErg 11) xx) ww
  have erg12 : ∀ xx ww, Erg 12 xx ww = (xx = .int .i64 a) := fun xx ww => congrFun (congrFun (congrFun hErg 12) xx) ww
  have erg13 : ∀ xx ww, Erg 13 xx ww = (xx = .slice po pn pc) := fun xx ww => congrFun (congrFun (congrFun hErg 13) xx) ww
  have erg14 : ∀ xx ww, Erg 14 xx ww = ((fun x w' => ∃ v', x = .tuple #[v', .bool qq] ∧ HeldE cellE (fun x => Z x ∨ W.heap.size ≤ x) w' v' PL) xx ww) := fun xx ww => congrFun (congrFun (congrFun hErg 14) xx) ww
  have erg15 : ∀ xx ww, Erg 15 xx ww = ((fun x w' => ∃ v', x = .tuple #[v', .bool qq] ∧ HeldE cellE (fun x => Z x ∨ W.heap.size ≤ x) w' v' PL) xx ww) := fun xx ww => congrFun (congrFun (congrFun hErg 15) xx) ww
  have erg16 : ∀ xx ww, Erg 16 xx ww = ((fun x w' => HeldE cellE (fun x => Z x ∨ W.heap.size ≤ x) w' x PL) xx ww) := fun xx ww => congrFun (congrFun (congrFun hErg 16) xx) ww
  have erg17 : ∀ xx ww, Erg 17 xx ww = (xx = .bool qq) := fun xx ww => congrFun (congrFun (congrFun hErg 17) xx) ww
  have erg18 : ∀ xx ww, Erg 18 xx ww = ((fun x w' => HeldE cellE (fun x => Z x ∨ W.heap.size ≤ x) w' x PL) xx ww) := fun xx ww => congrFun (congrFun (congrFun hErg 18) xx) ww
  have erg19 : ∀ xx ww, Erg 19 xx ww = (xx = .bool qq) := fun xx ww => congrFun (congrFun (congrFun hErg 19) xx) ww
  obtain ⟨Crg, hCrg⟩ : ∃ CC : Array Bool → World → Prop, CC = fun L8 w' => Below W.heap.size W w' := ⟨_, rfl⟩
  have krg : ∀ i L w,  Crg L w → Crg (L.setIfInBounds i true) w := by
    intro i L w  h
    rw [hCrg] at h ⊢
    exact h
  obtain ⟨Xrg, hXrg⟩ : ∃ XX : World → World → Prop, XX = fun x y => Below x.heap.size x y := ⟨_, rfl⟩
  have xrg : ∀ w, Xrg w w := fun w => by rw [hXrg]; exact Below.refl _ _
  have strg : ∀ j x w w1, Xrg w w1 → Erg j x w → Erg j x w1 := by
    intro j x w w1 hx h
    rw [hXrg] at hx
    match j with
    | 0 => rw [erg0] at h ⊢; exact h
    | 1 => rw [erg1] at h ⊢; exact h
    | 2 => rw [erg2] at h ⊢; exact h
    | 3 => rw [erg3] at h ⊢; exact h
    | 4 => rw [erg4] at h ⊢; exact h
    | 5 => rw [erg5] at h ⊢; exact h
    | 6 => rw [erg6] at h ⊢; exact h
    | 7 => rw [erg7] at h ⊢; exact h
    | 8 => rw [erg8] at h ⊢; exact h
    | 9 => rw [erg9] at h ⊢; exact h
    | 10 => rw [erg10] at h ⊢; exact h
    | 11 => rw [erg11] at h ⊢; exact h
    | 12 => rw [erg12] at h ⊢; exact h
    | 13 => rw [erg13] at h ⊢; exact h
    | 14 => rw [erg14] at h ⊢; (first | exact HeldE.below h hx | (obtain ⟨v', e, h⟩ := h; exact ⟨v', e, HeldE.below h hx⟩))
    | 15 => rw [erg15] at h ⊢; (first | exact HeldE.below h hx | (obtain ⟨v', e, h⟩ := h; exact ⟨v', e, HeldE.below h hx⟩))
    | 16 => rw [erg16] at h ⊢; (first | exact HeldE.below h hx | (obtain ⟨v', e, h⟩ := h; exact ⟨v', e, HeldE.below h hx⟩))
    | 17 => rw [erg17] at h ⊢; exact h
    | 18 => rw [erg18] at h ⊢; (first | exact HeldE.below h hx | (obtain ⟨v', e, h⟩ := h; exact ⟨v', e, HeldE.below h hx⟩))
    | 19 => rw [erg19] at h ⊢; exact h
    | j + 20 => rw [hErg]; trivial
  have crg : Crg (Array.replicate 20 false) W.drew := by rw [hCrg]; exact (Below.refl _ _).drew
  have brg : ∀ L w w1, Crg L w → Below w.heap.size w w1 → Crg L w1 := by
    intro L w w1 h hb
    rw [hCrg] at h ⊢
    exact h.trans (hb.mono h.size)
  have xbrg : ∀ w w1, Below w.heap.size w w1 → Xrg w w1 := by
    intro w w1 hb
    rw [hXrg]
    exact hb
  have Hrgb := Lib.hid brg
  have Hrgxb := Lib.hid xbrg
  clear brg xbrg
  clear hErg
  have Hrgk := Lib.hid krg
  have Hrgx := Lib.hid xrg
  have Hrgst := Lib.hid strg
  have Hrgc := Lib.hid crg
  have HrghC := Lib.hid hCrg
  have HrghX := Lib.hid hXrg
  have Hrge0 := Lib.hid erg0
  have Hrge1 := Lib.hid erg1
  have Hrge2 := Lib.hid erg2
  have Hrge3 := Lib.hid erg3
  have Hrge4 := Lib.hid erg4
  have Hrge5 := Lib.hid erg5
  have Hrge6 := Lib.hid erg6
  have Hrge7 := Lib.hid erg7
  have Hrge8 := Lib.hid erg8
  have Hrge9 := Lib.hid erg9
  have Hrge10 := Lib.hid erg10
  have Hrge11 := Lib.hid erg11
  have Hrge12 := Lib.hid erg12
  have Hrge13 := Lib.hid erg13
  have Hrge14 := Lib.hid erg14
  have Hrge15 := Lib.hid erg15
  have Hrge16 := Lib.hid erg16
  have Hrge17 := Lib.hid erg17
  have Hrge18 := Lib.hid erg18
  have Hrge19 := Lib.hid erg19
  clear krg xrg strg crg hCrg hXrg erg0 erg1 erg2 erg3 erg4 erg5 erg6 erg7 erg8 erg9 erg10 erg11 erg12 erg13 erg14 erg15 erg16 erg17 erg18 erg19
  go_wp2_with fail
  refine Reg.regionF Erg Crg Xrg Hrgst.out (by kernel_rfl) (by kernel_rfl) (by kernel_rfl) Hrgc.out (fun Frg hFrg => ?_)
  simp only [Reg.frame, Reg.dsts, List.map_cons, List.map_nil, Mix.put_lit, List.set_cons_succ, List.set_cons_zero, Nat.zero_add, Nat.reduceAdd] at hFrg
  refine ⟨?_, ?_⟩
  · refine ⟨?_, ?_, ?_, ?_, ?_, ?_, ?_, ?_, ?_, ?_, ?_, ?_, ?_, ?_, ?_, ?_, ?_, ?_, ?_, ?_, trivial⟩
    · intro Lq wq xq hh
      simp only [hFrg]
      refine .inl ⟨rfl, ?_⟩
      unfold Reg.upon
      have hk := Hrgk.out 0 Lq wq  hh.cls
      have hx := Hrgx.out wq
      have he : Erg 0 (.pointer (some ⟨w.heap.size, 0, none⟩)) wq := by rw [Hrge0.out]
      have HK := Lib.hid (And.intro hk (And.intro he hx))
      clear hk hx he
      go_simp
      exact HK.out
    · intro Lq wq xq hh
      have d0 : Erg 0 (xq 0) wq := hh.val 0 (by kernel_rfl) (by kernel_rfl)
      rw [Hrge0.out] at d0
      simp only [hFrg, d0]
      clear d0
      refine .inl ⟨rfl, ?_⟩
      unfold Reg.upon
      have hc : Crg Lq wq := hh.cls
      rw [HrghC.out] at hc
      have q0 := (HB.out.below hc HB.out.lt).cell 0 _ rfl
      clear hc
      have hk := Hrgk.out 1 Lq wq  hh.cls
      have hx := Hrgx.out wq
      have he : Erg 1 (.slice (some ⟨b, off, none⟩) n ca) wq := by rw [Hrge1.out]
      have HK := Lib.hid (And.intro hk (And.intro he hx))
      clear hk hx he
      go_simp
      exact HK.out
    · intro Lq wq xq hh
      simp only [hFrg]
      refine .inl ⟨rfl, ?_⟩
      unfold Reg.upon
      have hk := Hrgk.out 2 Lq wq  hh.cls
      have hx := Hrgx.out wq
      have he : Erg 2 (.int .i64 i) wq := by rw [Hrge2.out]
      have HK := Lib.hid (And.intro hk (And.intro he hx))
      clear hk hx he
      go_simp
      exact HK.out
    · intro Lq wq xq hh
      have d1 : Erg 1 (xq 1) wq := hh.val 1 (by kernel_rfl) (by kernel_rfl)
      rw [Hrge1.out] at d1
      have d2 : Erg 2 (xq 2) wq := hh.val 2 (by kernel_rfl) (by kernel_rfl)
      rw [Hrge2.out] at d2
      simp only [hFrg, d1, d2]
      clear d1 d2
      refine .inl ⟨rfl, ?_⟩
      unfold Reg.upon
      have hk := Hrgk.out 3 Lq wq  hh.cls
      have hx := Hrgx.out wq
      have he : Erg 3 (.pointer (some ⟨b, off + i * 2, none⟩)) wq := by rw [Hrge3.out]
      have HK := Lib.hid (And.intro hk (And.intro he hx))
      clear hk hx he
      go_simp
      exact HK.out
    · intro Lq wq xq hh
      have d3 : Erg 3 (xq 3) wq := hh.val 3 (by kernel_rfl) (by kernel_rfl)
      rw [Hrge3.out] at d3
      simp only [hFrg, d3]
      clear d3
      refine .inl ⟨rfl, ?_⟩
      unfold Reg.upon
      have hk := Hrgk.out 4 Lq wq  hh.cls
      have hx := Hrgx.out wq
      have he : Erg 4 (.pointer (some ⟨b, off + i * 2, none⟩)) wq := by rw [Hrge4.out]
      have HK := Lib.hid (And.intro hk (And.intro he hx))
      clear hk hx he
      go_simp
      exact HK.out
    · intro Lq wq xq hh
      have d4 : Erg 4 (xq 4) wq := hh.val 4 (by kernel_rfl) (by kernel_rfl)
      rw [Hrge4.out] at d4
      simp only [hFrg, d4]
      clear d4
      refine .inl ⟨rfl, ?_⟩
      unfold Reg.upon
      have hc : Crg Lq wq := hh.cls
      rw [HrghC.out] at hc
      have q0 := (hc.cell (p := ⟨b, off + i * 2, none⟩) HBB.out).trans Z0.out
      clear hc
      have hk := Hrgk.out 5 Lq wq  hh.cls
      have hx := Hrgx.out wq
      have he : Erg 5 (.slice co ln cc) wq := by rw [Hrge5.out]
      have HK := Lib.hid (And.intro hk (And.intro he hx))
      clear hk hx he
      go_simp
      exact HK.out
    · intro Lq wq xq hh
      simp only [hFrg]
      refine .inl ⟨rfl, ?_⟩
      unfold Reg.upon
      have hk := Hrgk.out 6 Lq wq  hh.cls
      have hx := Hrgx.out wq
      have he : Erg 6 (.pointer (some ⟨w.heap.size, 0, none⟩)) wq := by rw [Hrge6.out]
      have HK := Lib.hid (And.intro hk (And.intro he hx))
      clear hk hx he
      go_simp
      exact HK.out
    · intro Lq wq xq hh
      have d6 : Erg 6 (xq 6) wq := hh.val 6 (by kernel_rfl) (by kernel_rfl)
      rw [Hrge6.out] at d6
      simp only [hFrg, d6]
      clear d6
      refine .inl ⟨rfl, ?_⟩
      unfold Reg.upon
      have hc : Crg Lq wq := hh.cls
      rw [HrghC.out] at hc
      have q0 := (HB.out.below hc HB.out.lt).cell 0 _ rfl
      clear hc
      have hk := Hrgk.out 7 Lq wq  hh.cls
      have hx := Hrgx.out wq
      have he : Erg 7 (.slice (some ⟨b, off, none⟩) n ca) wq := by rw [Hrge7.out]
      have HK := Lib.hid (And.intro hk (And.intro he hx))
      clear hk hx he
      go_simp
      exact HK.out
    · intro Lq wq xq hh
      simp only [hFrg]
      refine .inl ⟨rfl, ?_⟩
      unfold Reg.upon
      have hk := Hrgk.out 8 Lq wq  hh.cls
      have hx := Hrgx.out wq
      have he : Erg 8 (.int .i64 i) wq := by rw [Hrge8.out]
      have HK := Lib.hid (And.intro hk (And.intro he hx))
      clear hk hx he
      go_simp
      exact HK.out
    · intro Lq wq xq hh
      have d7 : Erg 7 (xq 7) wq := hh.val 7 (by kernel_rfl) (by kernel_rfl)
      rw [Hrge7.out] at d7
      have d8 : Erg 8 (xq 8) wq := hh.val 8 (by kernel_rfl) (by kernel_rfl)
      rw [Hrge8.out] at d8
      simp only [hFrg, d7, d8]
      clear d7 d8
      refine .inl ⟨rfl, ?_⟩
      unfold Reg.upon
      have hk := Hrgk.out 9 Lq wq  hh.cls
      have hx := Hrgx.out wq
      have he : Erg 9 (.pointer (some ⟨b, off + i * 2, none⟩)) wq := by rw [Hrge9.out]
      have HK := Lib.hid (And.intro hk (And.intro he hx))
      clear hk hx he
      go_simp
      exact HK.out
    · intro Lq wq xq hh
      have d9 : Erg 9 (xq 9) wq := hh.val 9 (by kernel_rfl) (by kernel_rfl)
      rw [Hrge9.out] at d9
      simp only [hFrg, d9]
      clear d9
      refine .inl ⟨rfl, ?_⟩
      unfold Reg.upon
      have hk := Hrgk.out 10 Lq wq  hh.cls
      have hx := Hrgx.out wq
      have he : Erg 10 (.pointer (some ⟨b, off + i * 2 + 1, none⟩)) wq := by rw [Hrge10.out]
      have HK := Lib.hid (And.intro hk (And.intro he hx))
      clear hk hx he
      go_simp
      exact HK.out
    · intro Lq wq xq hh
      have d10 : Erg 10 (xq 10) wq := hh.val 10 (by kernel_rfl) (by kernel_rfl)
      rw [Hrge10.out] at d10
      simp only [hFrg, d10]
      clear d10
      refine .inl ⟨rfl, ?_⟩
      unfold Reg.upon
      have hc : Crg Lq wq := hh.cls
      rw [HrghC.out] at hc
      have q0 := (hc.cell (p := ⟨b, off + i * 2 + 1, none⟩) HBB.out).trans Z1.out
      clear hc
      have hk := Hrgk.out 11 Lq wq  hh.cls
      have hx := Hrgx.out wq
      have he : Erg 11 (.bool q) wq := by rw [Hrge11.out]
      have HK := Lib.hid (And.intro hk (And.intro he hx))
      clear hk hx he
      go_simp
      exact HK.out
    · intro Lq wq xq hh
      simp only [hFrg]
      refine .inl ⟨rfl, ?_⟩
      unfold Reg.upon
      have hk := Hrgk.out 12 Lq wq  hh.cls
      have hx := Hrgx.out wq
      have he : Erg 12 (.int .i64 a) wq := by rw [Hrge12.out]
      have HK := Lib.hid (And.intro hk (And.intro he hx))
      clear hk hx he
      go_simp
      exact HK.out
    · intro Lq wq xq hh
      simp only [hFrg]
      refine .inl ⟨rfl, ?_⟩
      unfold Reg.upon
      have hk := Hrgk.out 13 Lq wq  hh.cls
      have hx := Hrgx.out wq
      have he : Erg 13 (.slice po pn pc) wq := by rw [Hrge13.out]
      have HK := Lib.hid (And.intro hk (And.intro he hx))
      clear hk hx he
      go_simp
      exact HK.out
    · intro Lq wq xq hh
      have d5 : Erg 5 (xq 5) wq := hh.val 5 (by kernel_rfl) (by kernel_rfl)
      rw [Hrge5.out] at d5
      have d11 : Erg 11 (xq 11) wq := hh.val 11 (by kernel_rfl) (by kernel_rfl)
      rw [Hrge11.out] at d11
      have d12 : Erg 12 (xq 12) wq := hh.val 12 (by kernel_rfl) (by kernel_rfl)
      rw [Hrge12.out] at d12
      have d13 : Erg 13 (xq 13) wq := hh.val 13 (by kernel_rfl) (by kernel_rfl)
      rw [Hrge13.out] at d13
      simp only [hFrg, d5, d11, d12, d13]
      clear d5 d11 d12 d13
      refine .inl ⟨rfl, ?_⟩
      unfold Reg.upon
      have hc : Crg Lq wq := hh.cls
      rw [HrghC.out] at hc
      go_simp
      refine (HPT.out wq hc).mono ?_
      rintro e w2 ⟨v2, rfl, ho2, hb2⟩
      exact ⟨_, rfl, Hrgk.out 14 Lq w2 (Hrgb.out Lq wq w2 hh.cls hb2), (by rw [Hrge14.out]; exact ⟨v2, rfl, ho2.held fun x hx _ => .inr (Nat.le_trans hc.size hx)⟩), Hrgxb.out wq w2 hb2⟩
    · intro Lq wq xq hh
      have d14 : Erg 14 (xq 14) wq := hh.val 14 (by kernel_rfl) (by kernel_rfl)
      rw [Hrge14.out] at d14
      simp only [hFrg]
      refine .inl ⟨rfl, ?_⟩
      unfold Reg.upon
      go_simp
      exact ⟨Hrgk.out 15 Lq wq hh.cls, (by rw [Hrge15.out]; exact d14), Hrgx.out _⟩
    · intro Lq wq xq hh
      have d15 : Erg 15 (xq 15) wq := hh.val 15 (by kernel_rfl) (by kernel_rfl)
      rw [Hrge15.out] at d15
      simp only [hFrg]
      refine .inl ⟨rfl, ?_⟩
      unfold Reg.upon
      obtain ⟨v9, e9, h9⟩ := d15
      rw [e9]
      go_simp
      exact ⟨Hrgk.out 16 Lq wq hh.cls, (by rw [Hrge16.out]; exact h9), Hrgx.out _⟩
    · intro Lq wq xq hh
      have d15 : Erg 15 (xq 15) wq := hh.val 15 (by kernel_rfl) (by kernel_rfl)
      rw [Hrge15.out] at d15
      simp only [hFrg]
      refine .inl ⟨rfl, ?_⟩
      unfold Reg.upon
      obtain ⟨v9, e9, h9⟩ := d15
      rw [e9]
      go_simp
      exact ⟨Hrgk.out 17 Lq wq hh.cls, (by rw [Hrge17.out]), Hrgx.out _⟩
    · intro Lq wq xq hh
      have d16 : Erg 16 (xq 16) wq := hh.val 16 (by kernel_rfl) (by kernel_rfl)
      rw [Hrge16.out] at d16
      simp only [hFrg]
      refine .inl ⟨rfl, ?_⟩
      unfold Reg.upon
      go_simp
      exact ⟨Hrgk.out 18 Lq wq hh.cls, (by rw [Hrge18.out]; exact d16), Hrgx.out _⟩
    · intro Lq wq xq hh
      have d17 : Erg 17 (xq 17) wq := hh.val 17 (by kernel_rfl) (by kernel_rfl)
      rw [Hrge17.out] at d17
      simp only [hFrg, d17]
      clear d17
      refine .inl ⟨rfl, ?_⟩
      unfold Reg.upon
      have hk := Hrgk.out 19 Lq wq  hh.cls
      have hx := Hrgx.out wq
      have he : Erg 19 (.bool qq) wq := by rw [Hrge19.out]
      have HK := Lib.hid (And.intro hk (And.intro he hx))
      clear hk hx he
      go_simp
      exact HK.out
  intro xq wrg hcrg hvrg
  rw [HrghC.out] at hcrg
  simp only [hFrg]
  have vrg18 : Erg 18 (xq 18) wrg := hvrg 18 (by decide)
  rw [Hrge18.out] at vrg18
  have vrg19 : Erg 19 (xq 19) wrg := hvrg 19 (by decide)
  rw [Hrge19.out] at vrg19
  rw [vrg19]
  clear hvrg hFrg Hrgk Hrgx Hrgst Hrgc HrghC HrghX Hrgb Hrgxb Hrge0 Hrge1 Hrge2 Hrge3 Hrge4 Hrge5 Hrge6 Hrge7 Hrge8 Hrge9 Hrge10 Hrge11 Hrge12 Hrge13 Hrge14 Hrge15 Hrge16 Hrge17 Hrge18 Hrge19
  have hw := HWT.out wrg (xq 18) qq hcrg (vrg18.zone fun x hx hz => by rcases hz with hz | hz; exact .inl hz; exact .inr ⟨hz, hx⟩)
  obtain ⟨xo, xc, ex⟩ := vrg18.len
  rw [ex] at hw ⊢
  have hb1 := HB.out.below hcrg HB.out.lt
  have HR1 := Lib.hid (HR.out.below hcrg HR.out.lt)
  have HC1 := Lib.hid hcrg
  have c0 := hb1.cell 0 _ rfl
  have c1 := hb1.cell 1 _ rfl
  have c2 := hb1.cell 2 _ rfl
  have c3 := hb1.cell 3 _ rfl
  have c4 := hb1.cell 4 _ rfl
  clear hcrg vrg18 vrg19 hb1 ex
  go_wp2_with fail
  refine hw.mono ?_
  rintro e w5 ⟨v5, rfl, h5, b5⟩
  obtain ⟨o5, p5, ev5⟩ := h5.len
  clear c0 c1 c2 c3 c4 hw
  have hr5 := HR1.out.below b5 HR1.out.lt
  have hl5 : Below w.heap.size w w5 := (HL.out.trans (HC1.out.mono HL.out.size)).trans (b5.mono (Nat.le_trans HL.out.size HC1.out.size))
  have hs1 := HC1.out.size
  have k0 := hr5.cell 0 _ rfl
  have k1 := hr5.cell 1 _ rfl
  have k2 := hr5.cell 2 _ rfl
  have k3 := hr5.cell 3 _ rfl
  have k4 := hr5.cell 4 _ rfl
  have g0 := hr5.free 0
  have g1 := hr5.free 1
  have g2 := hr5.free 2
  have g3 := hr5.free 3
  have g4 := hr5.free 4
  have hlt := hr5.lt
  have hbl := pres (g := w.heap.size + 1) hl5 (by omega) v5 (.int .i64 r) (.int .i64 c) (.bool pd) (.bool au)
  have hhe := (h5.upd (pres_upd (w.heap.size + 1) v5 (.int .i64 r) (.int .i64 c) (.bool pd) (.bool au)) (fun x hx e => by
    have := HS.out
    rcases hx with (hx | hx) | hx
    · have := HZ.out x hx; omega
    · omega
    · omega)).zone (Y := fun x => Z x ∨ (w.heap.size ≤ x ∧ x < (((((w5.setCell ⟨w.heap.size + 1, 0, none⟩ v5).setCell ⟨w.heap.size + 1, 1, none⟩ (.int .i64 r)).setCell ⟨w.heap.size + 1, 2, none⟩ (.int .i64 c)).setCell ⟨w.heap.size + 1, 3, none⟩ (.bool pd)).setCell ⟨w.heap.size + 1, 4, none⟩ (.bool au)).heap.size)) (fun x hlt hx => by
    have := HS.out
    rcases hx with (hx | hx) | hx
    · exact .inl hx
    · exact .inr ⟨by omega, hlt⟩
    · exact .inr ⟨by omega, hlt⟩)
  have HF := Lib.hid (And.intro hhe hbl)
  clear hhe hbl hr5 hl5 h5 b5
  rw [List.length_set] at ev5
  subst ev5
  go_wp2
  exact bodyPost_ret (v := .agg #[.slice o5 Ls.length p5, .int .i64 r, .int .i64 c, .bool pd, .bool au]) (by simp [results, Tryz.results143, go_sem, k0, k1, k2, k3, k4]) rfl ⟨_, rfl, HF.out.1, HF.out.2⟩
end Go.Proofs.YtoeggiplcaegoaaGreatDoor
/- A cluster that is put once more where it stands. Of no program's code. -/
namespace Go.Proofs.YtoeggiplcaegoaaGreatDoor
open Go.RowKit Go.ChangeShapes Go.WideShapes
theorem paint_twice (L p0 p : List Cl) (a0 a : Nat) (h0 : a ≤ a0) (h1 : a0 + p0.length ≤ a + p.length) : paintL (paintL L p0 a0) p a = paintL L p a ∧ (lastHit L p0 a0 || lastHit (paintL L p0 a0) p a) = lastHit L p a := by
  have hin : ∀ i, inP a0 p0.length i → inP a p.length i := fun i h => ⟨Nat.le_trans h0 h.1, Nat.lt_of_lt_of_le h.2 h1⟩
  have htorn : ∀ i, tornP L a0 p0.length i → tornP L a p.length i := fun i h => h.imp (fun h => ⟨h.1, hin _ h.2⟩) (fun h => ⟨h.1, h.2.1, hin _ h.2.2⟩)
  have hsame : ∀ i, i < L.length → ¬ inP a p.length i → ¬ tornP L a0 p0.length i → (paintL L p0 a0).getD i zc = L.getD i zc := fun i hi hn ht => by
    rw [paint_get L p0 a0 i hi]
    unfold paintAt
    rw [if_neg (fun e => hn (hin i e)), if_neg ht]
  have hblank : ∀ i, i < L.length → ¬ inP a p.length i → tornP L a0 p0.length i → (paintL L p0 a0).getD i zc = zc := fun i hi hn ht => by
    rw [paint_get L p0 a0 i hi]
    unfold paintAt
    rw [if_neg (fun e => hn (hin i e)), if_pos ht]
  have htn : ∀ i, i < L.length → ¬ inP a p.length i → tornP L a0 p0.length i → ¬ tornP (paintL L p0 a0) a p.length i := fun i hi hn ht e => by
    unfold tornP at e
    rw [hblank i hi hn ht] at e
    rcases e with ⟨e, _⟩ | ⟨e, _⟩ <;> cases e
  have hts : ∀ i, i < L.length → ¬ inP a p.length i → ¬ tornP L a0 p0.length i → (tornP (paintL L p0 a0) a p.length i ↔ tornP L a p.length i) := fun i hi hn ht => by
    unfold tornP
    rw [hsame i hi hn ht]
  constructor
  · apply List.ext_getElem
    · rw [paint_len, paint_len, paint_len]
    · intro i h2 h3
      have hi : i < L.length := by rw [paint_len] at h3; exact h3
      have e1 := paint_get (paintL L p0 a0) p a i (by rw [paint_len]; exact hi)
      have e2 := paint_get L p a i hi
      have f1 : (paintL (paintL L p0 a0) p a).getD i zc = (paintL (paintL L p0 a0) p a)[i] := by simp [List.getD, List.getElem?_eq_getElem h2]
      have f2 : (paintL L p a).getD i zc = (paintL L p a)[i] := by simp [List.getD, List.getElem?_eq_getElem h3]
      rw [← f1, ← f2, e1, e2]
      unfold paintAt
      by_cases hn : inP a p.length i
      · rw [if_pos hn, if_pos hn]
      · rw [if_neg hn, if_neg hn]
        by_cases ht : tornP L a0 p0.length i
        · rw [if_neg (htn i hi hn ht), if_pos (htorn i ht)]
          exact hblank i hi hn ht
        · by_cases ht2 : tornP L a p.length i
          · rw [if_pos ((hts i hi hn ht).2 ht2), if_pos ht2]
          · rw [if_neg (fun e => ht2 ((hts i hi hn ht).1 e)), if_neg ht2]
            exact hsame i hi hn ht
  · rcases Nat.eq_zero_or_pos L.length with hz | hz
    · obtain rfl : L = [] := List.length_eq_zero_iff.1 hz
      have hp0 : paintL [] p0 a0 = [] := rfl
      rw [hp0]
      by_cases e : lastHit [] p0 a0 = true
      · rw [e, Bool.true_or]
        unfold lastHit at e ⊢
        rw [Bool.or_eq_true, decide_eq_true_eq, decide_eq_true_eq] at e
        symm
        rw [Bool.or_eq_true, decide_eq_true_eq, decide_eq_true_eq]
        exact e.imp (hin _) (htorn _)
      · rw [Bool.eq_false_iff.2 e, Bool.false_or]
    · unfold lastHit
      rw [paint_len]
      have hi : L.length - 1 < L.length := by omega
      by_cases hn : inP a p.length (L.length - 1)
      · rw [decide_eq_true hn, Bool.true_or, Bool.true_or, Bool.or_true]
      · rw [decide_eq_false hn, decide_eq_false (fun e => hn (hin _ e)), Bool.false_or, Bool.false_or, Bool.false_or]
        by_cases ht : tornP L a0 p0.length (L.length - 1)
        · rw [decide_eq_true ht, decide_eq_true (htorn _ ht), Bool.true_or]
        · rw [decide_eq_false ht, Bool.false_or]
          exact decide_eq_decide.2 (hts _ hi hn ht)
theorem pnt_over (Ls : List Ln) (r a0 a : Nat) (p0 p : List Cl) (hr : r < Ls.length) (h0 : a ≤ a0) (h1 : a0 + p0.length ≤ a + p.length) : pntL (pntL Ls r a0 p0) r a p = pntL Ls r a p := by
  obtain ⟨e1, e2⟩ := paint_twice (Ls.getD r zl).1 p0 p a0 a h0 h1
  have hg : (pntL Ls r a0 p0).getD r zl = (paintL (Ls.getD r zl).1 p0 a0, (Ls.getD r zl).2 && !lastHit (Ls.getD r zl).1 p0 a0) := by
    unfold pntL
    rw [getD_setI _ _ _ _ _ hr, if_pos rfl]
  have hq : ∀ (K : List Ln) (x : Ln), K.getD r zl = x → pntL K r a p = K.set r (paintL x.1 p a, x.2 && !lastHit x.1 p a) := fun K x e => by subst e; rfl
  rw [hq _ _ hg, hq Ls _ rfl]
  show (pntL Ls r a0 p0).set r (paintL (paintL (Ls.getD r zl).1 p0 a0) p a, ((Ls.getD r zl).2 && !lastHit (Ls.getD r zl).1 p0 a0) && !lastHit (paintL (Ls.getD r zl).1 p0 a0) p a) = _
  rw [e1, Bool.and_assoc, ← Bool.not_or, e2]
  unfold pntL
  rw [List.set_set]
theorem ofK_len (wd : Nat) (n : Int) (xs : List Int) : ((ofC (plcK wd n) (plcX wd n xs)).length : Int) = plcK wd n := by
  rw [ofC_len]
  rcases plcK_cases wd n with h | h
  · rw [h]; rfl
  · rw [h.1]; rfl
theorem plcK_mono (wd : Nat) {n0 n1 : Int} (h : n0 ≤ n1) (h0 : 0 < wd) : plcK wd n0 ≤ plcK wd n1 := by
  unfold plcK
  split <;> split <;> omega
/-- A cluster that was put, and is put once more where it stands, no narrower: as if it had been put so at once. -/
theorem plc_again (Ls : List Ln) (wd r c : Nat) (pd au : Bool) (n0 n1 : Int) (t0 t1 : List Int) (hr : r < Ls.length) (hc : c < wd) (hn : n0 ≤ n1) :
    plcL (plcL Ls wd r c pd au n0 t0) wd (plcR Ls wd r c pd au n0) (plcC wd c pd au n0) false au n1 t1 = plcL Ls wd r c pd au n1 t1 ∧
    plcR (plcL Ls wd r c pd au n0 t0) wd (plcR Ls wd r c pd au n0) (plcC wd c pd au n0) false au n1 = plcR Ls wd r c pd au n1 ∧
    plcC wd (plcC wd c pd au n0) false au n1 = plcC wd c pd au n1 := by
  have hlt := plc_lt (Ls := Ls) pd au n0 t0 hr hc
  have h1 := p1_lt (Ls := Ls) pd hr
  have hc1 : p1C c pd < wd := by unfold p1C; split <;> omega
  have hm := plcK_mono wd hn (by omega)
  have hl0 := ofK_len wd n0 t0
  have hl1 := ofK_len wd n1 t1
  have h2 := p2_lt (wd := wd) (k := plcK wd n0) (c := p1C c pd) au h1.1
  revert hlt
  unfold plcL plcR plcC
  rw [show ∀ L R, p1L L R false = L from fun _ _ => rfl, show ∀ L R, p1R L R false = R from fun _ _ => rfl, show ∀ C, p1C C false = C from fun _ => rfl]
  generalize p1L Ls r pd = M at *
  generalize p1R Ls r pd = r1 at *
  generalize p1C c pd = c1 at *
  generalize ofC (plcK wd n0) (plcX wd n0 t0) = q0 at *
  generalize ofC (plcK wd n1) (plcX wd n1 t1) = q1 at *
  have k0 := plcK_cases wd n0
  have k1 := plcK_cases wd n1
  generalize plcK wd n0 = K0 at *
  generalize plcK wd n1 = K1 at *
  intro hlt
  by_cases hK : K0 = K1
  · subst hK
    have hx : ¬ (K0 = 2 ∧ p2C wd K0 c1 au + 1 = wd) := by omega
    have e1 : ∀ L : List Ln, p2L wd K0 L (p2R wd K0 M r1 c1 au) (p2C wd K0 c1 au) au = L := fun L => by
      conv => lhs; unfold p2L
      exact if_neg hx
    have e2 : ∀ L : List Ln, p2R wd K0 L (p2R wd K0 M r1 c1 au) (p2C wd K0 c1 au) au = p2R wd K0 M r1 c1 au := fun L => by
      conv => lhs; unfold p2R
      exact if_neg hx
    have e3 : p2C wd K0 (p2C wd K0 c1 au) au = p2C wd K0 c1 au := by
      conv => lhs; unfold p2C
      exact if_neg hx
    rw [e1, e2, e3]
    exact ⟨pnt_over _ _ _ _ _ _ h2.1 (Nat.le_refl _) (by omega), rfl, rfl⟩
  · obtain ⟨rfl, rfl⟩ : K0 = 1 ∧ K1 = 2 := by omega
    have n1 : ¬ ((1 : Int) = 2 ∧ c1 + 1 = wd) := fun h => absurd h.1 (by decide)
    have e1 : p2L wd 1 M r1 c1 au = M := by unfold p2L; exact if_neg n1
    have e2 : p2R wd 1 M r1 c1 au = r1 := by unfold p2R; exact if_neg n1
    have e3 : p2C wd 1 c1 au = c1 := by unfold p2C; exact if_neg n1
    rw [e1, e2, e3]
    by_cases hw : c1 + 1 = wd
    · have hx : (2 : Int) = 2 ∧ c1 + 1 = wd := ⟨rfl, hw⟩
      unfold p2L p2R p2C
      rw [if_pos hx, if_pos hx, if_pos hx, if_pos hx, if_pos hx]
      cases au
      · rw [if_neg (by decide), if_neg (by decide), if_neg (by decide)]
        exact ⟨pnt_over _ _ _ _ _ _ h1.1 (by omega) (by omega), rfl, rfl⟩
      · rw [if_pos rfl, if_pos rfl, if_pos rfl, if_pos rfl, if_pos rfl]
        have hz : pntL (pntL M r1 c1 q0) r1 c1 [zc] = pntL M r1 c1 [zc] := pnt_over _ _ _ _ _ _ h1.1 (Nat.le_refl _) (by show c1 + q0.length ≤ c1 + 1; omega)
        rw [hz]
        have hd : downR (pntL M r1 c1 q0) r1 = downR M r1 := by unfold downR; rw [pnt_len]
        rw [hd]
        exact ⟨rfl, rfl, rfl⟩
    · have hx : ¬ ((2 : Int) = 2 ∧ c1 + 1 = wd) := fun h => hw h.2
      unfold p2L p2R p2C
      rw [if_neg hx, if_neg hx, if_neg hx, if_neg hx, if_neg hx]
      exact ⟨pnt_over _ _ _ _ _ _ h1.1 (Nat.le_refl _) (by omega), rfl, rfl⟩
end Go.Proofs.YtoeggiplcaegoaaGreatDoor
