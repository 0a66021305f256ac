/- Moved rows, whatever is asked (33): the reference's Move, and do on a grid. -/
import Derived.Test.YteolfknlcnihaaaDoorScrW
namespace Go.Proofs.YteolfknlcnihaaaDoor
open Go.RowKit Go.ChangeShapes Go.WideShapes
/-- What is moved, if anything is. -/
def mvd (Ls : List Ln) (a b k : Int) (up : Bool) : List Ln := if heldK Ls.length a b k < 1 then Ls else moveL Ls (heldF Ls.length a) (heldF Ls.length b) (heldK Ls.length a b k).toNat up
theorem mvd_len (Ls : List Ln) (a b k : Int) (up : Bool) : (mvd Ls a b k up).length = Ls.length := by
  unfold mvd
  split
  · rfl
  · simp [moveL]
theorem rmove_all (v : Value) (Z : Zone) (Ls : List Ln) (a b k : Int) (up : Bool) (w : World) (hv : HeldE lineE Z w v Ls) (hZ : ∀ b, Z b → b < w.heap.size) (hl : Ls.length ≤ 1000) (hLW : ∀ i, i < Ls.length → (Ls.getD i zl).1.length ≤ 1024) : Calls Tryd.prog 21 #[v, .int .i64 a, .int .i64 b, .int .i64 k, .bool up] w (fun e w' => ∃ v', e = .returned v' ∧ HeldE lineE (fun b => Z b ∨ (w.heap.size ≤ b ∧ b < w'.heap.size)) w' v' (mvd Ls a b k up) ∧ Below w.heap.size w w') := by
  by_cases hk : heldK Ls.length a b k < 1
  · refine (rmove_none v Z Ls a b k up w hv hl hk).mono ?_
    rintro e w' ⟨rfl, hb⟩
    refine ⟨v, rfl, ?_, hb⟩
    unfold mvd
    rw [if_pos hk]
    exact (hv.below hb).zone fun _ _ h => .inl h
  · have hq : heldK Ls.length a b k = (((heldK Ls.length a b k).toNat : Nat) : Int) := by omega
    have h0 : 0 < (heldK Ls.length a b k).toNat := by omega
    have hm : Calls Tryd.prog 21 #[v, .int .i64 a, .int .i64 b, .int .i64 k, .bool up] w (MadeE lineE (fun b => Z b ∨ w.heap.size ≤ b) 52 w (moveL Ls (heldF Ls.length a) (heldF Ls.length b) (heldK Ls.length a b k).toNat up)) := by
      cases up with
      | true => exact rmove_up v Z Ls a b k _ _ _ w hv hZ hl hLW rfl rfl hq h0
      | false => exact rmove_down v Z Ls a b k _ _ _ w hv hZ hl hLW rfl rfl hq h0
    refine hm.mono ?_
    rintro e w' ⟨v', rfl, ho, hb⟩
    refine ⟨v', rfl, ?_, hb⟩
    unfold mvd
    rw [if_neg hk]
    exact ((ho.zone (Y := fun b => Z b ∨ (w.heap.size ≤ b ∧ b < w'.heap.size)) (fun b hb h => by rcases h with h | h; exact .inl h; exact .inr ⟨h, hb⟩)).held (fun b h1 h2 => .inr ⟨h1, h2⟩))
/-- Each row of the new grid is one of the old, or new. -/
def RowsFrom (w : World) (Rs Rs' : List Rw) : Prop := ∀ i, i < Rs'.length → (∃ j, j < Rs.length ∧ (Rs'.getD i r0).g = (Rs.getD j r0).g ∧ (Rs'.getD i r0).gc = (Rs.getD j r0).gc) ∨ (w.heap.size ≤ (Rs'.getD i r0).g ∧ w.heap.size ≤ (Rs'.getD i r0).gc)
theorem RowsFrom.off {w : World} {Rs Rs' : List Rw} (h : RowsFrom w Rs Rs') (k : Nat) : RowsFrom w Rs (offAt Rs' k) := by
  intro i hi
  unfold offAt at hi ⊢
  rw [List.length_set] at hi
  by_cases e : k < Rs'.length
  · rw [getD_setI _ _ _ _ _ e]
    by_cases e2 : i = k
    · subst e2; rw [if_pos rfl]; exact h i hi
    · rw [if_neg e2]; exact h i hi
  · rw [List.set_eq_of_length_le (by omega)]; exact h i hi
theorem up_from {w : World} {Rs Ns : List Rw} {f t q : Nat} (hf : f < t) (ht : t ≤ Rs.length) (hq : q ≤ t - f) (hn : Ns.length = q) (hns : ∀ i, i < Ns.length → w.heap.size ≤ (Ns.getD i r0).g ∧ w.heap.size ≤ (Ns.getD i r0).gc) : RowsFrom w Rs (Rs.take f ++ upMid Rs Ns f t q ++ Rs.drop (f + (upMid Rs Ns f t q).length)) := by
  intro i hi
  have hml := upMid_len (Rs := Rs) (Ns := Ns) (f := f) (t := t) (q := q) (by omega) ht hq hn
  have hil : i < Rs.length := by rw [List.length_append, List.length_append, List.length_take, List.length_drop, hml] at hi; omega
  rw [mid_at _ hml (by omega) ht]
  split
  · exact .inl ⟨i, hil, rfl, rfl⟩
  · split
    · rw [up_at (by omega) ht hq hn _ (by omega)]
      split
      · exact .inl ⟨_, by omega, rfl, rfl⟩
      · exact .inr (hns _ (by omega))
    · exact .inl ⟨i, hil, rfl, rfl⟩
theorem down_from {w : World} {Rs Ns : List Rw} {f t q : Nat} (hf : f < t) (ht : t ≤ Rs.length) (hq : q ≤ t - f) (hn : Ns.length = q) (hns : ∀ i, i < Ns.length → w.heap.size ≤ (Ns.getD i r0).g ∧ w.heap.size ≤ (Ns.getD i r0).gc) : RowsFrom w Rs (Rs.take f ++ downMid Rs Ns f t q ++ Rs.drop (f + (downMid Rs Ns f t q).length)) := by
  intro i hi
  have hml := downMid_len (Rs := Rs) (Ns := Ns) (f := f) (t := t) (q := q) (by omega) ht hq hn
  have hil : i < Rs.length := by rw [List.length_append, List.length_append, List.length_take, List.length_drop, hml] at hi; omega
  rw [mid_at _ hml (by omega) ht]
  split
  · exact .inl ⟨i, hil, rfl, rfl⟩
  · split
    · rw [down_at (by omega) ht hq hn _ (by omega)]
      split
      · exact .inr (hns _ (by omega))
      · exact .inl ⟨_, by omega, rfl, rfl⟩
    · exact .inl ⟨i, hil, rfl, rfl⟩
/-- What Up and Down leave. -/
def Moved (w : World) (B gg gr wd : Nat) (Rs : List Rw) (Ls' : List Ln) (e : Ending) (w' : World) : Prop := e = .returned (.tuple #[]) ∧ ∃ Rs', GridAt w' B gg gr wd Rs' ∧ Rs'.map lineOf = Ls' ∧ Upd (GridB w gr Rs) w w' ∧ RowsFrom w Rs Rs'
theorem map_len {Rs : List Rw} {Ls : List Ln} (h : Rs.map lineOf = Ls) : Rs.length = Ls.length := by rw [← h]; simp
theorem RowsFrom.self (w : World) (Rs : List Rw) : RowsFrom w Rs Rs := fun i hi => .inl ⟨i, hi, rfl, rfl⟩
theorem scup_all (B gg gr wd : Nat) (Rs : List Rw) (Ls : List Ln) (a b k : Int) (w : World) (h : GridAt w B gg gr wd Rs) (hL : Rs.map lineOf = Ls) : Calls Tryd.prog 58 #[.pointer (some ⟨gg, 0, none⟩), .int .i64 a, .int .i64 b, .int .i64 k] w (Moved w B gg gr wd Rs (mvd Ls a b k true)) := by
  have hll := map_len hL
  have hsz := h.sizes
  by_cases hk : heldK Ls.length a b k < 1
  · refine (scup_raw _ Ls.length (by omega) a b k w (by rw [← hll]; exact ghigh_any B gg gr wd Rs w h) hk).mono ?_
    rintro e w' ⟨rfl, rfl⟩
    refine ⟨rfl, Rs, h, ?_, .refl _ _, .self _ _⟩
    unfold mvd
    rw [if_pos hk, hL]
  · have hq : heldK Ls.length a b k = (((heldK Ls.length a b k).toNat : Nat) : Int) := by omega
    have h0 : 0 < (heldK Ls.length a b k).toNat := by omega
    have hfl := heldF_le Ls.length b
    have hkk : heldK Ls.length a b k ≤ (heldF Ls.length b : Int) - heldF Ls.length a := by unfold heldK; omega
    refine (scup_good B gg gr wd (heldF Ls.length a) (heldF Ls.length b) (heldK Ls.length a b k).toNat Rs a b k w h (by rw [hll]) (by rw [hll]) (by rw [hll]; exact hq) h0).mono ?_
    rintro e w' ⟨rfl, Ns, ⟨hm, hns⟩, hg, hu⟩
    refine ⟨rfl, _, hg, ?_, hu, ?_⟩
    · unfold mvd
      rw [if_neg hk]
      exact up_lines hL (by omega) (by omega) (by omega) hm (fun i hi => hsz.2.2.2.2 i hi)
    · have hr := up_from (w := w) (f := heldF Ls.length a) (t := heldF Ls.length b) (q := (heldK Ls.length a b k).toNat) (Rs := Rs) (by omega) (by omega) (by omega) (lines_wide hm).1 hns
      split
      · exact hr
      · exact hr.off _
theorem scdown_all (B gg gr wd : Nat) (Rs : List Rw) (Ls : List Ln) (a b k : Int) (w : World) (h : GridAt w B gg gr wd Rs) (hL : Rs.map lineOf = Ls) : Calls Tryd.prog 61 #[.pointer (some ⟨gg, 0, none⟩), .int .i64 a, .int .i64 b, .int .i64 k] w (Moved w B gg gr wd Rs (mvd Ls a b k false)) := by
  have hll := map_len hL
  have hsz := h.sizes
  by_cases hk : heldK Ls.length a b k < 1
  · refine (scdown_raw _ Ls.length (by omega) a b k w (by rw [← hll]; exact ghigh_any B gg gr wd Rs w h) hk).mono ?_
    rintro e w' ⟨rfl, rfl⟩
    refine ⟨rfl, Rs, h, ?_, .refl _ _, .self _ _⟩
    unfold mvd
    rw [if_pos hk, hL]
  · have hq : heldK Ls.length a b k = (((heldK Ls.length a b k).toNat : Nat) : Int) := by omega
    have h0 : 0 < (heldK Ls.length a b k).toNat := by omega
    have hfl := heldF_le Ls.length b
    have hkk : heldK Ls.length a b k ≤ (heldF Ls.length b : Int) - heldF Ls.length a := by unfold heldK; omega
    refine (scdown_good B gg gr wd (heldF Ls.length a) (heldF Ls.length b) (heldK Ls.length a b k).toNat Rs a b k w h (by rw [hll]) (by rw [hll]) (by rw [hll]; exact hq) h0).mono ?_
    rintro e w' ⟨rfl, Ns, ⟨hm, hns⟩, hg, hu⟩
    refine ⟨rfl, _, hg, ?_, hu, ?_⟩
    · unfold mvd
      rw [if_neg hk]
      exact down_lines hL (by omega) (by omega) (by omega) hm (fun i hi => hsz.2.2.2.2 i hi)
    · have hr := down_from (w := w) (f := heldF Ls.length a) (t := heldF Ls.length b) (q := (heldK Ls.length a b k).toNat) (Rs := Rs) (by omega) (by omega) (by omega) (lines_wide hm).1 hns
      refine RowsFrom.off ?_ _
      split
      · exact hr
      · exact hr.off _
theorem scdo_all (B gg gr wd : Nat) (Rs : List Rw) (Ls : List Ln) (d : Bool) (a b k : Int) (w : World) (h : GridAt w B gg gr wd Rs) (hL : Rs.map lineOf = Ls) : Calls Tryd.prog 22 #[.pointer (some ⟨gg, 0, none⟩), .agg #[.bool d, .int .i64 a, .int .i64 b, .int .i64 k]] w (Moved w B gg gr wd Rs (mvd Ls a b k (!d))) := by
  refine scdo_any _ ⟨_, rfl⟩ d a b k w (fun w' => ∃ Rs', GridAt w' B gg gr wd Rs' ∧ Rs'.map lineOf = mvd Ls a b k (!d) ∧ Upd (GridB w gr Rs) w w' ∧ RowsFrom w Rs Rs') fun w1 hb hs => ?_
  have hfix : ∀ (up : Bool) e w', Moved w1 B gg gr wd Rs (mvd Ls a b k up) e w' → e = .returned (.tuple #[]) ∧ ∃ Rs', GridAt w' B gg gr wd Rs' ∧ Rs'.map lineOf = mvd Ls a b k up ∧ Upd (GridB w gr Rs) w w' ∧ RowsFrom w Rs Rs' := by
    rintro up e w' ⟨rfl, Rs', h1, h2, h3, h4⟩
    refine ⟨rfl, Rs', h1, h2, (Upd.ofBelow hb).trans (h3.mono fun x _ e => ?_), fun i hi => ?_⟩
    · rcases e with e | e | e
      · exact .inl e
      · exact .inr (.inl e)
      · exact .inr (.inr (by omega))
    · rcases h4 i hi with e | e
      · exact .inl e
      · exact .inr (by omega)
  cases d with
  | true => exact (scdown_all B gg gr wd Rs Ls a b k w1 (h.below hb) hL).mono (hfix false)
  | false => exact (scup_all B gg gr wd Rs Ls a b k w1 (h.below hb) hL).mono (hfix true)
theorem scdo_nil (d : Bool) (a b k : Int) (w : World) : Calls Tryd.prog 22 #[.pointer none, .agg #[.bool d, .int .i64 a, .int .i64 b, .int .i64 k]] w (fun e w' => e = .returned (.tuple #[]) ∧ Below w.heap.size w w') := by
  refine scdo_any _ ⟨_, rfl⟩ d a b k w (fun w' => Below w.heap.size w w') fun w1 hb hs => ?_
  cases d with
  | true => exact (scdown_nil a b k w1).mono fun e w' ⟨h1, h2⟩ => ⟨h1, by subst h2; exact hb⟩
  | false => exact (scup_nil a b k w1).mono fun e w' ⟨h1, h2⟩ => ⟨h1, by subst h2; exact hb⟩
/-- Zones apart from a grid's blocks. -/
def OffG (Z : Zone) (gg gr : Nat) (Rs : List Rw) : Prop := ∀ b, Z b → b ≠ gg ∧ b ≠ gr ∧ ∀ i, i < Rs.length → b ≠ (Rs.getD i r0).g ∧ b ≠ (Rs.getD i r0).gc
theorem OffG.from {Z : Zone} {gg gr : Nat} {Rs Rs' : List Rw} {w : World} (h : OffG Z gg gr Rs) (hz : ∀ b, Z b → b < w.heap.size) (hr : RowsFrom w Rs Rs') : OffG Z gg gr Rs' := fun b hb => by
  obtain ⟨h1, h2, h3⟩ := h b hb
  refine ⟨h1, h2, fun i hi => ?_⟩
  have hlt := hz b hb
  rcases hr i hi with ⟨j, hj, e1, e2⟩ | ⟨e1, e2⟩
  · rw [e1, e2]; exact h3 j hj
  · omega
theorem OffG.not {Z : Zone} {gg gr : Nat} {Rs : List Rw} {w : World} (h : OffG Z gg gr Rs) (hz : ∀ b, Z b → b < w.heap.size) (b : Nat) (hb : Z b) : ¬ GridB w gr Rs b := by
  obtain ⟨h1, h2, h3⟩ := h b hb
  have hlt := hz b hb
  rintro (e | ⟨i, hi, e⟩ | e)
  · exact h2 e
  · rcases e with e | e
    · exact (h3 i hi).1 e
    · exact (h3 i hi).2 e
  · omega
theorem GridAt.offNew {w : World} {B gg gr wd : Nat} {Rs : List Rw} (h : GridAt w B gg gr wd Rs) (Z : Zone) (hZ : OffG Z gg gr Rs) (w' : World) : OffG (fun b => Z b ∨ (w.heap.size ≤ b ∧ b < w'.heap.size)) gg gr Rs := fun b hb => by
  rcases hb with hb | hb
  · exact hZ b hb
  · have hlt := h.lt
    exact ⟨by omega, by omega, fun i hi => by have := hlt.2.2.2.2.2 i hi; omega⟩
end Go.Proofs.YteolfknlcnihaaaDoor
