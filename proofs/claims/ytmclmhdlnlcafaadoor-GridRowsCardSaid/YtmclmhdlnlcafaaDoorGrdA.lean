/- Grids: what one is in memory; lines; Wide, High, Row. -/
import Derived.Test.YtmclmhdlnlcafaaDoorRowO
import Derived.Test.YtmclmhdlnlcafaaDoorMg1
import Derived.Test.YtmclmhdlnlcafaaDoorCellU
import Derived.Test.YtmclmhdlnlcafaaDoorRowQ
import Derived.Lib.MinMax
import Derived.Deep.Cut
namespace Go.Proofs.YtmclmhdlnlcafaaDoor
open Go.RowKit Go.ChangeShapes Go.WideShapes
/-- A line: its cells, whether it goes on. -/
abbrev Ln := List Cl × Bool
abbrev zl : Ln := ([], false)
def lineE : Elem Ln := prE cellsE boolE
theorem lineE_size : lineE.size = 2 := rfl
theorem line_rep {Z : Zone} {w : World} {C : List Value} {x : Ln} : lineE.rep Z w C x ↔ ∃ v, C = [v, .bool x.2] ∧ HeldE cellE Z w v x.1 := by
  constructor
  · rintro ⟨C1, C2, rfl, ⟨v, rfl, h⟩, rfl⟩
    exact ⟨v, rfl, h⟩
  · rintro ⟨v, rfl, h⟩
    exact ⟨[v], [_], rfl, ⟨v, rfl, h⟩, rfl⟩
theorem lines_at {Z : Zone} {w : World} {ao : Option Addr} {n cap : Nat} {L : List Ln} (h : HeldE lineE Z w (.slice ao n cap) L) : n = L.length ∧ n ≤ cap ∧ ∀ i, i < L.length → ∃ b off v, ao = some ⟨b, off, none⟩ ∧ b < w.heap.size ∧ Z b ∧
    w.cell? ⟨b, off + i * 2, none⟩ = some v ∧ w.cell? ⟨b, off + i * 2 + 1, none⟩ = some (.bool (L.getD i zl).2) ∧ HeldE cellE Z w v (L.getD i zl).1 := by
  obtain ⟨h1, h2, h3⟩ := h.spots
  refine ⟨h1, h2, fun i hi => ?_⟩
  obtain ⟨b, off, rfl, hb, hz, C, hC, hr⟩ := h3 i hi
  obtain ⟨v, rfl, ht⟩ := line_rep.1 hr
  exact ⟨b, off, v, rfl, hb, hz, hC 0 (by decide), hC 1 (by decide), ht⟩
theorem info_line : (Tryd.prog.info? 73).map (fun i => (i.zero, i.size, i.bytes)) = some (some (.agg #[.slice none 0 0, .bool false]), lineE.size, 32) := by kernel_rfl
/-- Pointers to rows. -/
def ptrV (x : Option Nat) : Value := .pointer (x.map fun g => ⟨g, 0, none⟩)
def ptrE : Elem (Option Nat) where
  size := 1
  zero := none
  rep := fun _ _ C x => C = [ptrV x]
  len := by rintro _ _ _ _ rfl; rfl
  one := by
    rintro _ _ _ _ rfl u hu
    simp at hu
    subst hu; rfl
  keep := fun _ _ h => h
theorem info_rowp : (Tryd.prog.info? 25).map (fun i => (i.zero, i.size, i.bytes)) = some (some (.pointer none), ptrE.size, 8) := by kernel_rfl
theorem ptr_flat : ∀ xs : List (Option Nat), (xs.map fun x => [ptrV x]).flatten = xs.map ptrV
  | [] => rfl
  | x :: xs => by rw [List.map_cons, List.flatten_cons, ptr_flat xs]; rfl
theorem own_ptrs {Z : Zone} {w : World} {B n : Nat} {ty : TypeId} {v : Value} {xs : List (Option Nat)} (h : w.ownsRow B ty 1 v n (xs.map ptrV)) : OwnE ptrE Z w B ty v xs := by
  have hn : xs.length = n := by have := h.1; simpa using this
  subst hn
  refine ⟨xs.map fun x => [ptrV x], ?_, by simp, fun i hi => ?_⟩
  · rw [ptr_flat]
    exact h
  · show _ = _
    simp [List.getD, List.getElem?_eq_getElem hi]
theorem OwnE.ptrs {Z : Zone} {w : World} {B : Nat} {ty : TypeId} {v : Value} {xs : List (Option Nat)} (h : OwnE ptrE Z w B ty v xs) : w.ownsRow B ty 1 v xs.length (xs.map ptrV) := by
  obtain ⟨CS, h1, h2, h3⟩ := h
  have e : CS.flatten = xs.map ptrV := by
    apply List.ext_getElem?
    intro i
    have hls : ∀ C ∈ CS, C.length = 1 := own_lens h2 h3
    by_cases hi : i < xs.length
    · have := flat_at hls i 0 (by omega) (by omega)
      rw [Nat.mul_one, Nat.add_zero] at this
      rw [this, show CS.getD i [] = [ptrV (xs.getD i none)] from h3 i hi]
      simp [List.getD, List.getElem?_eq_getElem hi]
    · rw [List.getElem?_eq_none (by rw [flat_len hls]; omega), List.getElem?_eq_none (by simp; omega)]
  rw [← e]
  exact h1
theorem OwnE.zoneP {Z Y : Zone} {w : World} {B : Nat} {ty : TypeId} {v : Value} {xs : List (Option Nat)} (h : OwnE ptrE Z w B ty v xs) : OwnE ptrE Y w B ty v xs := own_ptrs h.ptrs
theorem own_num {Z : Zone} {w : World} {B g n cap : Nat} {ty : TypeId} {xs : List (Option Nat)} (h : OwnE ptrE Z w B ty (.slice (some ⟨g, 0, none⟩) n cap) xs) : n = xs.length := by
  rcases h.ptrs.2 with ⟨e, _⟩ | ⟨g', cap', cur, e, _⟩
  · cases e
  · simp only [Value.slice.injEq] at e
    exact e.2.1
/-- The pointer at a place of a row of pointers; a pointer put there. -/
theorem ptr_cell {Z : Zone} {w : World} {B g n cap : Nat} {ty : TypeId} {xs : List (Option Nat)} (h : OwnE ptrE Z w B ty (.slice (some ⟨g, 0, none⟩) n cap) xs) (i : Nat) (hi : i < xs.length) : w.cell? ⟨g, i, none⟩ = some (ptrV (xs.getD i none)) ∧ w.frozen? ⟨g, i, none⟩ = false := by
  have hr := h.ptrs
  obtain rfl := own_num h
  refine ⟨?_, hr.frozenAt i⟩
  rw [hr.cellAt i (by omega)]
  simp [List.getD, List.getElem?_eq_getElem hi]
theorem ptr_put {Z : Zone} {w : World} {B g n cap : Nat} {ty : TypeId} {xs : List (Option Nat)} (h : OwnE ptrE Z w B ty (.slice (some ⟨g, 0, none⟩) n cap) xs) (i : Nat) (_ : i < xs.length) (x : Option Nat) : OwnE ptrE Z (w.setCell ⟨g, i, none⟩ (ptrV x)) B ty (.slice (some ⟨g, 0, none⟩) n cap) (xs.set i x) := by
  have hr := h.ptrs
  obtain rfl := own_num h
  have hst := (hr.stored i (ptrV x)).1
  rw [← List.map_set] at hst
  exact own_ptrs hst
/-- A row of a grid: where it lies, its cells, whether it goes on. -/
structure Rw where
  g : Nat
  gc : Nat
  L : List Cl
  wrap : Bool
def r0 : Rw := ⟨0, 0, [], false⟩
def lineOf (r : Rw) : Ln := (r.L, r.wrap)
def ptrs (Rs : List Rw) : List (Option Nat) := Rs.map fun r => some r.g
theorem ptrs_len (Rs : List Rw) : (ptrs Rs).length = Rs.length := by simp [ptrs]
theorem ptrs_at (Rs : List Rw) (i : Nat) (h : i < Rs.length) : (ptrs Rs).getD i none = some (Rs.getD i r0).g := by simp [ptrs, List.getD, List.getElem?_eq_getElem h]
theorem RowAt.tight {Z : Zone} {w : World} {B g gc : Nat} {L : List Cl} {wrap : Bool} (h : RowAt Z w B g gc L wrap) : RowAt (fun b => Z b ∧ b < w.heap.size ∧ b ≠ g ∧ b ≠ gc) w B g gc L wrap := by
  obtain ⟨cap, h1, h2, h3, ⟨CS, k1, k2, k3⟩, h5⟩ := h
  exact ⟨cap, h1, h2, h3, ⟨CS, k1, k2, fun i hi => cellE.keep (.refl _ _) (fun b hb hz => ⟨⟨⟨hz.1.1, hb, hz.1.2, fun e => hz.2 (by subst e; rfl)⟩, hz.1.2⟩, hz.2⟩) (k3 i hi)⟩, h5⟩
theorem RowAt.types {Z : Zone} {w : World} {B g gc : Nat} {L : List Cl} {wrap : Bool} (h : RowAt Z w B g gc L wrap) : (∃ C, w.heap[g]? = some (.cells C 93 (0, 0))) ∧ ∃ C, w.heap[gc]? = some (.cells C 40 (0, 0)) := by
  obtain ⟨cap, h1, h2, h3, ⟨CS, ⟨_, k1⟩, k2, k3⟩, h5, _⟩ := h
  refine ⟨⟨_, h1⟩, ?_⟩
  rcases k1 with ⟨e, _⟩ | ⟨g', cap', cur, e, _, hg, _⟩
  · cases e
  · simp only [Value.slice.injEq, Option.some.injEq, Addr.mk.injEq] at e
    obtain ⟨⟨rfl, _⟩, _⟩ := e
    exact ⟨cur, hg⟩
/-- Rows that lie apart; their texts lie in the zone. -/
structure RowsAt (Z : Zone) (w : World) (B : Nat) (Rs : List Rw) : Prop where
  row : ∀ i, i < Rs.length → RowAt Z w B (Rs.getD i r0).g (Rs.getD i r0).gc (Rs.getD i r0).L (Rs.getD i r0).wrap
  out : ∀ i, i < Rs.length → ¬ Z (Rs.getD i r0).g ∧ ¬ Z (Rs.getD i r0).gc
  apart : ∀ i j, i < Rs.length → j < Rs.length → i ≠ j → (Rs.getD i r0).g ≠ (Rs.getD j r0).g ∧ (Rs.getD i r0).gc ≠ (Rs.getD j r0).gc
section
variable {Z Y S : Zone} {w w' : World} {B : Nat} {Rs : List Rw}
theorem RowsAt.nil (Z : Zone) (w : World) (B : Nat) : RowsAt Z w B [] := ⟨fun i hi => absurd hi (Nat.not_lt_zero _), fun i hi => absurd hi (Nat.not_lt_zero _), fun i j hi => absurd hi (Nat.not_lt_zero _)⟩
theorem RowsAt.cross (h : RowsAt Z w B Rs) (i j : Nat) (hi : i < Rs.length) (hj : j < Rs.length) : (Rs.getD i r0).g ≠ (Rs.getD j r0).gc := by
  intro e
  obtain ⟨⟨C, h1⟩, _⟩ := (h.row i hi).types
  obtain ⟨_, D, h2⟩ := (h.row j hj).types
  rw [e, h2] at h1
  simp only [Option.some.injEq, Obj.cells.injEq] at h1
  exact absurd h1.2.1 (by decide)
theorem RowsAt.upd (h : RowsAt Z w B Rs) (hu : Upd S w w') (hz : ∀ b, Z b → ¬ S b) (hs : ∀ i, i < Rs.length → ¬ S (Rs.getD i r0).g ∧ ¬ S (Rs.getD i r0).gc) : RowsAt Z w' B Rs :=
  ⟨fun i hi => (h.row i hi).upd hu hz (hs i hi).1 (hs i hi).2, h.out, h.apart⟩
theorem RowsAt.below (h : RowsAt Z w B Rs) (hb : Below w.heap.size w w') : RowsAt Z w' B Rs := ⟨fun i hi => (h.row i hi).below hb, h.out, h.apart⟩
theorem RowsAt.lt (h : RowsAt Z w B Rs) : ∀ i, i < Rs.length → (Rs.getD i r0).g < w.heap.size ∧ (Rs.getD i r0).gc < w.heap.size ∧ B ≤ (Rs.getD i r0).gc ∧ B ≤ (Rs.getD i r0).g := fun i hi => (h.row i hi).lt
/-- A row that is new behind them. -/
theorem RowsAt.snoc (h : RowsAt Z w B Rs) (hz : ∀ b, Z b → b < w.heap.size) {g gc B' : Nat} {L : List Cl} {wrap : Bool} (hB : B ≤ B') (hB' : w.heap.size ≤ B') (hr : RowAt (fun b => w.heap.size ≤ b) w' B' g gc L wrap) (hb : Below w.heap.size w w') :
    RowsAt (fun b => Z b ∨ (w.heap.size ≤ b ∧ b < w'.heap.size ∧ b ≠ g ∧ b ≠ gc)) w' B (Rs ++ [⟨g, gc, L, wrap⟩]) := by
  have hlt := hr.lt
  have hat : ∀ i, i < (Rs ++ [(⟨g, gc, L, wrap⟩ : Rw)]).length → (i < Rs.length ∧ (Rs ++ [(⟨g, gc, L, wrap⟩ : Rw)]).getD i r0 = Rs.getD i r0) ∨ (i = Rs.length ∧ (Rs ++ [(⟨g, gc, L, wrap⟩ : Rw)]).getD i r0 = ⟨g, gc, L, wrap⟩) := fun i hi => by
    rw [getD_app]
    rw [List.length_append, List.length_singleton] at hi
    by_cases e : i < Rs.length
    · exact .inl ⟨e, if_pos e⟩
    · have : i = Rs.length := by omega
      subst this
      exact .inr ⟨rfl, by rw [if_neg e, Nat.sub_self]; rfl⟩
  refine ⟨fun i hi => ?_, fun i hi => ?_, fun i j hi hj hij => ?_⟩
  · rcases hat i hi with ⟨hl, e⟩ | ⟨_, e⟩
    · rw [e]
      exact ((h.row i hl).below hb).keep (.refl _ _) fun b _ hz => .inl hz
    · rw [e]
      exact (hr.tight.base hB).keep (.refl _ _) fun b _ hz => .inr hz
  · rcases hat i hi with ⟨hl, e⟩ | ⟨_, e⟩
    · rw [e]
      have := h.lt i hl
      have := h.out i hl
      exact ⟨fun hz => by rcases hz with hz | hz; exact this.1 hz; omega, fun hz => by rcases hz with hz | hz; exact this.2 hz; omega⟩
    · rw [e]
      exact ⟨fun hzz => by rcases hzz with hzz | hzz; have := hz _ hzz; simp only at this; omega; exact hzz.2.2.1 rfl, fun hzz => by rcases hzz with hzz | hzz; have := hz _ hzz; simp only at this; omega; exact hzz.2.2.2 rfl⟩
  · rcases hat i hi with ⟨hl, e⟩ | ⟨hl, e⟩ <;> rcases hat j hj with ⟨hl', e'⟩ | ⟨hl', e'⟩ <;> rw [e, e']
    · exact h.apart i j hl hl' hij
    · have := h.lt i hl
      exact ⟨by simp only; omega, by simp only; omega⟩
    · have := h.lt j hl'
      exact ⟨by simp only; omega, by simp only; omega⟩
    · omega
end
/-- The grid at block gg, its pointers at block gr. -/
def GridAt (w : World) (B gg gr wd : Nat) (Rs : List Rw) : Prop :=
  ∃ (Z : Zone) (cap : Nat), (∀ b, Z b → B ≤ b ∧ b < w.heap.size) ∧ Has w gg [.int .i64 wd, .slice (some ⟨gr, 0, none⟩) Rs.length cap] 108 ∧ B ≤ gg ∧ OwnE ptrE (fun _ => True) w B 25 (.slice (some ⟨gr, 0, none⟩) Rs.length cap) (ptrs Rs) ∧ ¬ Z gg ∧ ¬ Z gr ∧ RowsAt Z w B Rs ∧ (∀ i, i < Rs.length → (Rs.getD i r0).L.length = wd) ∧ 0 < Rs.length ∧ Rs.length ≤ 1024
section
variable {S : Zone} {w w' : World} {B gg gr wd : Nat} {Rs : List Rw}
theorem GridAt.lt (h : GridAt w B gg gr wd Rs) : B ≤ gg ∧ gg < w.heap.size ∧ B ≤ gr ∧ gr < w.heap.size ∧ gg ≠ gr ∧ ∀ i, i < Rs.length → (Rs.getD i r0).g < w.heap.size ∧ (Rs.getD i r0).gc < w.heap.size ∧ B ≤ (Rs.getD i r0).gc ∧ B ≤ (Rs.getD i r0).g := by
  obtain ⟨Z, cap, h1, h2, h3, h4, h5, h6, h7, h8⟩ := h
  refine ⟨h3, h2.lt, (h4.lt gr rfl).1, (h4.lt gr rfl).2, fun e => ?_, h7.lt⟩
  obtain ⟨_, k⟩ := h4.ptrs
  rcases k with ⟨e', _⟩ | ⟨g', cap', cur, e', _, hg, _⟩
  · cases e'
  · simp only [Value.slice.injEq, Option.some.injEq, Addr.mk.injEq] at e'
    obtain ⟨⟨rfl, _⟩, _⟩ := e'
    rw [← e] at hg
    unfold Has at h2
    rw [h2] at hg
    simp only [Option.some.injEq, Obj.cells.injEq] at hg
    exact absurd hg.2.1 (by decide)
theorem GridAt.keep (h : GridAt w B gg gr wd Rs) (hu : Upd S w w') (hs : ∀ b, B ≤ b → b < w.heap.size → ¬ S b) : GridAt w' B gg gr wd Rs := by
  have hlt := h.lt
  obtain ⟨Z, cap, h1, h2, h3, h4, h5, h6, h7, h8⟩ := h
  have hk := hu.keep
  refine ⟨Z, cap, fun b hb => ⟨(h1 b hb).1, Nat.lt_of_lt_of_le (h1 b hb).2 hu.size⟩, hk.has h2 (hs _ hlt.1 hlt.2.1), h3, ?_, h5, h6, h7.upd hu (fun b hz => hs b (h1 b hz).1 (h1 b hz).2) (fun i hi => ⟨hs _ (hlt.2.2.2.2.2 i hi).2.2.2 (hlt.2.2.2.2.2 i hi).1, hs _ (hlt.2.2.2.2.2 i hi).2.2.1 (hlt.2.2.2.2.2 i hi).2.1⟩), h8⟩
  exact own_ptrs (hk.own h4.ptrs fun b hb => by
    have : gr = b := by simpa [Value.ownBlock] using hb
    subst this
    exact hs _ hlt.2.2.1 hlt.2.2.2.1)
theorem GridAt.below (h : GridAt w B gg gr wd Rs) (hb : Below w.heap.size w w') : GridAt w' B gg gr wd Rs := h.keep (S := fun b => w.heap.size ≤ b) (.ofBelow hb) fun b _ h1 h2 => by omega
theorem GridAt.row (h : GridAt w B gg gr wd Rs) {i : Nat} (hi : i < Rs.length) : RowAt (fun _ => True) w B (Rs.getD i r0).g (Rs.getD i r0).gc (Rs.getD i r0).L (Rs.getD i r0).wrap := by
  obtain ⟨Z, cap, h1, h2, h3, h4, h5, h6, h7, h8⟩ := h
  exact (h7.row i hi).keep (.refl _ _) fun _ _ _ => trivial
theorem GridAt.sizes (h : GridAt w B gg gr wd Rs) : 0 < Rs.length ∧ Rs.length ≤ 1024 ∧ 0 < wd ∧ wd ≤ 1024 ∧ ∀ i, i < Rs.length → (Rs.getD i r0).L.length = wd := by
  obtain ⟨Z, cap, h1, h2, h3, h4, h5, h6, h7, h8, h9, h10⟩ := h
  obtain ⟨k1, k2, _⟩ := (h7.row 0 h9).len
  rw [h8 0 h9] at k1 k2
  exact ⟨h9, h10, k1, k2, h8⟩
/-- What a walk reads of a grid. -/
theorem GridAt.cells (h : GridAt w B gg gr wd Rs) : ∃ cap, w.cell? ⟨gg, 0, none⟩ = some (.int .i64 wd) ∧ w.cell? ⟨gg, 1, none⟩ = some (.slice (some ⟨gr, 0, none⟩) Rs.length cap) ∧ Rs.length ≤ cap ∧ ∀ i, i < Rs.length → w.cell? ⟨gr, i, none⟩ = some (.pointer (some ⟨(Rs.getD i r0).g, 0, none⟩)) := by
  obtain ⟨Z, cap, h1, h2, h3, h4, h5, h6, h7, h8, h9, h10⟩ := h
  refine ⟨cap, h2.cell 0 _ rfl, h2.cell 1 _ rfl, ?_, fun i hi => ?_⟩
  · obtain ⟨_, k⟩ := h4.ptrs
    rcases k with ⟨e, _⟩ | ⟨g', cap', cur, e, _, _, hn, _⟩
    · cases e
    · simp only [Value.slice.injEq] at e
      obtain ⟨_, _, rfl⟩ := e
      rw [ptrs_len] at hn
      exact hn
  · have := (ptr_cell h4 i (by rw [ptrs_len]; exact hi)).1
    rw [ptrs_at Rs i hi] at this
    exact this
end
theorem gside_any (n : Int) (w : World) : Calls Tryd.prog 75 #[.int .i64 n] w fun e w' => e = .returned (.int .i64 (rowN n)) ∧ w = w' := by
  have HE := Lib.hid (show min (max n 1) 1024 = (rowN n : Int) by unfold rowN; omega)
  go_enter Tryd.func75, Tryd.ntmps75
  go_wp2
  go_ret
  exact ⟨ret_eq (by rw [← HE.out]; try rfl), rfl⟩
theorem gwide_any (B gg gr wd : Nat) (Rs : List Rw) (w : World) (h : GridAt w B gg gr wd Rs) : Calls Tryd.prog 42 #[.pointer (some ⟨gg, 0, none⟩)] w fun e w' => e = .returned (.int .i64 wd) ∧ w = w' := by
  obtain ⟨cap, c0, c1, _⟩ := h.cells
  clear h
  go_enter Tryd.func42, Tryd.ntmps42
  go_wp2
  go_ret
  exact ⟨(ret_eq (by first | rfl | (simp <;> omega))), rfl⟩
theorem gwide_nil (w : World) : Calls Tryd.prog 42 #[.pointer none] w fun e w' => e = .returned (.int .i64 0) ∧ w = w' := by
  go_enter Tryd.func42, Tryd.ntmps42
  go_wp2
  go_ret
  exact ⟨(ret_eq (by first | rfl | (simp <;> omega))), rfl⟩
theorem ghigh_any (B gg gr wd : Nat) (Rs : List Rw) (w : World) (h : GridAt w B gg gr wd Rs) : Calls Tryd.prog 44 #[.pointer (some ⟨gg, 0, none⟩)] w fun e w' => e = .returned (.int .i64 Rs.length) ∧ w = w' := by
  obtain ⟨cap, c0, c1, _⟩ := h.cells
  clear h
  go_enter Tryd.func44, Tryd.ntmps44
  go_wp2
  go_ret
  exact ⟨(ret_eq (by first | rfl | (simp <;> omega))), rfl⟩
theorem ghigh_nil (w : World) : Calls Tryd.prog 44 #[.pointer none] w fun e w' => e = .returned (.int .i64 0) ∧ w = w' := by
  go_enter Tryd.func44, Tryd.ntmps44
  go_wp2
  go_ret
  exact ⟨(ret_eq (by first | rfl | (simp <;> omega))), rfl⟩
theorem grow_in (B gg gr wd : Nat) (Rs : List Rw) (i : Nat) (w : World) (h : GridAt w B gg gr wd Rs) (hi : i < Rs.length) : Calls Tryd.prog 51 #[.pointer (some ⟨gg, 0, none⟩), .int .i64 i] w fun e w' => e = .returned (.pointer (some ⟨(Rs.getD i r0).g, 0, none⟩)) ∧ w = w' := by
  obtain ⟨cap, c0, c1, hcap, hc⟩ := h.cells
  have cr := hc i hi
  obtain ⟨p, hp⟩ : ∃ p, p = (Rs.getD i r0).g := ⟨_, rfl⟩
  rw [← hp] at cr ⊢
  have HH := Lib.hid (ghigh_any B gg gr wd Rs w h)
  have hsz := h.sizes
  obtain ⟨n, hn⟩ : ∃ n, n = Rs.length := ⟨_, rfl⟩
  rw [← hn] at c1 HH hcap hi hsz
  have hd0 : decide ((i : Int) < 0) = false := by rw [decide_eq_false_iff_not]; omega
  have hd1 : decide ((n : Int) ≤ i) = false := by rw [decide_eq_false_iff_not]; omega
  have hd2 : decide (n ≤ i) = false := by rw [decide_eq_false_iff_not]; omega
  have hn9 : n ≤ 1024 := hsz.2.1
  clear h hc hn hp hsz
  go_enter Tryd.func51, Tryd.ntmps51
  go_wp2_with fail
  refine HH.out.mono ?_
  rintro e w1 ⟨rfl, rfl⟩
  go_wp2
  go_ret
  exact ⟨(ret_eq (by first | rfl | (simp <;> omega))), rfl⟩
theorem grow_out (B gg gr wd : Nat) (Rs : List Rw) (i : Int) (w : World) (h : GridAt w B gg gr wd Rs) (hi : i < 0 ∨ (Rs.length : Int) ≤ i) : Calls Tryd.prog 51 #[.pointer (some ⟨gg, 0, none⟩), .int .i64 i] w fun e w' => e = .returned (.pointer none) ∧ w = w' := by
  have HH := Lib.hid (ghigh_any B gg gr wd Rs w h)
  obtain ⟨n, hn⟩ : ∃ n, n = Rs.length := ⟨_, rfl⟩
  rw [← hn] at HH hi
  clear h hn
  by_cases h0 : i < 0
  · have hd0 : decide (i < 0) = true := by rw [decide_eq_true_eq]; exact h0
    clear h0 hi
    go_enter Tryd.func51, Tryd.ntmps51
    go_wp2
    go_ret
    exact ⟨(ret_eq (by first | rfl | (simp <;> omega))), rfl⟩
  · have hd0 : decide (i < 0) = false := by rw [decide_eq_false_iff_not]; exact h0
    have hd1 : decide ((n : Int) ≤ i) = true := by rw [decide_eq_true_eq]; omega
    clear h0 hi
    go_enter Tryd.func51, Tryd.ntmps51
    go_wp2_with fail
    refine HH.out.mono ?_
    rintro e w1 ⟨rfl, rfl⟩
    go_wp2
    go_ret
    exact ⟨(ret_eq (by first | rfl | (simp <;> omega))), rfl⟩
theorem grow_nil (i : Int) (w : World) : Calls Tryd.prog 51 #[.pointer none, .int .i64 i] w fun e w' => e = .returned (.pointer none) ∧ w = w' := by
  by_cases h0 : i < 0
  · have hd0 : decide (i < 0) = true := by rw [decide_eq_true_eq]; exact h0
    clear h0
    go_enter Tryd.func51, Tryd.ntmps51
    go_wp2
    go_ret
    exact ⟨(ret_eq (by first | rfl | (simp <;> omega))), rfl⟩
  · have hd0 : decide (i < 0) = false := by rw [decide_eq_false_iff_not]; exact h0
    have hd1 : decide ((0 : Int) ≤ i) = true := by rw [decide_eq_true_eq]; omega
    clear h0
    go_enter Tryd.func51, Tryd.ntmps51
    go_wp2_with fail
    refine (ghigh_nil w).mono ?_
    rintro e w1 ⟨rfl, rfl⟩
    go_wp2
    go_ret
    exact ⟨(ret_eq (by first | rfl | (simp <;> omega))), rfl⟩
end Go.Proofs.YtmclmhdlnlcafaaDoor
