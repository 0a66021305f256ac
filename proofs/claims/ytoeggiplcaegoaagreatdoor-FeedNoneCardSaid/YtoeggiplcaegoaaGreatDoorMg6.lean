/- Texts put together: CwidB, CwidC, GrdA, GrdB, GrdC, GrdF, MeaA, RowX, MarkC, MarkD, MarkE, MarkF. -/
import Derived.Test.YtoeggiplcaegoaaGreatDoorCwidA
import Derived.Test.YtoeggiplcaegoaaGreatDoorMg5
import Derived.Test.YtoeggiplcaegoaaGreatDoorMg4
import Derived.Test.YtoeggiplcaegoaaGreatDoorMg1
import Derived.Test.YtoeggiplcaegoaaGreatDoorRowQ
import Derived.Lib.MinMax
import Derived.Deep.Cut
import Derived.Test.YtoeggiplcaegoaaGreatDoorRowP
import Derived.Test.YtoeggiplcaegoaaGreatDoorMg3
import Derived.Test.YtoeggiplcaegoaaGreatDoorCellP
/- The reference's Of of layer 19; cwidth.Of; works. -/
namespace Go.Proofs.YtoeggiplcaegoaaGreatDoor
open Go.RowKit Go.ChangeShapes Go.WideShapes
end Go.Proofs.YtoeggiplcaegoaaGreatDoor
/- cwidth.Of; works of layer 19. -/
namespace Go.Proofs.YtoeggiplcaegoaaGreatDoor
open Go.RowKit Go.ChangeShapes Go.WideShapes
end Go.Proofs.YtoeggiplcaegoaaGreatDoor
/- Grids: what one is in memory; lines; Wide, High, Row. -/
namespace Go.Proofs.YtoeggiplcaegoaaGreatDoor
open Go.RowKit Go.ChangeShapes Go.WideShapes
variable {Yo : Zone}
/-- A line: its cells, whether it goes on. -/
abbrev Ln := List Cl × Bool
abbrev zl : Ln := ([], false)
def lineE : Elem Ln := prE cellsE boolE
theorem line_rep {Z : Zone} {w : World} {C : List Value} {x : Ln} : lineE.rep Z w C x ↔ ∃ v, C = [v, .bool x.2] ∧ HeldE cellE Z w v x.1 := by
  constructor
  · rintro ⟨C1, C2, rfl, ⟨v, rfl, h⟩, rfl⟩
    exact ⟨v, rfl, h⟩
  · rintro ⟨v, rfl, h⟩
    exact ⟨[v], [_], rfl, ⟨v, rfl, h⟩, rfl⟩
/-- Pointers to rows. -/
def ptrV (x : Option Nat) : Value := .pointer (x.map fun g => ⟨g, 0, none⟩)
def ptrE : Elem (Option Nat) where
  size := 1
  zero := none
  rep := fun _ _ C x => C = [ptrV x]
  len := by rintro _ _ _ _ rfl; rfl
  one := by
    rintro _ _ _ _ rfl u hu
    simp at hu
    subst hu; rfl
  keep := fun _ _ h => h
theorem info_rowp : (Tryz.prog.info? 113).map (fun i => (i.zero, i.size, i.bytes)) = some (some (.pointer none), ptrE.size, 8) := by kernel_rfl
theorem ptr_flat : ∀ xs : List (Option Nat), (xs.map fun x => [ptrV x]).flatten = xs.map ptrV
  | [] => rfl
  | x :: xs => by rw [List.map_cons, List.flatten_cons, ptr_flat xs]; rfl
theorem own_ptrs {Z : Zone} {w : World} {B n : Nat} {ty : TypeId} {v : Value} {xs : List (Option Nat)} (h : w.ownsRow B ty 1 v n (xs.map ptrV)) : OwnE ptrE Z w B ty v xs := by
  have hn : xs.length = n := by have := h.1; simpa using this
  subst hn
  refine ⟨xs.map fun x => [ptrV x], ?_, by simp, fun i hi => ?_⟩
  · rw [ptr_flat]
    exact h
  · show _ = _
    simp [List.getD, List.getElem?_eq_getElem hi]
theorem OwnE.ptrs {Z : Zone} {w : World} {B : Nat} {ty : TypeId} {v : Value} {xs : List (Option Nat)} (h : OwnE ptrE Z w B ty v xs) : w.ownsRow B ty 1 v xs.length (xs.map ptrV) := by
  obtain ⟨CS, h1, h2, h3⟩ := h
  have e : CS.flatten = xs.map ptrV := by
    apply List.ext_getElem?
    intro i
    have hls : ∀ C ∈ CS, C.length = 1 := own_lens h2 h3
    by_cases hi : i < xs.length
    · have := flat_at hls i 0 (by omega) (by omega)
      rw [Nat.mul_one, Nat.add_zero] at this
      rw [this, show CS.getD i [] = [ptrV (xs.getD i none)] from h3 i hi]
      simp [List.getD, List.getElem?_eq_getElem hi]
    · rw [List.getElem?_eq_none (by rw [flat_len hls]; omega), List.getElem?_eq_none (by simp; omega)]
  rw [← e]
  exact h1
theorem OwnE.zoneP {Z Y : Zone} {w : World} {B : Nat} {ty : TypeId} {v : Value} {xs : List (Option Nat)} (h : OwnE ptrE Z w B ty v xs) : OwnE ptrE Y w B ty v xs := own_ptrs h.ptrs
theorem own_num {Z : Zone} {w : World} {B g n cap : Nat} {ty : TypeId} {xs : List (Option Nat)} (h : OwnE ptrE Z w B ty (.slice (some ⟨g, 0, none⟩) n cap) xs) : n = xs.length := by
  rcases h.ptrs.2 with ⟨e, _⟩ | ⟨g', cap', cur, e, _⟩
  · cases e
  · simp only [Value.slice.injEq] at e
    exact e.2.1
/-- The pointer at a place of a row of pointers; a pointer put there. -/
theorem ptr_cell {Z : Zone} {w : World} {B g n cap : Nat} {ty : TypeId} {xs : List (Option Nat)} (h : OwnE ptrE Z w B ty (.slice (some ⟨g, 0, none⟩) n cap) xs) (i : Nat) (hi : i < xs.length) : w.cell? ⟨g, i, none⟩ = some (ptrV (xs.getD i none)) ∧ w.frozen? ⟨g, i, none⟩ = false := by
  have hr := h.ptrs
  obtain rfl := own_num h
  refine ⟨?_, hr.frozenAt i⟩
  rw [hr.cellAt i (by omega)]
  simp [List.getD, List.getElem?_eq_getElem hi]
theorem ptr_put {Z : Zone} {w : World} {B g n cap : Nat} {ty : TypeId} {xs : List (Option Nat)} (h : OwnE ptrE Z w B ty (.slice (some ⟨g, 0, none⟩) n cap) xs) (i : Nat) (_ : i < xs.length) (x : Option Nat) : OwnE ptrE Z (w.setCell ⟨g, i, none⟩ (ptrV x)) B ty (.slice (some ⟨g, 0, none⟩) n cap) (xs.set i x) := by
  have hr := h.ptrs
  obtain rfl := own_num h
  have hst := (hr.stored i (ptrV x)).1
  rw [← List.map_set] at hst
  exact own_ptrs hst
/-- A row of a grid: where it lies, its cells, whether it goes on. -/
structure Rw where
  g : Nat
  gc : Nat
  L : List Cl
  wrap : Bool
def r0 : Rw := ⟨0, 0, [], false⟩
def lineOf (r : Rw) : Ln := (r.L, r.wrap)
def ptrs (Rs : List Rw) : List (Option Nat) := Rs.map fun r => some r.g
theorem ptrs_len (Rs : List Rw) : (ptrs Rs).length = Rs.length := by simp [ptrs]
theorem ptrs_at (Rs : List Rw) (i : Nat) (h : i < Rs.length) : (ptrs Rs).getD i none = some (Rs.getD i r0).g := by simp [ptrs, List.getD, List.getElem?_eq_getElem h]
theorem RowAt.tight {Z : Zone} {w : World} {B g gc : Nat} {L : List Cl} {wrap : Bool} (h : RowAt Z w B g gc L wrap) : RowAt (fun b => Z b ∧ b < w.heap.size ∧ b ≠ g ∧ b ≠ gc) w B g gc L wrap := by
  obtain ⟨cap, h1, h2, h3, ⟨CS, k1, k2, k3⟩, h5⟩ := h
  exact ⟨cap, h1, h2, h3, ⟨CS, k1, k2, fun i hi => cellE.keep (.refl _ _) (fun b hb hz => ⟨⟨⟨hz.1.1, hb, hz.1.2, fun e => hz.2 (by subst e; rfl)⟩, hz.1.2⟩, hz.2⟩) (k3 i hi)⟩, h5⟩
theorem RowAt.types {Z : Zone} {w : World} {B g gc : Nat} {L : List Cl} {wrap : Bool} (h : RowAt Z w B g gc L wrap) : (∃ C, w.heap[g]? = some (.cells C 187 (0, 0))) ∧ ∃ C, w.heap[gc]? = some (.cells C 147 (0, 0)) := by
  obtain ⟨cap, h1, h2, h3, ⟨CS, ⟨_, k1⟩, k2, k3⟩, h5, _⟩ := h
  refine ⟨⟨_, h1⟩, ?_⟩
  rcases k1 with ⟨e, _⟩ | ⟨g', cap', cur, e, _, hg, _⟩
  · cases e
  · simp only [Value.slice.injEq, Option.some.injEq, Addr.mk.injEq] at e
    obtain ⟨⟨rfl, _⟩, _⟩ := e
    exact ⟨cur, hg⟩
/-- Rows that lie apart; their texts lie in the zone. -/
structure RowsAt (Z : Zone) (w : World) (B : Nat) (Rs : List Rw) : Prop where
  row : ∀ i, i < Rs.length → RowAt Z w B (Rs.getD i r0).g (Rs.getD i r0).gc (Rs.getD i r0).L (Rs.getD i r0).wrap
  out : ∀ i, i < Rs.length → ¬ Z (Rs.getD i r0).g ∧ ¬ Z (Rs.getD i r0).gc
  apart : ∀ i j, i < Rs.length → j < Rs.length → i ≠ j → (Rs.getD i r0).g ≠ (Rs.getD j r0).g ∧ (Rs.getD i r0).gc ≠ (Rs.getD j r0).gc
section
variable {Z Y S : Zone} {w w' : World} {B : Nat} {Rs : List Rw}
theorem RowsAt.nil (Z : Zone) (w : World) (B : Nat) : RowsAt Z w B [] := ⟨fun i hi => absurd hi (Nat.not_lt_zero _), fun i hi => absurd hi (Nat.not_lt_zero _), fun i j hi => absurd hi (Nat.not_lt_zero _)⟩
theorem RowsAt.cross (h : RowsAt Z w B Rs) (i j : Nat) (hi : i < Rs.length) (hj : j < Rs.length) : (Rs.getD i r0).g ≠ (Rs.getD j r0).gc := by
  intro e
  obtain ⟨⟨C, h1⟩, _⟩ := (h.row i hi).types
  obtain ⟨_, D, h2⟩ := (h.row j hj).types
  rw [e, h2] at h1
  simp only [Option.some.injEq, Obj.cells.injEq] at h1
  exact absurd h1.2.1 (by decide)
theorem RowsAt.upd (h : RowsAt Z w B Rs) (hu : Upd S w w') (hz : ∀ b, Z b → ¬ S b) (hs : ∀ i, i < Rs.length → ¬ S (Rs.getD i r0).g ∧ ¬ S (Rs.getD i r0).gc) : RowsAt Z w' B Rs :=
  ⟨fun i hi => (h.row i hi).upd hu hz (hs i hi).1 (hs i hi).2, h.out, h.apart⟩
theorem RowsAt.below (h : RowsAt Z w B Rs) (hb : Below w.heap.size w w') : RowsAt Z w' B Rs := ⟨fun i hi => (h.row i hi).below hb, h.out, h.apart⟩
theorem RowsAt.lt (h : RowsAt Z w B Rs) : ∀ i, i < Rs.length → (Rs.getD i r0).g < w.heap.size ∧ (Rs.getD i r0).gc < w.heap.size ∧ B ≤ (Rs.getD i r0).gc ∧ B ≤ (Rs.getD i r0).g := fun i hi => (h.row i hi).lt
/-- A row that is new behind them. -/
theorem RowsAt.snoc (h : RowsAt Z w B Rs) (hz : ∀ b, Z b → b < w.heap.size) {g gc B' : Nat} {L : List Cl} {wrap : Bool} (hB : B ≤ B') (hB' : w.heap.size ≤ B') (hr : RowAt (fun b => w.heap.size ≤ b) w' B' g gc L wrap) (hb : Below w.heap.size w w') :
    RowsAt (fun b => Z b ∨ (w.heap.size ≤ b ∧ b < w'.heap.size ∧ b ≠ g ∧ b ≠ gc)) w' B (Rs ++ [⟨g, gc, L, wrap⟩]) := by
  have hlt := hr.lt
  have hat : ∀ i, i < (Rs ++ [(⟨g, gc, L, wrap⟩ : Rw)]).length → (i < Rs.length ∧ (Rs ++ [(⟨g, gc, L, wrap⟩ : Rw)]).getD i r0 = Rs.getD i r0) ∨ (i = Rs.length ∧ (Rs ++ [(⟨g, gc, L, wrap⟩ : Rw)]).getD i r0 = ⟨g, gc, L, wrap⟩) := fun i hi => by
    rw [getD_app]
    rw [List.length_append, List.length_singleton] at hi
    by_cases e : i < Rs.length
    · exact .inl ⟨e, if_pos e⟩
    · have : i = Rs.length := by omega
      subst this
      exact .inr ⟨rfl, by rw [if_neg e, Nat.sub_self]; rfl⟩
  refine ⟨fun i hi => ?_, fun i hi => ?_, fun i j hi hj hij => ?_⟩
  · rcases hat i hi with ⟨hl, e⟩ | ⟨_, e⟩
    · rw [e]
      exact ((h.row i hl).below hb).keep (.refl _ _) fun b _ hz => .inl hz
    · rw [e]
      exact (hr.tight.base hB).keep (.refl _ _) fun b _ hz => .inr hz
  · rcases hat i hi with ⟨hl, e⟩ | ⟨_, e⟩
    · rw [e]
      have := h.lt i hl
      have := h.out i hl
      exact ⟨fun hz => by rcases hz with hz | hz; exact this.1 hz; omega, fun hz => by rcases hz with hz | hz; exact this.2 hz; omega⟩
    · rw [e]
      exact ⟨fun hzz => by rcases hzz with hzz | hzz; have := hz _ hzz; simp only at this; omega; exact hzz.2.2.1 rfl, fun hzz => by rcases hzz with hzz | hzz; have := hz _ hzz; simp only at this; omega; exact hzz.2.2.2 rfl⟩
  · rcases hat i hi with ⟨hl, e⟩ | ⟨hl, e⟩ <;> rcases hat j hj with ⟨hl', e'⟩ | ⟨hl', e'⟩ <;> rw [e, e']
    · exact h.apart i j hl hl' hij
    · have := h.lt i hl
      exact ⟨by simp only; omega, by simp only; omega⟩
    · have := h.lt j hl'
      exact ⟨by simp only; omega, by simp only; omega⟩
    · omega
end
/-- The grid at block gg, its pointers at block gr. -/
def GridY (Yo : Zone) (w : World) (B gg gr wd : Nat) (Rs : List Rw) : Prop :=
  ∃ (Z : Zone) (cap : Nat), (∀ b, Z b → B ≤ b ∧ b < w.heap.size) ∧ Has w gg [.int .i64 wd, .slice (some ⟨gr, 0, none⟩) Rs.length cap] 119 ∧ B ≤ gg ∧ OwnE ptrE (fun _ => True) w B 113 (.slice (some ⟨gr, 0, none⟩) Rs.length cap) (ptrs Rs) ∧ ¬ Z gg ∧ ¬ Z gr ∧ RowsAt Z w B Rs ∧ (∀ i, i < Rs.length → (Rs.getD i r0).L.length = wd) ∧ 0 < Rs.length ∧ Rs.length ≤ 1024 ∧ ∀ b, (Z b ∨ w.heap.size ≤ b) → Yo b
abbrev GridAt (w : World) (B gg gr wd : Nat) (Rs : List Rw) : Prop := GridY (fun _ => True) w B gg gr wd Rs
section
variable {S : Zone} {w w' : World} {B gg gr wd : Nat} {Rs : List Rw}
theorem GridY.lt (h : GridY Yo w B gg gr wd Rs) : B ≤ gg ∧ gg < w.heap.size ∧ B ≤ gr ∧ gr < w.heap.size ∧ gg ≠ gr ∧ ∀ i, i < Rs.length → (Rs.getD i r0).g < w.heap.size ∧ (Rs.getD i r0).gc < w.heap.size ∧ B ≤ (Rs.getD i r0).gc ∧ B ≤ (Rs.getD i r0).g := by
  obtain ⟨Z, cap, h1, h2, h3, h4, h5, h6, h7, h8⟩ := h
  refine ⟨h3, h2.lt, (h4.lt gr rfl).1, (h4.lt gr rfl).2, fun e => ?_, h7.lt⟩
  obtain ⟨_, k⟩ := h4.ptrs
  rcases k with ⟨e', _⟩ | ⟨g', cap', cur, e', _, hg, _⟩
  · cases e'
  · simp only [Value.slice.injEq, Option.some.injEq, Addr.mk.injEq] at e'
    obtain ⟨⟨rfl, _⟩, _⟩ := e'
    rw [← e] at hg
    unfold Has at h2
    rw [h2] at hg
    simp only [Option.some.injEq, Obj.cells.injEq] at hg
    exact absurd hg.2.1 (by decide)
theorem GridY.keep (h : GridY Yo w B gg gr wd Rs) (hu : Upd S w w') (hs : ∀ b, B ≤ b → b < w.heap.size → ¬ S b) : GridY Yo w' B gg gr wd Rs := by
  have hlt := h.lt
  obtain ⟨Z, cap, h1, h2, h3, h4, h5, h6, h7, h8, h9, h10, hY⟩ := h
  have hk := hu.keep
  refine ⟨Z, cap, fun b hb => ⟨(h1 b hb).1, Nat.lt_of_lt_of_le (h1 b hb).2 hu.size⟩, hk.has h2 (hs _ hlt.1 hlt.2.1), h3, ?_, h5, h6, h7.upd hu (fun b hz => hs b (h1 b hz).1 (h1 b hz).2) (fun i hi => ⟨hs _ (hlt.2.2.2.2.2 i hi).2.2.2 (hlt.2.2.2.2.2 i hi).1, hs _ (hlt.2.2.2.2.2 i hi).2.2.1 (hlt.2.2.2.2.2 i hi).2.1⟩), h8, h9, h10, fun b hb => hY b (hb.imp id (Nat.le_trans hu.size))⟩
  exact own_ptrs (hk.own h4.ptrs fun b hb => by
    have : gr = b := by simpa [Value.ownBlock] using hb
    subst this
    exact hs _ hlt.2.2.1 hlt.2.2.2.1)
theorem GridY.below (h : GridY Yo w B gg gr wd Rs) (hb : Below w.heap.size w w') : GridY Yo w' B gg gr wd Rs := h.keep (S := fun b => w.heap.size ≤ b) (.ofBelow hb) fun b _ h1 h2 => by omega
theorem GridY.row (h : GridY Yo w B gg gr wd Rs) {i : Nat} (hi : i < Rs.length) : RowAt (fun _ => True) w B (Rs.getD i r0).g (Rs.getD i r0).gc (Rs.getD i r0).L (Rs.getD i r0).wrap := by
  obtain ⟨Z, cap, h1, h2, h3, h4, h5, h6, h7, h8⟩ := h
  exact (h7.row i hi).keep (.refl _ _) fun _ _ _ => trivial
theorem GridY.sizes (h : GridY Yo w B gg gr wd Rs) : 0 < Rs.length ∧ Rs.length ≤ 1024 ∧ 0 < wd ∧ wd ≤ 1024 ∧ ∀ i, i < Rs.length → (Rs.getD i r0).L.length = wd := by
  obtain ⟨Z, cap, h1, h2, h3, h4, h5, h6, h7, h8, h9, h10⟩ := h
  obtain ⟨k1, k2, _⟩ := (h7.row 0 h9).len
  rw [h8 0 h9] at k1 k2
  exact ⟨h9, h10.1, k1, k2, h8⟩
/-- Texts where they may be. -/
theorem GridY.any (h : GridY Yo w B gg gr wd Rs) : GridAt w B gg gr wd Rs := by
  obtain ⟨Z, cap, h1, h2, h3, h4, h5, h6, h7, h8, h9, h10, hY⟩ := h
  exact ⟨Z, cap, h1, h2, h3, h4, h5, h6, h7, h8, h9, h10, fun _ _ => trivial⟩
/-- A block that is made behind the grid has none of its texts. -/
theorem GridY.new (h : GridY Yo w B gg gr wd Rs) (o : Obj) : GridY (fun b => b ≠ w.heap.size) (w.alloc o) B gg gr wd Rs := by
  have hb := (Below.refl w.heap.size w).alloc (Nat.le_refl _) o
  have hlt := h.lt
  obtain ⟨Z, cap, h1, h2, h3, h4, h5, h6, h7, h8, h9, h10, hY⟩ := h.below hb
  obtain ⟨Z', cap', k1, k2, k3, k4, k5, k6, k7, k8, k9, k10, kY⟩ := h
  have hs : (w.alloc o).heap.size = w.heap.size + 1 := by simp
  refine ⟨Z', cap', fun b hz => ⟨(k1 b hz).1, by have := (k1 b hz).2; omega⟩, k2.below hb k2.lt, k3, k4.below hb, k5, k6, k7.below hb, k8, k9, k10, fun b hz => ?_⟩
  rcases hz with hz | hz
  · have := (k1 b hz).2; omega
  · omega
/-- What a walk reads of a grid. -/
theorem GridY.cells (h : GridY Yo w B gg gr wd Rs) : ∃ cap, w.cell? ⟨gg, 0, none⟩ = some (.int .i64 wd) ∧ w.cell? ⟨gg, 1, none⟩ = some (.slice (some ⟨gr, 0, none⟩) Rs.length cap) ∧ Rs.length ≤ cap ∧ ∀ i, i < Rs.length → w.cell? ⟨gr, i, none⟩ = some (.pointer (some ⟨(Rs.getD i r0).g, 0, none⟩)) := by
  obtain ⟨Z, cap, h1, h2, h3, h4, h5, h6, h7, h8, h9, h10⟩ := h
  refine ⟨cap, h2.cell 0 _ rfl, h2.cell 1 _ rfl, ?_, fun i hi => ?_⟩
  · obtain ⟨_, k⟩ := h4.ptrs
    rcases k with ⟨e, _⟩ | ⟨g', cap', cur, e, _, _, hn, _⟩
    · cases e
    · simp only [Value.slice.injEq] at e
      obtain ⟨_, _, rfl⟩ := e
      rw [ptrs_len] at hn
      exact hn
  · have := (ptr_cell h4 i (by rw [ptrs_len]; exact hi)).1
    rw [ptrs_at Rs i hi] at this
    exact this
end
theorem gside_any (n : Int) (w : World) : Calls Tryz.prog 154 #[.int .i64 n] w fun e w' => e = .returned (.int .i64 (rowN n)) ∧ w = w' := by
  have HE := Lib.hid (show min (max n 1) 1024 = (rowN n : Int) by unfold rowN; omega)
  go_enter Tryz.func154, Tryz.ntmps154
  go_wp2
  go_ret
  exact ⟨ret_eq (by rw [← HE.out]; try rfl), rfl⟩
theorem gwide_any (B gg gr wd : Nat) (Rs : List Rw) (w : World) (h : GridY Yo w B gg gr wd Rs) : Calls Tryz.prog 106 #[.pointer (some ⟨gg, 0, none⟩)] w fun e w' => e = .returned (.int .i64 wd) ∧ w = w' := by
  obtain ⟨cap, c0, c1, _⟩ := h.cells
  clear h
  go_enter Tryz.func106, Tryz.ntmps106
  go_wp2
  go_ret
  exact ⟨(ret_eq (by first | rfl | (simp <;> omega))), rfl⟩
theorem ghigh_any (B gg gr wd : Nat) (Rs : List Rw) (w : World) (h : GridY Yo w B gg gr wd Rs) : Calls Tryz.prog 95 #[.pointer (some ⟨gg, 0, none⟩)] w fun e w' => e = .returned (.int .i64 Rs.length) ∧ w = w' := by
  obtain ⟨cap, c0, c1, _⟩ := h.cells
  clear h
  go_enter Tryz.func95, Tryz.ntmps95
  go_wp2
  go_ret
  exact ⟨(ret_eq (by first | rfl | (simp <;> omega))), rfl⟩
theorem grow_in (B gg gr wd : Nat) (Rs : List Rw) (i : Nat) (w : World) (h : GridY Yo w B gg gr wd Rs) (hi : i < Rs.length) : Calls Tryz.prog 62 #[.pointer (some ⟨gg, 0, none⟩), .int .i64 i] w fun e w' => e = .returned (.pointer (some ⟨(Rs.getD i r0).g, 0, none⟩)) ∧ w = w' := by
  obtain ⟨cap, c0, c1, hcap, hc⟩ := h.cells
  have cr := hc i hi
  obtain ⟨p, hp⟩ : ∃ p, p = (Rs.getD i r0).g := ⟨_, rfl⟩
  rw [← hp] at cr ⊢
  have HH := Lib.hid (ghigh_any B gg gr wd Rs w h)
  have hsz := h.sizes
  obtain ⟨n, hn⟩ : ∃ n, n = Rs.length := ⟨_, rfl⟩
  rw [← hn] at c1 HH hcap hi hsz
  have hd0 : decide ((i : Int) < 0) = false := by rw [decide_eq_false_iff_not]; omega
  have hd1 : decide ((n : Int) ≤ i) = false := by rw [decide_eq_false_iff_not]; omega
  have hd2 : decide (n ≤ i) = false := by rw [decide_eq_false_iff_not]; omega
  have hn9 : n ≤ 1024 := hsz.2.1
  clear h hc hn hp hsz
  go_enter Tryz.func62, Tryz.ntmps62
  go_wp2_with fail
  refine HH.out.mono ?_
  rintro e w1 ⟨rfl, rfl⟩
  go_wp2
  go_ret
  exact ⟨(ret_eq (by first | rfl | (simp <;> omega))), rfl⟩
theorem grow_out (B gg gr wd : Nat) (Rs : List Rw) (i : Int) (w : World) (h : GridY Yo w B gg gr wd Rs) (hi : i < 0 ∨ (Rs.length : Int) ≤ i) : Calls Tryz.prog 62 #[.pointer (some ⟨gg, 0, none⟩), .int .i64 i] w fun e w' => e = .returned (.pointer none) ∧ w = w' := by
  have HH := Lib.hid (ghigh_any B gg gr wd Rs w h)
  obtain ⟨n, hn⟩ : ∃ n, n = Rs.length := ⟨_, rfl⟩
  rw [← hn] at HH hi
  clear h hn
  by_cases h0 : i < 0
  · have hd0 : decide (i < 0) = true := by rw [decide_eq_true_eq]; exact h0
    clear h0 hi
    go_enter Tryz.func62, Tryz.ntmps62
    go_wp2
    go_ret
    exact ⟨(ret_eq (by first | rfl | (simp <;> omega))), rfl⟩
  · have hd0 : decide (i < 0) = false := by rw [decide_eq_false_iff_not]; exact h0
    have hd1 : decide ((n : Int) ≤ i) = true := by rw [decide_eq_true_eq]; omega
    clear h0 hi
    go_enter Tryz.func62, Tryz.ntmps62
    go_wp2_with fail
    refine HH.out.mono ?_
    rintro e w1 ⟨rfl, rfl⟩
    go_wp2
    go_ret
    exact ⟨(ret_eq (by first | rfl | (simp <;> omega))), rfl⟩
end Go.Proofs.YtoeggiplcaegoaaGreatDoor
/- Grids: Lines, New. -/
namespace Go.Proofs.YtoeggiplcaegoaaGreatDoor
open Go.RowKit Go.ChangeShapes Go.WideShapes
end Go.Proofs.YtoeggiplcaegoaaGreatDoor
/- Grids that are being made; New. -/
namespace Go.Proofs.YtoeggiplcaegoaaGreatDoor
open Go.RowKit Go.ChangeShapes Go.WideShapes
theorem exec_store_ptr {P : Program} {ρ : Operand → Value} {o : Oper} {w : World} {ty : TypeId} {x y : Operand} {b off : Nat} (ho : o.op = .store ty x y) (hx : ρ x = .pointer (some ⟨b, off, none⟩)) (p : Option Nat) (hy : ρ y = ptrV p) (u : Value) (hc : w.cell? ⟨b, off, none⟩ = some u) (hf : w.frozen? ⟨b, off, none⟩ = false) (hi : (P.info? ty).map (·.size) = some 1) : (execOp ρ o).run P w = .ok .skip (w.setCell ⟨b, off, none⟩ (ptrV p)) := by
  obtain ⟨i, hi1, hi2⟩ := Option.map_eq_some_iff.1 hi
  have hce : 1 = P.cellsOf ty := by unfold Program.cellsOf; rw [hi1]; exact hi2.symm
  unfold execOp
  unfold ptrV at hy ⊢
  simp [ho, hx, hy, go_sem, hc, hf, run_sizeOf, hi1, hi2]
  exact hce
/-- A grid on its way: its rows' slice is v, which holds the pointers Xs; the rows that are there. -/
def PartAt (w : World) (B gg wd : Nat) (v : Value) (Xs : List (Option Nat)) (Rs : List Rw) : Prop :=
  ∃ Z : Zone, (∀ b, Z b → B ≤ b ∧ b < w.heap.size) ∧ Has w gg [.int .i64 wd, v] 119 ∧ B ≤ gg ∧ OwnE ptrE (fun _ => True) w B 113 v Xs ∧ ¬ Z gg ∧ (∀ b, v.ownBlock = some b → ¬ Z b) ∧ RowsAt Z w B Rs ∧ ∀ i, i < Rs.length → (Rs.getD i r0).L.length = wd
section
variable {w w' : World} {B gg wd : Nat} {v : Value} {Xs : List (Option Nat)} {Rs : List Rw}
/-- The pointers' block is of its own type. -/
theorem own_type {Z : Zone} {ty : TypeId} (h : OwnE ptrE Z w B ty v Xs) {b : Nat} (hb : v.ownBlock = some b) : ∃ C, w.heap[b]? = some (.cells C ty (0, 0)) := by
  rcases h.ptrs.2 with ⟨rfl, _⟩ | ⟨g', cap', cur, rfl, _, hg, _⟩
  · cases hb
  · have : g' = b := by simpa [Value.ownBlock] using hb
    subst this
    exact ⟨cur, hg⟩
theorem other_type {b : Nat} {C D : Array Value} {t u : TypeId} (h : w.heap[b]? = some (.cells C t (0, 0))) (k : w.heap[b]? = some (.cells D u (0, 0))) (hn : t ≠ u) : False := by
  rw [h] at k
  simp only [Option.some.injEq, Obj.cells.injEq] at k
  exact hn k.2.1
theorem PartAt.apart (h : PartAt w B gg wd v Xs Rs) {b : Nat} (hb : v.ownBlock = some b) : gg ≠ b ∧ ∀ i, i < Rs.length → (Rs.getD i r0).g ≠ b ∧ (Rs.getD i r0).gc ≠ b := by
  obtain ⟨Z, h1, h2, h3, h4, h5, h6, h7, h8⟩ := h
  obtain ⟨C, hC⟩ := own_type h4 hb
  refine ⟨fun e => by subst e; exact other_type h2 hC (by decide), fun i hi => ?_⟩
  obtain ⟨⟨D, hD⟩, D', hD'⟩ := (h7.row i hi).types
  exact ⟨fun e => by rw [← e] at hC; exact other_type hD hC (by decide), fun e => by rw [← e] at hC; exact other_type hD' hC (by decide)⟩
theorem PartAt.gapart (h : PartAt w B gg wd v Xs Rs) : ∀ i, i < Rs.length → (Rs.getD i r0).g ≠ gg ∧ (Rs.getD i r0).gc ≠ gg := by
  obtain ⟨Z, h1, h2, h3, h4, h5, h6, h7, h8⟩ := h
  intro i hi
  obtain ⟨⟨D, hD⟩, D', hD'⟩ := (h7.row i hi).types
  exact ⟨fun e => by rw [e] at hD; exact other_type hD h2 (by decide), fun e => by rw [e] at hD'; exact other_type hD' h2 (by decide)⟩
theorem PartAt.below (h : PartAt w B gg wd v Xs Rs) (hb : Below w.heap.size w w') : PartAt w' B gg wd v Xs Rs := by
  obtain ⟨Z, h1, h2, h3, h4, h5, h6, h7, h8⟩ := h
  exact ⟨Z, fun b hz => ⟨(h1 b hz).1, Nat.lt_of_lt_of_le (h1 b hz).2 hb.size⟩, h2.below hb h2.lt, h3, h4.below hb, h5, h6, h7.below hb, h8⟩
theorem PartAt.lt (h : PartAt w B gg wd v Xs Rs) : B ≤ gg ∧ gg < w.heap.size ∧ ∀ b, v.ownBlock = some b → B ≤ b ∧ b < w.heap.size := by
  obtain ⟨Z, h1, h2, h3, h4, h5, h6, h7, h8⟩ := h
  exact ⟨h3, h2.lt, h4.lt⟩
theorem PartAt.next (h : PartAt w B gg wd v Xs Rs) {g gc : Nat} {L : List Cl} {wrap : Bool} (hr : RowAt (fun b => w.heap.size ≤ b) w' w.heap.size g gc L wrap) (hl : L.length = wd) (hb : Below w.heap.size w w') : PartAt w' B gg wd v Xs (Rs ++ [⟨g, gc, L, wrap⟩]) := by
  obtain ⟨Z, h1, h2, h3, h4, h5, h6, h7, h8⟩ := h
  have hlt := h2.lt
  refine ⟨_, fun b hz => ?_, h2.below hb h2.lt, h3, h4.below hb, ?_, fun b hbb => ?_, h7.snoc (fun b hz => (h1 b hz).2) (by omega) (Nat.le_refl _) hr hb, fun i hi => ?_⟩
  · rcases hz with hz | hz
    · have := h1 b hz; have := hb.size; omega
    · omega
  · rintro (hz | hz)
    · exact h5 hz
    · omega
  · have := h4.lt b hbb
    rintro (hz | hz)
    · exact h6 b hbb hz
    · omega
  · rw [getD_app]
    rw [List.length_append, List.length_singleton] at hi
    by_cases e : i < Rs.length
    · rw [if_pos e]; exact h8 i e
    · rw [if_neg e, show i - Rs.length = 0 by omega]
      exact hl
theorem PartAt.put {gr n cap : Nat} (h : PartAt w B gg wd (.slice (some ⟨gr, 0, none⟩) n cap) Xs Rs) (k : Nat) (hk : k < Xs.length) (x : Option Nat) : PartAt (w.setCell ⟨gr, k, none⟩ (ptrV x)) B gg wd (.slice (some ⟨gr, 0, none⟩) n cap) (Xs.set k x) Rs ∧ Upd (fun b => b = gr) w (w.setCell ⟨gr, k, none⟩ (ptrV x)) := by
  have hu := (Upd.refl (fun b => b = gr) w).setCell (p := ⟨gr, k, none⟩) (.inl rfl) (ptrV x)
  have ha := h.apart (b := gr) rfl
  obtain ⟨Z, h1, h2, h3, h4, h5, h6, h7, h8⟩ := h
  refine ⟨⟨Z, fun b hz => ⟨(h1 b hz).1, Nat.lt_of_lt_of_le (h1 b hz).2 hu.size⟩, hu.keep.has h2 ha.1, h3, ptr_put h4 k hk x, h5, h6, h7.upd hu (fun b hz e => h6 gr rfl (e ▸ hz)) ha.2, h8⟩, hu⟩
theorem PartAt.full (h : PartAt w B gg wd v (ptrs Rs) Rs) (h0 : 0 < Rs.length) (h1 : Rs.length ≤ 1024) : ∃ gr, GridAt w B gg gr wd Rs := by
  obtain ⟨Z, k1, k2, k3, k4, k5, k6, k7, k8⟩ := h
  obtain ⟨gr, cap, rfl, hg1, hg2⟩ := k4.some (by rw [ptrs_len]; exact h0)
  rw [ptrs_len] at k2 k4 k6
  exact ⟨gr, Z, cap, k1, k2, k3, k4, k5, k6 gr rfl, k7, k8, h0, h1, fun _ _ => trivial⟩
end
def GridMade (w : World) (wd : Nat) (Ls : List Ln) (e : Ending) (w' : World) : Prop := ∃ gg gr Rs, e = .returned (.pointer (some ⟨gg, 0, none⟩)) ∧ GridAt w' w.heap.size gg gr wd Rs ∧ Rs.map lineOf = Ls ∧ Below w.heap.size w w'
def NewInv (w : World) (B gg gr W N : Nat) (Ls : List Ln) (k : Nat) (wr : World) : Prop := ∃ Rs : List Rw, Rs.length = k ∧ PartAt wr B gg W (.slice (some ⟨gr, 0, none⟩) N N) (ptrs Rs ++ List.replicate (N - k) none) Rs ∧ Rs.map lineOf = Ls.take k ∧ Below B w wr
theorem NewInv.step {w wr ws : World} {B gg gr W N : Nat} {Ls : List Ln} {k : Nat} (h : NewInv w B gg gr W N Ls k wr) (hk : k < N) (hls : Ls.length = N) {g gc : Nat} {L : List Cl} {wrap : Bool} (hl : L.length = W) (hln : Ls.getD k zl = (L, wrap)) (hr : RowAt (fun b => wr.heap.size ≤ b) ws wr.heap.size g gc L wrap) (hb : Below wr.heap.size wr ws) : NewInv w B gg gr W N Ls (k + 1) (ws.setCell ⟨gr, k, none⟩ (ptrV (some g))) ∧ Upd (fun b => b = gr) ws (ws.setCell ⟨gr, k, none⟩ (ptrV (some g))) ∧ (∃ u, ws.cell? ⟨gr, k, none⟩ = some u) ∧ ws.frozen? ⟨gr, k, none⟩ = false := by
  obtain ⟨Rs, hn, hp, hm, hbw⟩ := h
  have hBg := hp.lt
  have hp2 := hp.next hr hl hb
  have hxl : k < (ptrs Rs ++ List.replicate (N - k) none).length := by rw [List.length_append, ptrs_len, List.length_replicate]; omega
  obtain ⟨h3, hu⟩ := hp2.put k hxl (some g)
  have hpc : OwnE ptrE (fun _ => True) ws B 113 (.slice (some ⟨gr, 0, none⟩) N N) (ptrs Rs ++ List.replicate (N - k) none) := by
    obtain ⟨Z, k1, k2, k3, k4, _⟩ := hp2
    exact k4
  have hcc := ptr_cell hpc k hxl
  refine ⟨⟨Rs ++ [⟨g, gc, L, wrap⟩], by simp [hn], ?_, ?_, ?_⟩, hu, ⟨_, hcc.1⟩, hcc.2⟩
  · have e : (ptrs Rs ++ List.replicate (N - k) none).set k (some g) = ptrs (Rs ++ [⟨g, gc, L, wrap⟩]) ++ List.replicate (N - (k + 1)) none := by
      rw [List.set_append_right _ _ (by rw [ptrs_len]; omega), ptrs_len, hn, Nat.sub_self, show N - k = (N - (k + 1)) + 1 by omega, List.replicate_succ]
      simp [ptrs]
    rw [← e]
    exact h3
  · rw [List.map_append, hm, List.take_succ_eq_append_getElem (by omega)]
    have : Ls[k]'(by omega) = (L, wrap) := by rw [← hln]; simp [List.getD, List.getElem?_eq_getElem (show k < Ls.length by omega)]
    rw [this]
    rfl
  · have hgl := hBg.2.2 gr rfl
    have hbb := hbw.trans (hb.mono (show B ≤ wr.heap.size by omega))
    exact hbb.upd hu (by have := hb.size; omega) (fun x e => by omega)
set_option maxRecDepth 100000 in
set_option maxHeartbeats 3000000 in
theorem gnew_any (a b : Int) (w : World) : Calls Tryz.prog 86 #[.int .i64 a, .int .i64 b] w (GridMade w (rowN a) (List.replicate (rowN b) (List.replicate (rowN a) zc, false))) := by
  have HA := Lib.hid (gside_any a w)
  have HBB := Lib.hid (gside_any b w)
  have hN : 0 < rowN b ∧ rowN b ≤ 1024 := by unfold rowN; omega
  have hW : 0 < rowN a ∧ rowN a ≤ 1024 := by unfold rowN; omega
  have hWW : rowN (rowN a : Int) = rowN a := by unfold rowN; omega
  obtain ⟨i0, hi, hz0, hz1, hz2⟩ := info_parts info_rowp
  obtain ⟨N, hNe⟩ : ∃ N, N = rowN b := ⟨_, rfl⟩
  obtain ⟨W, hWe⟩ : ∃ W, W = rowN a := ⟨_, rfl⟩
  rw [← hNe] at HBB hN ⊢
  rw [← hWe] at HA hW hWW ⊢
  have HWW := Lib.hid hWW
  clear hNe hWe hWW
  obtain ⟨Ls, hLs⟩ : ∃ Ls, Ls = List.replicate N (List.replicate W zc, false) := ⟨_, rfl⟩
  rw [← hLs]
  have HLL := Lib.hid (show Ls.length = N by rw [hLs]; simp)
  have HLA := Lib.hid (show ∀ k, k < N → Ls.getD k zl = (List.replicate W zc, false) from fun k hk => by rw [hLs]; simp [List.getD, List.getElem?_replicate, hk])
  clear hLs
  go_enter Tryz.func86, Tryz.ntmps86
  go_wp2_with fail
  refine HA.out.mono ?_
  rintro e w1 ⟨rfl, rfl⟩
  go_wp2_with fail
  refine HBB.out.mono ?_
  rintro e w1 ⟨rfl, rfl⟩
  go_wp2_with (at_make; refine wpList_make_full w rfl (.tmp 10) (.tmp 10) 117 rfl w.heap.size 113 i0 (.pointer none) 1 Tryz.underlying117 hi hz0 hz1 .i64 .i64 _ _ N rfl rfl rfl rfl (by rw [hz2]; omega) (by unfold maxLen; omega) (Nat.le_refl _) ?_)
  intro w1 hown1 hg1
  have hb1 : Below w.heap.size w w1 := (Below.refl _ _).grown hg1 (Nat.le_refl _) (by intro k hk; cases hk)
  have ho1 : OwnE ptrE (fun _ => True) w1 w.heap.size 113 (.slice (some ⟨w.heap.size, 0, none⟩) N N) (List.replicate N none) := own_ptrs (by
    have e := made_flat [Value.pointer none] (by decide) N
    have e2 : (List.replicate N [Value.pointer none]).flatten = (List.replicate N (none : Option Nat)).map ptrV := by rw [← ptr_flat, List.map_replicate]; rfl
    rw [← e2, ← e]
    simpa using hown1)
  have hb2 : Below w1.heap.size w1 (w1.alloc (.cells #[.int .i64 W, .slice (some ⟨w.heap.size, 0, none⟩) N N] 119)) := (Below.refl _ _).alloc (Nat.le_refl _) _
  have hh2 := Has.new w1 [.int .i64 W, .slice (some ⟨w.heap.size, 0, none⟩) N N] 119
  have hi0 : NewInv w w.heap.size w1.heap.size w.heap.size W N Ls 0 (w1.alloc (.cells #[.int .i64 W, .slice (some ⟨w.heap.size, 0, none⟩) N N] 119)) := ⟨[], rfl, ⟨fun _ => False, fun b h => h.elim, hh2, hb1.size, ho1.below hb2, fun h => h, fun b _ h => h, RowsAt.nil _ _ _, fun i hi => absurd hi (Nat.not_lt_zero _)⟩, rfl, hb1.trans (hb2.mono hb1.size)⟩
  have hgg : w.heap.size < w1.heap.size := (ho1.lt _ rfl).2
  obtain ⟨gr, hgr⟩ : ∃ gr, gr = w.heap.size := ⟨_, rfl⟩
  obtain ⟨gg, hge⟩ : ∃ gg, gg = w1.heap.size := ⟨_, rfl⟩
  have HI0 := Lib.hid hi0
  have d1 := hh2.cell 1 _ rfl
  rw [← hge] at d1 hgg
  have HGG := Lib.hid hge
  have HGR := Lib.hid hgr
  obtain ⟨w2, hw2⟩ : ∃ w2, w2 = w1.alloc (.cells #[.int .i64 W, .slice (some ⟨w.heap.size, 0, none⟩) N N] 119) := ⟨_, rfl⟩
  rw [← hw2] at HI0 d1
  have HW2 := Lib.hid hw2
  clear hown1 hg1 hb1 ho1 hb2 hh2 hi0 hi hz0 hz1 hz2 HA HBB hgr hge hw2
  go_upto_region 2 with fail
  rw [← HGG.out, ← HW2.out]
  rw [← HGG.out] at HI0
  go_wp2
  clear d1
  go_loopw [19] (fun i wr => ∃ k : Nat, k ≤ N ∧ i = .int .i64 k ∧ NewInv w w.heap.size gg w.heap.size W N Ls k wr) (fun i _ => N - (intOf i).toNat)
  case atStart => exact ⟨0, Nat.zero_le _, rfl, HI0.out⟩
  case round =>
    obtain ⟨k, hk, rfl, hinv⟩ := hrel
    have HI := Lib.hid hinv
    have hp := hinv
    clear hinv
    obtain ⟨Rs, hRl, hp, hRm, hbw⟩ := hp
    by_cases hlt : k < N
    · obtain ⟨Z, k1, k2, k3, k4, _⟩ := hp
      have hlg : gg < wr.heap.size ∧ w.heap.size < wr.heap.size := ⟨k2.lt, (k4.lt _ rfl).2⟩
      have HC0 := Lib.hid (show ∀ w9, Below wr.heap.size wr w9 → w9.cell? ⟨gg, 0, none⟩ = some (.int .i64 W) ∧ w9.cell? ⟨gg, 1, none⟩ = some (.slice (some ⟨w.heap.size, 0, none⟩) N N) from fun w9 b => ⟨(b.cell (p := ⟨gg, 0, none⟩) hlg.1).trans (k2.cell 0 _ rfl), (b.cell (p := ⟨gg, 1, none⟩) hlg.1).trans (k2.cell 1 _ rfl)⟩)
      have hln := HLA.out k hlt
      have HLN := Lib.hid hln
      clear k1 k2 k3 k4 hRl hRm hbw hln
      obtain ⟨gr', hgr'⟩ : ∃ x, x = w.heap.size := ⟨_, rfl⟩
      rw [← hgr'] at hlg HC0 HI ⊢
      have HGX := Lib.hid hgr'
      clear hgr'
      go_wp2
      obtain ⟨Erg, hErg⟩ : ∃ EE : Nat → Value → World → Prop, EE = fun jj xx ww => match jj with
          | 0 => xx = .pointer (some ⟨gg, 0, none⟩)
          | 1 => xx = .pointer (some ⟨gg, 0, none⟩)
          | 2 => xx = .pointer (some ⟨gg, 1, none⟩)
          | 3 => xx = .slice (some ⟨gr', 0, none⟩) N N
          | 4 => xx = .int .i64 k
          | 5 => xx = .pointer (some ⟨gg, 0, none⟩)
          | 6 => xx = .pointer (some ⟨gg, 0, none⟩)
          | 7 => xx = .pointer (some ⟨gg, 0, none⟩)
          | 8 => xx = .int .i64 W
          | 9 => (fun x w' => ∃ g9 gc9, x = .pointer (some ⟨g9, 0, none⟩) ∧ RowAt (fun b => wr.heap.size ≤ b) w' wr.heap.size g9 gc9 (List.replicate W zc) false) xx ww
          | 10 => xx = .pointer (some ⟨gr', k, none⟩)
          | 11 => xx = undef
          | _ => True := ⟨_, rfl⟩
      have erg0 : ∀ xx ww, Erg 0 xx ww = (xx = .pointer (some ⟨gg, 0, none⟩)) := fun xx ww => congrFun (congrFun (congrFun hErg 0) xx) ww
      have erg1 : ∀ xx ww, Erg 1 xx ww = (xx = .pointer (some ⟨gg, 0, none⟩)) := fun xx ww => congrFun (congrFun (congrFun hErg 1) xx) ww
      have erg2 : ∀ xx ww, Erg 2 xx ww = (xx = .pointer (some ⟨gg, 1, none⟩)) := fun xx ww => congrFun (congrFun (congrFun hErg 2) xx) ww
      have erg3 : ∀ xx ww, Erg 3 xx ww = (xx = .slice (some ⟨gr', 0, none⟩) N N) := fun xx ww => congrFun (congrFun (congrFun hErg 3) xx) ww
      have erg4 : ∀ xx ww, Erg 4 xx ww = (xx = .int .i64 k) := fun xx ww => congrFun (congrFun (congrFun hErg 4) xx) ww
      have erg5 : ∀ xx ww, Erg 5 xx ww = (xx = .pointer (some ⟨gg, 0, none⟩)) := fun xx ww => congrFun (congrFun (congrFun hErg 5) xx) ww
      have erg6 : ∀ xx ww, Erg 6 xx ww = (xx = .pointer (some ⟨gg, 0, none⟩)) := fun xx ww => congrFun (congrFun (congrFun hErg 6) xx) ww
      have erg7 : ∀ xx ww, Erg 7 xx ww = (xx = .pointer (some ⟨gg, 0, none⟩)) := fun xx ww => congrFun (congrFun (congrFun hErg 7) xx) ww
      have erg8 : ∀ xx ww, Erg 8 xx ww = (xx = .int .i64 W) := fun xx ww => congrFun (congrFun (congrFun hErg 8) xx) ww
      have erg9 : ∀ xx ww, Erg 9 xx ww = ((fun x w' => ∃ g9 gc9, x = .pointer (some ⟨g9, 0, none⟩) ∧ RowAt (fun b => wr.heap.size ≤ b) w' wr.heap.size g9 gc9 (List.replicate W zc) false) xx ww) := fun xx ww => congrFun (congrFun (congrFun hErg 9) xx) ww
      have erg10 : ∀ xx ww, Erg 10 xx ww = (xx = .pointer (some ⟨gr', k, none⟩)) := fun xx ww => congrFun (congrFun (congrFun hErg 10) xx) ww
      have erg11 : ∀ xx ww, Erg 11 xx ww = (xx = undef) := fun xx ww => congrFun (congrFun (congrFun hErg 11) xx) ww
      obtain ⟨Crg, hCrg⟩ : ∃ CC : Array Bool → World → Prop, CC = fun L8 w' => (Mix.one L8 11 = 0 → Below wr.heap.size wr w') ∧ (Mix.one L8 11 ≠ 0 → NewInv w gr' gg gr' W N Ls (k + 1) w') := ⟨_, rfl⟩
      have krg : ∀ i L w, i ≠ 11 →  Crg L w → Crg (L.setIfInBounds i true) w := by
        intro i L w q11 h
        rw [hCrg] at h ⊢
        simp only [Mix.one_ne q11]; exact h
      obtain ⟨Xrg, hXrg⟩ : ∃ XX : World → World → Prop, XX = fun x y => Upd (fun b => b = gr') x y := ⟨_, rfl⟩
      have xrg : ∀ w, Xrg w w := fun w => by rw [hXrg]; exact Upd.refl _ _
      have strg : ∀ j x w w1, Xrg w w1 → Erg j x w → Erg j x w1 := by
        intro j x w w1 hx h
        rw [hXrg] at hx
        match j with
        | 0 => rw [erg0] at h ⊢; exact h
        | 1 => rw [erg1] at h ⊢; exact h
        | 2 => rw [erg2] at h ⊢; exact h
        | 3 => rw [erg3] at h ⊢; exact h
        | 4 => rw [erg4] at h ⊢; exact h
        | 5 => rw [erg5] at h ⊢; exact h
        | 6 => rw [erg6] at h ⊢; exact h
        | 7 => rw [erg7] at h ⊢; exact h
        | 8 => rw [erg8] at h ⊢; exact h
        | 9 => rw [erg9] at h ⊢; ((obtain ⟨g9, gc9, e9, h9⟩ := h; have := h9.lt; exact ⟨g9, gc9, e9, h9.upd hx (fun b hb e => by omega) (fun e => by omega) (fun e => by omega)⟩))
        | 10 => rw [erg10] at h ⊢; exact h
        | 11 => rw [erg11] at h ⊢; exact h
        | j + 12 => rw [hErg]; trivial
      have crg : Crg (Array.replicate 12 false) wr.drew := by rw [hCrg]; exact ⟨fun _ => (Below.refl _ _).drew, fun e => absurd (Mix.one_none _ _) e⟩
      have brg : ∀ L w w1, Crg L w → Below w.heap.size w w1 → Crg L w1 := by
        intro L w w1 h hb
        rw [hCrg] at h ⊢
        exact ⟨fun e => (h.1 e).trans (hb.mono (h.1 e).size), fun e => by obtain ⟨R9, q1, q2, q3, q4⟩ := h.2 e; exact ⟨R9, q1, q2.below hb, q3, q4.trans (hb.mono (by have := q2.lt; omega))⟩⟩
      have xbrg : ∀ w w1, Below w.heap.size w w1 → Xrg w w1 := by
        intro w w1 hb
        rw [hXrg]
        exact .ofBelow hb
      have Hrgb := Lib.hid brg
      have Hrgxb := Lib.hid xbrg
      clear brg xbrg
      clear hErg
      have Hrgk := Lib.hid krg
      have Hrgx := Lib.hid xrg
      have Hrgst := Lib.hid strg
      have Hrgc := Lib.hid crg
      have HrghC := Lib.hid hCrg
      have HrghX := Lib.hid hXrg
      have Hrge0 := Lib.hid erg0
      have Hrge1 := Lib.hid erg1
      have Hrge2 := Lib.hid erg2
      have Hrge3 := Lib.hid erg3
      have Hrge4 := Lib.hid erg4
      have Hrge5 := Lib.hid erg5
      have Hrge6 := Lib.hid erg6
      have Hrge7 := Lib.hid erg7
      have Hrge8 := Lib.hid erg8
      have Hrge9 := Lib.hid erg9
      have Hrge10 := Lib.hid erg10
      have Hrge11 := Lib.hid erg11
      clear krg xrg strg crg hCrg hXrg erg0 erg1 erg2 erg3 erg4 erg5 erg6 erg7 erg8 erg9 erg10 erg11
      go_wp2_with fail
      refine Reg.regionF Erg Crg Xrg Hrgst.out (by kernel_rfl) (by kernel_rfl) (by kernel_rfl) Hrgc.out (fun Frg hFrg => ?_)
      simp only [Reg.frame, Reg.dsts, List.map_cons, List.map_nil, Mix.put_lit, Reg.put_none, List.set_cons_succ, List.set_cons_zero, Nat.zero_add, Nat.reduceAdd] at hFrg
      refine ⟨?_, ?_⟩
      · refine ⟨?_, ?_, ?_, ?_, ?_, ?_, ?_, ?_, ?_, ?_, ?_, ?_, trivial⟩
        · intro Lq wq xq hh
          simp only [hFrg]
          refine .inl ⟨rfl, ?_⟩
          unfold Reg.upon
          have hk := Hrgk.out 0 Lq wq (by decide)  hh.cls
          have hx := Hrgx.out wq
          have he : Erg 0 (.pointer (some ⟨gg, 0, none⟩)) wq := by rw [Hrge0.out]
          have HK := Lib.hid (And.intro hk (And.intro he hx))
          clear hk hx he
          go_simp
          exact HK.out
        · intro Lq wq xq hh
          have d0 : Erg 0 (xq 0) wq := hh.val 0 (by kernel_rfl) (by kernel_rfl)
          rw [Hrge0.out] at d0
          simp only [hFrg, d0]
          clear d0
          refine .inl ⟨rfl, ?_⟩
          unfold Reg.upon
          have hk := Hrgk.out 1 Lq wq (by decide)  hh.cls
          have hx := Hrgx.out wq
          have he : Erg 1 (.pointer (some ⟨gg, 0, none⟩)) wq := by rw [Hrge1.out]
          have HK := Lib.hid (And.intro hk (And.intro he hx))
          clear hk hx he
          go_simp
          exact HK.out
        · intro Lq wq xq hh
          have d1 : Erg 1 (xq 1) wq := hh.val 1 (by kernel_rfl) (by kernel_rfl)
          rw [Hrge1.out] at d1
          simp only [hFrg, d1]
          clear d1
          refine .inl ⟨rfl, ?_⟩
          unfold Reg.upon
          have hk := Hrgk.out 2 Lq wq (by decide)  hh.cls
          have hx := Hrgx.out wq
          have he : Erg 2 (.pointer (some ⟨gg, 1, none⟩)) wq := by rw [Hrge2.out]
          have HK := Lib.hid (And.intro hk (And.intro he hx))
          clear hk hx he
          go_simp
          exact HK.out
        · intro Lq wq xq hh
          have d2 : Erg 2 (xq 2) wq := hh.val 2 (by kernel_rfl) (by kernel_rfl)
          rw [Hrge2.out] at d2
          simp only [hFrg, d2]
          clear d2
          refine .inl ⟨rfl, ?_⟩
          unfold Reg.upon
          have hc : Crg Lq wq := hh.cls
          rw [HrghC.out] at hc
          have q3 := (HC0.out wq (hc.1 (Mix.one_un (hh.notYet 11 (by kernel_rfl))))).2
          clear hc
          have hk := Hrgk.out 3 Lq wq (by decide)  hh.cls
          have hx := Hrgx.out wq
          have he : Erg 3 (.slice (some ⟨gr', 0, none⟩) N N) wq := by rw [Hrge3.out]
          have HK := Lib.hid (And.intro hk (And.intro he hx))
          clear hk hx he
          go_simp
          exact HK.out
        · intro Lq wq xq hh
          simp only [hFrg]
          refine .inl ⟨rfl, ?_⟩
          unfold Reg.upon
          have hk := Hrgk.out 4 Lq wq (by decide)  hh.cls
          have hx := Hrgx.out wq
          have he : Erg 4 (.int .i64 k) wq := by rw [Hrge4.out]
          have HK := Lib.hid (And.intro hk (And.intro he hx))
          clear hk hx he
          go_simp
          exact HK.out
        · intro Lq wq xq hh
          simp only [hFrg]
          refine .inl ⟨rfl, ?_⟩
          unfold Reg.upon
          have hk := Hrgk.out 5 Lq wq (by decide)  hh.cls
          have hx := Hrgx.out wq
          have he : Erg 5 (.pointer (some ⟨gg, 0, none⟩)) wq := by rw [Hrge5.out]
          have HK := Lib.hid (And.intro hk (And.intro he hx))
          clear hk hx he
          go_simp
          exact HK.out
        · intro Lq wq xq hh
          have d5 : Erg 5 (xq 5) wq := hh.val 5 (by kernel_rfl) (by kernel_rfl)
          rw [Hrge5.out] at d5
          simp only [hFrg, d5]
          clear d5
          refine .inl ⟨rfl, ?_⟩
          unfold Reg.upon
          have hk := Hrgk.out 6 Lq wq (by decide)  hh.cls
          have hx := Hrgx.out wq
          have he : Erg 6 (.pointer (some ⟨gg, 0, none⟩)) wq := by rw [Hrge6.out]
          have HK := Lib.hid (And.intro hk (And.intro he hx))
          clear hk hx he
          go_simp
          exact HK.out
        · intro Lq wq xq hh
          have d6 : Erg 6 (xq 6) wq := hh.val 6 (by kernel_rfl) (by kernel_rfl)
          rw [Hrge6.out] at d6
          simp only [hFrg, d6]
          clear d6
          refine .inl ⟨rfl, ?_⟩
          unfold Reg.upon
          have hk := Hrgk.out 7 Lq wq (by decide)  hh.cls
          have hx := Hrgx.out wq
          have he : Erg 7 (.pointer (some ⟨gg, 0, none⟩)) wq := by rw [Hrge7.out]
          have HK := Lib.hid (And.intro hk (And.intro he hx))
          clear hk hx he
          go_simp
          exact HK.out
        · intro Lq wq xq hh
          have d7 : Erg 7 (xq 7) wq := hh.val 7 (by kernel_rfl) (by kernel_rfl)
          rw [Hrge7.out] at d7
          simp only [hFrg, d7]
          clear d7
          refine .inl ⟨rfl, ?_⟩
          unfold Reg.upon
          have hc : Crg Lq wq := hh.cls
          rw [HrghC.out] at hc
          have q8 := (HC0.out wq (hc.1 (Mix.one_un (hh.notYet 11 (by kernel_rfl))))).1
          clear hc
          have hk := Hrgk.out 8 Lq wq (by decide)  hh.cls
          have hx := Hrgx.out wq
          have he : Erg 8 (.int .i64 W) wq := by rw [Hrge8.out]
          have HK := Lib.hid (And.intro hk (And.intro he hx))
          clear hk hx he
          go_simp
          exact HK.out
        · intro Lq wq xq hh
          have d8 : Erg 8 (xq 8) wq := hh.val 8 (by kernel_rfl) (by kernel_rfl)
          rw [Hrge8.out] at d8
          simp only [hFrg, d8]
          clear d8
          refine .inl ⟨rfl, ?_⟩
          unfold Reg.upon
          have hc : Crg Lq wq := hh.cls
          rw [HrghC.out] at hc
          have hc9 := hc.1 (Mix.one_un (hh.notYet 11 (by kernel_rfl)))
          go_simp
          refine (rnew_any (fun b => wr.heap.size ≤ b) (W : Int) wq).mono ?_
          rintro e w2 ⟨g9, gc9, rfl, h9, hb⟩
          rw [HWW.out] at h9
          refine ⟨_, rfl, Hrgk.out 9 Lq w2 (by decide) (Hrgb.out Lq wq w2 hh.cls hb), ?_, Hrgxb.out wq w2 hb⟩
          rw [Hrge9.out]
          exact ⟨g9, gc9, rfl, h9.base hc9.size⟩
        · intro Lq wq xq hh
          have d3 : Erg 3 (xq 3) wq := hh.val 3 (by kernel_rfl) (by kernel_rfl)
          rw [Hrge3.out] at d3
          have d4 : Erg 4 (xq 4) wq := hh.val 4 (by kernel_rfl) (by kernel_rfl)
          rw [Hrge4.out] at d4
          simp only [hFrg, d3, d4]
          clear d3 d4
          refine .inl ⟨rfl, ?_⟩
          unfold Reg.upon
          have hk := Hrgk.out 10 Lq wq (by decide)  hh.cls
          have hx := Hrgx.out wq
          have he : Erg 10 (.pointer (some ⟨gr', k, none⟩)) wq := by rw [Hrge10.out]
          have HK := Lib.hid (And.intro hk (And.intro he hx))
          clear hk hx he
          go_simp
          exact HK.out
        · intro Lq wq xq hh
          have d9 : Erg 9 (xq 9) wq := hh.val 9 (by kernel_rfl) (by kernel_rfl)
          rw [Hrge9.out] at d9
          have d10 : Erg 10 (xq 10) wq := hh.val 10 (by kernel_rfl) (by kernel_rfl)
          rw [Hrge10.out] at d10
          simp only [hFrg, d10]
          clear d10
          refine .inl ⟨rfl, ?_⟩
          unfold Reg.upon
          obtain ⟨g9, gc9, e9, h9⟩ := d9
          have hc11 : Crg Lq wq := hh.cls
          rw [HrghC.out] at hc11
          obtain ⟨hst, hus, ⟨q, hq⟩, hfz⟩ := NewInv.step HI.out hlt HLL.out (by simp) HLN.out h9 (hc11.1 hh.un)
          rw [exec_store_ptr (b := gr') (off := k) rfl rfl (some g9) e9 q hq hfz (by kernel_rfl)]
          refine ⟨?_, (by rw [Hrge11.out]), (by rw [HrghX.out]; exact hus)⟩
          rw [HrghC.out]
          exact ⟨fun e => (by rw [Mix.one_set (by rw [hh.size]; decide)] at e; cases e), fun _ => hst⟩
      intro xq wrg hcrg hvrg
      rw [HrghC.out] at hcrg
      simp only [hFrg]
      clear hvrg hFrg Hrgk Hrgx Hrgst Hrgc HrghC HrghX Hrgb Hrgxb Hrge0 Hrge1 Hrge2 Hrge3 Hrge4 Hrge5 Hrge6 Hrge7 Hrge8 Hrge9 Hrge10 Hrge11
      have HMN := Lib.hid (hcrg.2 (by rw [Mix.one_all (by decide)]; decide))
      clear hcrg
      go_wp2
      go_roundw
      case rel => exact ⟨k + 1, by omega, by go_num, HMN.out⟩
      case measure => simp [intOf] <;> omega
    · obtain rfl : k = N := by omega
      rw [Nat.sub_self, List.replicate_zero, List.append_nil] at hp
      obtain ⟨gr2, hg2⟩ := hp.full (by omega) (by omega)
      rw [List.take_of_length_le (by rw [HLL.out]; exact Nat.le_refl _)] at hRm
      have HF := Lib.hid (And.intro hg2 (And.intro hRm hbw))
      clear hp hg2 hRm hbw hRl
      go_wp2
      go_ret
      exact ⟨gg, gr2, Rs, rfl, HF.out.1, HF.out.2.1, HF.out.2.2⟩
end Go.Proofs.YtoeggiplcaegoaaGreatDoor
/- Grids: Copy, Set; nil grids. -/
namespace Go.Proofs.YtoeggiplcaegoaaGreatDoor
open Go.RowKit Go.ChangeShapes Go.WideShapes
end Go.Proofs.YtoeggiplcaegoaaGreatDoor
/- How wide a cluster is: measure.first, measure.width; the reference's First, Wide (21). -/
namespace Go.Proofs.YtoeggiplcaegoaaGreatDoor
open Go.RowKit Go.ChangeShapes Go.WideShapes
end Go.Proofs.YtoeggiplcaegoaaGreatDoor
/- Row.Paint in one word; the reference's Wrong. -/
namespace Go.Proofs.YtoeggiplcaegoaaGreatDoor
open Go.RowKit Go.ChangeShapes Go.WideShapes
def wrongI (n at_ : Int) (p : List Cl) : Int := if at_ < 0 ∨ n < at_ ∨ n - at_ < p.length then 3 else if soundB p = true then 0 else 5
theorem rpaint_good (Z Y : Zone) (B g gc : Nat) (L p : List Cl) (wrap : Bool) (v : Value) (w : World) (h : RowAt Z w B g gc L wrap) (hv : HeldE cellE Y w v p) (hY : ∀ b, Y b → b ≠ g ∧ b ≠ gc) (hZ : ∀ b, w.heap.size ≤ b → Z b) (a : Nat) (hle : a + p.length ≤ L.length) (hp : soundB p = true) :
    Calls Tryz.prog 188 #[.pointer (some ⟨g, 0, none⟩), .int .i64 a, v] w (PaintOk Z B g gc w (paintL L p a) (wrap && !lastHit L p a)) := by
  cases p with
  | nil =>
    rw [paint_none, lastHit_none, Bool.not_false, Bool.and_true]
    exact rpaint_none Z Y B g gc L wrap v w h hv a (by simpa using hle)
  | cons c p => exact rpaint_ok Z Y B g gc L (c :: p) wrap v w h hv hY hZ a hle hp (by simp)
theorem wrong_good {n : Nat} {at_ : Int} {p : List Cl} (h : wrongI n at_ p = 0) : ∃ a : Nat, at_ = a ∧ a + p.length ≤ n ∧ soundB p = true := by
  unfold wrongI at h
  split at h
  · cases h
  · rename_i h1
    split at h
    · rename_i h2
      obtain ⟨a, rfl⟩ := Int.eq_ofNat_of_zero_le (show 0 ≤ at_ by omega)
      exact ⟨a, rfl, by omega, h2⟩
    · cases h
end Go.Proofs.YtoeggiplcaegoaaGreatDoor
/- mark: Put, At, Add, Widen. -/
namespace Go.Proofs.YtoeggiplcaegoaaGreatDoor
open Go.RowKit Go.ChangeShapes Go.WideShapes
set_option maxRecDepth 100000 in
theorem mput_z (Z Y : Zone) (B g gc : Nat) (L : List Cl) (wrap : Bool) (col wide : Int) (v : Value) (xs : List Int) (w : World) (hZ : ∀ b, w.heap.size ≤ b → Z b) (h : RowAt Z w B g gc L wrap) (hv : HeldE (intE .i32) Y w v xs) (hg : wrongI L.length col (ofC wide xs) = 0) :
    Calls Tryz.prog 115 #[.pointer (some ⟨g, 0, none⟩), .int .i64 col, .int .i64 wide, v] w (PaintOk Z B g gc w (paintL L (ofC wide xs) col.toNat) (wrap && !lastHit L (ofC wide xs) col.toNat)) := by
  obtain ⟨a, rfl, hla, hsp⟩ := wrong_good hg
  rw [Int.toNat_natCast]
  have hlt := h.lt
  have HGL := Lib.hid hlt
  have HR := Lib.hid h
  have HO := Lib.hid (cof_new (fun b => b ≠ g ∧ b ≠ gc) Y wide v xs w (fun b hb => by omega) hv)
  have HLA := Lib.hid hla
  have HZ := Lib.hid hZ
  have HSP := Lib.hid hsp
  have hvm := hv.max
  obtain ⟨ao, ca, rfl⟩ := hv.len
  clear h hg hlt hla hsp hv hZ
  go_enter Tryz.func115, Tryz.ntmps115
  go_wp2_with fail
  refine HO.out.mono ?_
  rintro e w1 ⟨v1, rfl, ho1, b1⟩
  have HH := Lib.hid (ho1.held (fun b hb _ => by have := HGL.out; exact ⟨by omega, by omega⟩))
  have HU := Lib.hid (Upd.ofBelow (S := fun b => b = g ∨ b = gc) b1)
  have HR1 := Lib.hid (HR.out.below b1)
  have HBS := Lib.hid b1.size
  clear ho1 b1
  go_wp2_with fail
  refine (rpaint_good _ _ _ g gc L _ wrap _ w1 HR1.out HH.out (fun _ h => h) (fun b hb => HZ.out b (Nat.le_trans HBS.out hb)) a HLA.out HSP.out).mono ?_
  rintro e w2 ⟨rfl, hr2, u2⟩
  have HE := Lib.hid (And.intro hr2 (HU.out.trans u2))
  clear hr2 u2
  go_wp2
  go_ret
  exact ⟨rfl, HE.out.1, HE.out.2⟩
end Go.Proofs.YtoeggiplcaegoaaGreatDoor
/- mark: At where there is no cluster; Add, Widen. -/
namespace Go.Proofs.YtoeggiplcaegoaaGreatDoor
open Go.RowKit Go.ChangeShapes Go.WideShapes
end Go.Proofs.YtoeggiplcaegoaaGreatDoor
/- mark: Add, Widen. -/
namespace Go.Proofs.YtoeggiplcaegoaaGreatDoor
open Go.RowKit Go.ChangeShapes Go.WideShapes
theorem wrong_none {n : Nat} {a : Nat} {p : List Cl} (h : a + p.length ≤ n) (hs : soundB p = true) : wrongI n (a : Int) p = 0 := by
  unfold wrongI
  rw [if_neg (by omega), if_pos hs]
def Turned3Z (Z : Zone) (w : World) (B g gc : Nat) (r : List Cl × Bool × Bool) (e : Ending) (w' : World) : Prop := e = .returned (.bool r.2.2) ∧ RowAt Z w' B g gc r.1 r.2.1 ∧ Upd (fun b => b = g ∨ b = gc) w w'
def Turned3 (w : World) (B g gc : Nat) (r : List Cl × Bool × Bool) (e : Ending) (w' : World) : Prop := e = .returned (.bool r.2.2) ∧ RowAt (fun _ => True) w' B g gc r.1 r.2.1 ∧ Upd (fun b => b = g ∨ b = gc) w w'
theorem Turned3Z.same {Z : Zone} {w w' : World} {B g gc : Nat} {L : List Cl} {wrap : Bool} (h : RowAt Z w B g gc L wrap) (b : Below w.heap.size w w') : Turned3Z Z w B g gc (L, wrap, false) (.returned (.bool false)) w' := ⟨rfl, h.below b, .ofBelow b⟩
theorem Turned3.same {w w' : World} {B g gc : Nat} {L : List Cl} {wrap : Bool} (h : RowAt (fun _ => True) w B g gc L wrap) (b : Below w.heap.size w w') : Turned3 w B g gc (L, wrap, false) (.returned (.bool false)) w' := ⟨rfl, h.below b, .ofBelow b⟩
end Go.Proofs.YtoeggiplcaegoaaGreatDoor
/- mark: Add. -/
namespace Go.Proofs.YtoeggiplcaegoaaGreatDoor
open Go.RowKit Go.ChangeShapes Go.WideShapes
theorem RowAt.any {Z : Zone} {w : World} {B g gc : Nat} {L : List Cl} {wrap : Bool} (h : RowAt Z w B g gc L wrap) : RowAt (fun _ => True) w B g gc L wrap := h.keep (.refl _ _) fun b hb _ => trivial
end Go.Proofs.YtoeggiplcaegoaaGreatDoor
