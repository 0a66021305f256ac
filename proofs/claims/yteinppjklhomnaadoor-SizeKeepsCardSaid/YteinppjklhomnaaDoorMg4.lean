/- Texts put together: GrdA, RowX, MarkC, MarkD, MarkE, MarkF. -/
import Derived.Test.YteinppjklhomnaaDoorMg3
import Derived.Test.YteinppjklhomnaaDoorMg1
import Derived.Test.YteinppjklhomnaaDoorCellU
import Derived.Test.YteinppjklhomnaaDoorRowQ
import Derived.Lib.MinMax
import Derived.Deep.Cut
import Derived.Test.YteinppjklhomnaaDoorRowR
import Derived.Test.YteinppjklhomnaaDoorCellP
/- Grids: what one is in memory; lines; Wide, High, Row. -/
namespace Go.Proofs.YteinppjklhomnaaDoor
open Go.RowKit Go.ChangeShapes Go.WideShapes
/-- A line: its cells, whether it goes on. -/
abbrev Ln := List Cl × Bool
abbrev zl : Ln := ([], false)
def lineE : Elem Ln := prE cellsE boolE
theorem lineE_size : lineE.size = 2 := rfl
theorem line_rep {Z : Zone} {w : World} {C : List Value} {x : Ln} : lineE.rep Z w C x ↔ ∃ v, C = [v, .bool x.2] ∧ HeldE cellE Z w v x.1 := by
  constructor
  · rintro ⟨C1, C2, rfl, ⟨v, rfl, h⟩, rfl⟩
    exact ⟨v, rfl, h⟩
  · rintro ⟨v, rfl, h⟩
    exact ⟨[v], [_], rfl, ⟨v, rfl, h⟩, rfl⟩
theorem lines_at {Z : Zone} {w : World} {ao : Option Addr} {n cap : Nat} {L : List Ln} (h : HeldE lineE Z w (.slice ao n cap) L) : n = L.length ∧ n ≤ cap ∧ ∀ i, i < L.length → ∃ b off v, ao = some ⟨b, off, none⟩ ∧ b < w.heap.size ∧ Z b ∧
    w.cell? ⟨b, off + i * 2, none⟩ = some v ∧ w.cell? ⟨b, off + i * 2 + 1, none⟩ = some (.bool (L.getD i zl).2) ∧ HeldE cellE Z w v (L.getD i zl).1 := by
  obtain ⟨h1, h2, h3⟩ := h.spots
  refine ⟨h1, h2, fun i hi => ?_⟩
  obtain ⟨b, off, rfl, hb, hz, C, hC, hr⟩ := h3 i hi
  obtain ⟨v, rfl, ht⟩ := line_rep.1 hr
  exact ⟨b, off, v, rfl, hb, hz, hC 0 (by decide), hC 1 (by decide), ht⟩
theorem info_line : (Tryd.prog.info? 59).map (fun i => (i.zero, i.size, i.bytes)) = some (some (.agg #[.slice none 0 0, .bool false]), lineE.size, 32) := by kernel_rfl
/-- Pointers to rows. -/
def ptrV (x : Option Nat) : Value := .pointer (x.map fun g => ⟨g, 0, none⟩)
def ptrE : Elem (Option Nat) where
  size := 1
  zero := none
  rep := fun _ _ C x => C = [ptrV x]
  len := by rintro _ _ _ _ rfl; rfl
  one := by
    rintro _ _ _ _ rfl u hu
    simp at hu
    subst hu; rfl
  keep := fun _ _ h => h
theorem info_rowp : (Tryd.prog.info? 86).map (fun i => (i.zero, i.size, i.bytes)) = some (some (.pointer none), ptrE.size, 8) := by kernel_rfl
theorem ptr_flat : ∀ xs : List (Option Nat), (xs.map fun x => [ptrV x]).flatten = xs.map ptrV
  | [] => rfl
  | x :: xs => by rw [List.map_cons, List.flatten_cons, ptr_flat xs]; rfl
theorem own_ptrs {Z : Zone} {w : World} {B n : Nat} {ty : TypeId} {v : Value} {xs : List (Option Nat)} (h : w.ownsRow B ty 1 v n (xs.map ptrV)) : OwnE ptrE Z w B ty v xs := by
  have hn : xs.length = n := by have := h.1; simpa using this
  subst hn
  refine ⟨xs.map fun x => [ptrV x], ?_, by simp, fun i hi => ?_⟩
  · rw [ptr_flat]
    exact h
  · show _ = _
    simp [List.getD, List.getElem?_eq_getElem hi]
theorem OwnE.ptrs {Z : Zone} {w : World} {B : Nat} {ty : TypeId} {v : Value} {xs : List (Option Nat)} (h : OwnE ptrE Z w B ty v xs) : w.ownsRow B ty 1 v xs.length (xs.map ptrV) := by
  obtain ⟨CS, h1, h2, h3⟩ := h
  have e : CS.flatten = xs.map ptrV := by
    apply List.ext_getElem?
    intro i
    have hls : ∀ C ∈ CS, C.length = 1 := own_lens h2 h3
    by_cases hi : i < xs.length
    · have := flat_at hls i 0 (by omega) (by omega)
      rw [Nat.mul_one, Nat.add_zero] at this
      rw [this, show CS.getD i [] = [ptrV (xs.getD i none)] from h3 i hi]
      simp [List.getD, List.getElem?_eq_getElem hi]
    · rw [List.getElem?_eq_none (by rw [flat_len hls]; omega), List.getElem?_eq_none (by simp; omega)]
  rw [← e]
  exact h1
theorem OwnE.zoneP {Z Y : Zone} {w : World} {B : Nat} {ty : TypeId} {v : Value} {xs : List (Option Nat)} (h : OwnE ptrE Z w B ty v xs) : OwnE ptrE Y w B ty v xs := own_ptrs h.ptrs
theorem own_num {Z : Zone} {w : World} {B g n cap : Nat} {ty : TypeId} {xs : List (Option Nat)} (h : OwnE ptrE Z w B ty (.slice (some ⟨g, 0, none⟩) n cap) xs) : n = xs.length := by
  rcases h.ptrs.2 with ⟨e, _⟩ | ⟨g', cap', cur, e, _⟩
  · cases e
  · simp only [Value.slice.injEq] at e
    exact e.2.1
/-- The pointer at a place of a row of pointers; a pointer put there. -/
theorem ptr_cell {Z : Zone} {w : World} {B g n cap : Nat} {ty : TypeId} {xs : List (Option Nat)} (h : OwnE ptrE Z w B ty (.slice (some ⟨g, 0, none⟩) n cap) xs) (i : Nat) (hi : i < xs.length) : w.cell? ⟨g, i, none⟩ = some (ptrV (xs.getD i none)) ∧ w.frozen? ⟨g, i, none⟩ = false := by
  have hr := h.ptrs
  obtain rfl := own_num h
  refine ⟨?_, hr.frozenAt i⟩
  rw [hr.cellAt i (by omega)]
  simp [List.getD, List.getElem?_eq_getElem hi]
theorem ptr_put {Z : Zone} {w : World} {B g n cap : Nat} {ty : TypeId} {xs : List (Option Nat)} (h : OwnE ptrE Z w B ty (.slice (some ⟨g, 0, none⟩) n cap) xs) (i : Nat) (_ : i < xs.length) (x : Option Nat) : OwnE ptrE Z (w.setCell ⟨g, i, none⟩ (ptrV x)) B ty (.slice (some ⟨g, 0, none⟩) n cap) (xs.set i x) := by
  have hr := h.ptrs
  obtain rfl := own_num h
  have hst := (hr.stored i (ptrV x)).1
  rw [← List.map_set] at hst
  exact own_ptrs hst
/-- A row of a grid: where it lies, its cells, whether it goes on. -/
structure Rw where
  g : Nat
  gc : Nat
  L : List Cl
  wrap : Bool
def r0 : Rw := ⟨0, 0, [], false⟩
def lineOf (r : Rw) : Ln := (r.L, r.wrap)
def ptrs (Rs : List Rw) : List (Option Nat) := Rs.map fun r => some r.g
theorem ptrs_len (Rs : List Rw) : (ptrs Rs).length = Rs.length := by simp [ptrs]
theorem ptrs_at (Rs : List Rw) (i : Nat) (h : i < Rs.length) : (ptrs Rs).getD i none = some (Rs.getD i r0).g := by simp [ptrs, List.getD, List.getElem?_eq_getElem h]
theorem RowAt.tight {Z : Zone} {w : World} {B g gc : Nat} {L : List Cl} {wrap : Bool} (h : RowAt Z w B g gc L wrap) : RowAt (fun b => Z b ∧ b < w.heap.size ∧ b ≠ g ∧ b ≠ gc) w B g gc L wrap := by
  obtain ⟨cap, h1, h2, h3, ⟨CS, k1, k2, k3⟩, h5⟩ := h
  exact ⟨cap, h1, h2, h3, ⟨CS, k1, k2, fun i hi => cellE.keep (.refl _ _) (fun b hb hz => ⟨⟨⟨hz.1.1, hb, hz.1.2, fun e => hz.2 (by subst e; rfl)⟩, hz.1.2⟩, hz.2⟩) (k3 i hi)⟩, h5⟩
theorem RowAt.types {Z : Zone} {w : World} {B g gc : Nat} {L : List Cl} {wrap : Bool} (h : RowAt Z w B g gc L wrap) : (∃ C, w.heap[g]? = some (.cells C 132 (0, 0))) ∧ ∃ C, w.heap[gc]? = some (.cells C 85 (0, 0)) := by
  obtain ⟨cap, h1, h2, h3, ⟨CS, ⟨_, k1⟩, k2, k3⟩, h5, _⟩ := h
  refine ⟨⟨_, h1⟩, ?_⟩
  rcases k1 with ⟨e, _⟩ | ⟨g', cap', cur, e, _, hg, _⟩
  · cases e
  · simp only [Value.slice.injEq, Option.some.injEq, Addr.mk.injEq] at e
    obtain ⟨⟨rfl, _⟩, _⟩ := e
    exact ⟨cur, hg⟩
/-- Rows that lie apart; their texts lie in the zone. -/
structure RowsAt (Z : Zone) (w : World) (B : Nat) (Rs : List Rw) : Prop where
  row : ∀ i, i < Rs.length → RowAt Z w B (Rs.getD i r0).g (Rs.getD i r0).gc (Rs.getD i r0).L (Rs.getD i r0).wrap
  out : ∀ i, i < Rs.length → ¬ Z (Rs.getD i r0).g ∧ ¬ Z (Rs.getD i r0).gc
  apart : ∀ i j, i < Rs.length → j < Rs.length → i ≠ j → (Rs.getD i r0).g ≠ (Rs.getD j r0).g ∧ (Rs.getD i r0).gc ≠ (Rs.getD j r0).gc
section
variable {Z Y S : Zone} {w w' : World} {B : Nat} {Rs : List Rw}
theorem RowsAt.nil (Z : Zone) (w : World) (B : Nat) : RowsAt Z w B [] := ⟨fun i hi => absurd hi (Nat.not_lt_zero _), fun i hi => absurd hi (Nat.not_lt_zero _), fun i j hi => absurd hi (Nat.not_lt_zero _)⟩
theorem RowsAt.cross (h : RowsAt Z w B Rs) (i j : Nat) (hi : i < Rs.length) (hj : j < Rs.length) : (Rs.getD i r0).g ≠ (Rs.getD j r0).gc := by
  intro e
  obtain ⟨⟨C, h1⟩, _⟩ := (h.row i hi).types
  obtain ⟨_, D, h2⟩ := (h.row j hj).types
  rw [e, h2] at h1
  simp only [Option.some.injEq, Obj.cells.injEq] at h1
  exact absurd h1.2.1 (by decide)
theorem RowsAt.upd (h : RowsAt Z w B Rs) (hu : Upd S w w') (hz : ∀ b, Z b → ¬ S b) (hs : ∀ i, i < Rs.length → ¬ S (Rs.getD i r0).g ∧ ¬ S (Rs.getD i r0).gc) : RowsAt Z w' B Rs :=
  ⟨fun i hi => (h.row i hi).upd hu hz (hs i hi).1 (hs i hi).2, h.out, h.apart⟩
theorem RowsAt.below (h : RowsAt Z w B Rs) (hb : Below w.heap.size w w') : RowsAt Z w' B Rs := ⟨fun i hi => (h.row i hi).below hb, h.out, h.apart⟩
theorem RowsAt.lt (h : RowsAt Z w B Rs) : ∀ i, i < Rs.length → (Rs.getD i r0).g < w.heap.size ∧ (Rs.getD i r0).gc < w.heap.size ∧ B ≤ (Rs.getD i r0).gc ∧ B ≤ (Rs.getD i r0).g := fun i hi => (h.row i hi).lt
/-- A row that is new behind them. -/
theorem RowsAt.snoc (h : RowsAt Z w B Rs) (hz : ∀ b, Z b → b < w.heap.size) {g gc B' : Nat} {L : List Cl} {wrap : Bool} (hB : B ≤ B') (hB' : w.heap.size ≤ B') (hr : RowAt (fun b => w.heap.size ≤ b) w' B' g gc L wrap) (hb : Below w.heap.size w w') :
    RowsAt (fun b => Z b ∨ (w.heap.size ≤ b ∧ b < w'.heap.size ∧ b ≠ g ∧ b ≠ gc)) w' B (Rs ++ [⟨g, gc, L, wrap⟩]) := by
  have hlt := hr.lt
  have hat : ∀ i, i < (Rs ++ [(⟨g, gc, L, wrap⟩ : Rw)]).length → (i < Rs.length ∧ (Rs ++ [(⟨g, gc, L, wrap⟩ : Rw)]).getD i r0 = Rs.getD i r0) ∨ (i = Rs.length ∧ (Rs ++ [(⟨g, gc, L, wrap⟩ : Rw)]).getD i r0 = ⟨g, gc, L, wrap⟩) := fun i hi => by
    rw [getD_app]
    rw [List.length_append, List.length_singleton] at hi
    by_cases e : i < Rs.length
    · exact .inl ⟨e, if_pos e⟩
    · have : i = Rs.length := by omega
      subst this
      exact .inr ⟨rfl, by rw [if_neg e, Nat.sub_self]; rfl⟩
  refine ⟨fun i hi => ?_, fun i hi => ?_, fun i j hi hj hij => ?_⟩
  · rcases hat i hi with ⟨hl, e⟩ | ⟨_, e⟩
    · rw [e]
      exact ((h.row i hl).below hb).keep (.refl _ _) fun b _ hz => .inl hz
    · rw [e]
      exact (hr.tight.base hB).keep (.refl _ _) fun b _ hz => .inr hz
  · rcases hat i hi with ⟨hl, e⟩ | ⟨_, e⟩
    · rw [e]
      have := h.lt i hl
      have := h.out i hl
      exact ⟨fun hz => by rcases hz with hz | hz; exact this.1 hz; omega, fun hz => by rcases hz with hz | hz; exact this.2 hz; omega⟩
    · rw [e]
      exact ⟨fun hzz => by rcases hzz with hzz | hzz; have := hz _ hzz; simp only at this; omega; exact hzz.2.2.1 rfl, fun hzz => by rcases hzz with hzz | hzz; have := hz _ hzz; simp only at this; omega; exact hzz.2.2.2 rfl⟩
  · rcases hat i hi with ⟨hl, e⟩ | ⟨hl, e⟩ <;> rcases hat j hj with ⟨hl', e'⟩ | ⟨hl', e'⟩ <;> rw [e, e']
    · exact h.apart i j hl hl' hij
    · have := h.lt i hl
      exact ⟨by simp only; omega, by simp only; omega⟩
    · have := h.lt j hl'
      exact ⟨by simp only; omega, by simp only; omega⟩
    · omega
end
/-- The grid at block gg, its pointers at block gr. -/
def GridAt (w : World) (B gg gr wd : Nat) (Rs : List Rw) : Prop :=
  ∃ (Z : Zone) (cap : Nat), (∀ b, Z b → B ≤ b ∧ b < w.heap.size) ∧ Has w gg [.int .i64 wd, .slice (some ⟨gr, 0, none⟩) Rs.length cap] 102 ∧ B ≤ gg ∧ OwnE ptrE (fun _ => True) w B 86 (.slice (some ⟨gr, 0, none⟩) Rs.length cap) (ptrs Rs) ∧ ¬ Z gg ∧ ¬ Z gr ∧ RowsAt Z w B Rs ∧ (∀ i, i < Rs.length → (Rs.getD i r0).L.length = wd) ∧ 0 < Rs.length ∧ Rs.length ≤ 1024
section
variable {S : Zone} {w w' : World} {B gg gr wd : Nat} {Rs : List Rw}
theorem GridAt.lt (h : GridAt w B gg gr wd Rs) : B ≤ gg ∧ gg < w.heap.size ∧ B ≤ gr ∧ gr < w.heap.size ∧ gg ≠ gr ∧ ∀ i, i < Rs.length → (Rs.getD i r0).g < w.heap.size ∧ (Rs.getD i r0).gc < w.heap.size ∧ B ≤ (Rs.getD i r0).gc ∧ B ≤ (Rs.getD i r0).g := by
  obtain ⟨Z, cap, h1, h2, h3, h4, h5, h6, h7, h8⟩ := h
  refine ⟨h3, h2.lt, (h4.lt gr rfl).1, (h4.lt gr rfl).2, fun e => ?_, h7.lt⟩
  obtain ⟨_, k⟩ := h4.ptrs
  rcases k with ⟨e', _⟩ | ⟨g', cap', cur, e', _, hg, _⟩
  · cases e'
  · simp only [Value.slice.injEq, Option.some.injEq, Addr.mk.injEq] at e'
    obtain ⟨⟨rfl, _⟩, _⟩ := e'
    rw [← e] at hg
    unfold Has at h2
    rw [h2] at hg
    simp only [Option.some.injEq, Obj.cells.injEq] at hg
    exact absurd hg.2.1 (by decide)
theorem GridAt.keep (h : GridAt w B gg gr wd Rs) (hu : Upd S w w') (hs : ∀ b, B ≤ b → b < w.heap.size → ¬ S b) : GridAt w' B gg gr wd Rs := by
  have hlt := h.lt
  obtain ⟨Z, cap, h1, h2, h3, h4, h5, h6, h7, h8⟩ := h
  have hk := hu.keep
  refine ⟨Z, cap, fun b hb => ⟨(h1 b hb).1, Nat.lt_of_lt_of_le (h1 b hb).2 hu.size⟩, hk.has h2 (hs _ hlt.1 hlt.2.1), h3, ?_, h5, h6, h7.upd hu (fun b hz => hs b (h1 b hz).1 (h1 b hz).2) (fun i hi => ⟨hs _ (hlt.2.2.2.2.2 i hi).2.2.2 (hlt.2.2.2.2.2 i hi).1, hs _ (hlt.2.2.2.2.2 i hi).2.2.1 (hlt.2.2.2.2.2 i hi).2.1⟩), h8⟩
  exact own_ptrs (hk.own h4.ptrs fun b hb => by
    have : gr = b := by simpa [Value.ownBlock] using hb
    subst this
    exact hs _ hlt.2.2.1 hlt.2.2.2.1)
theorem GridAt.below (h : GridAt w B gg gr wd Rs) (hb : Below w.heap.size w w') : GridAt w' B gg gr wd Rs := h.keep (S := fun b => w.heap.size ≤ b) (.ofBelow hb) fun b _ h1 h2 => by omega
theorem GridAt.row (h : GridAt w B gg gr wd Rs) {i : Nat} (hi : i < Rs.length) : RowAt (fun _ => True) w B (Rs.getD i r0).g (Rs.getD i r0).gc (Rs.getD i r0).L (Rs.getD i r0).wrap := by
  obtain ⟨Z, cap, h1, h2, h3, h4, h5, h6, h7, h8⟩ := h
  exact (h7.row i hi).keep (.refl _ _) fun _ _ _ => trivial
theorem GridAt.sizes (h : GridAt w B gg gr wd Rs) : 0 < Rs.length ∧ Rs.length ≤ 1024 ∧ 0 < wd ∧ wd ≤ 1024 ∧ ∀ i, i < Rs.length → (Rs.getD i r0).L.length = wd := by
  obtain ⟨Z, cap, h1, h2, h3, h4, h5, h6, h7, h8, h9, h10⟩ := h
  obtain ⟨k1, k2, _⟩ := (h7.row 0 h9).len
  rw [h8 0 h9] at k1 k2
  exact ⟨h9, h10, k1, k2, h8⟩
/-- What a walk reads of a grid. -/
theorem GridAt.cells (h : GridAt w B gg gr wd Rs) : ∃ cap, w.cell? ⟨gg, 0, none⟩ = some (.int .i64 wd) ∧ w.cell? ⟨gg, 1, none⟩ = some (.slice (some ⟨gr, 0, none⟩) Rs.length cap) ∧ Rs.length ≤ cap ∧ ∀ i, i < Rs.length → w.cell? ⟨gr, i, none⟩ = some (.pointer (some ⟨(Rs.getD i r0).g, 0, none⟩)) := by
  obtain ⟨Z, cap, h1, h2, h3, h4, h5, h6, h7, h8, h9, h10⟩ := h
  refine ⟨cap, h2.cell 0 _ rfl, h2.cell 1 _ rfl, ?_, fun i hi => ?_⟩
  · obtain ⟨_, k⟩ := h4.ptrs
    rcases k with ⟨e, _⟩ | ⟨g', cap', cur, e, _, _, hn, _⟩
    · cases e
    · simp only [Value.slice.injEq] at e
      obtain ⟨_, _, rfl⟩ := e
      rw [ptrs_len] at hn
      exact hn
  · have := (ptr_cell h4 i (by rw [ptrs_len]; exact hi)).1
    rw [ptrs_at Rs i hi] at this
    exact this
end
theorem gside_any (n : Int) (w : World) : Calls Tryd.prog 87 #[.int .i64 n] w fun e w' => e = .returned (.int .i64 (rowN n)) ∧ w = w' := by
  have HE := Lib.hid (show min (max n 1) 1024 = (rowN n : Int) by unfold rowN; omega)
  go_enter Tryd.func87, Tryd.ntmps87
  go_wp2
  go_ret
  exact ⟨ret_eq (by rw [← HE.out]; try rfl), rfl⟩
theorem gwide_any (B gg gr wd : Nat) (Rs : List Rw) (w : World) (h : GridAt w B gg gr wd Rs) : Calls Tryd.prog 20 #[.pointer (some ⟨gg, 0, none⟩)] w fun e w' => e = .returned (.int .i64 wd) ∧ w = w' := by
  obtain ⟨cap, c0, c1, _⟩ := h.cells
  clear h
  go_enter Tryd.func20, Tryd.ntmps20
  go_wp2
  go_ret
  exact ⟨(ret_eq (by first | rfl | (simp <;> omega))), rfl⟩
theorem gwide_nil (w : World) : Calls Tryd.prog 20 #[.pointer none] w fun e w' => e = .returned (.int .i64 0) ∧ w = w' := by
  go_enter Tryd.func20, Tryd.ntmps20
  go_wp2
  go_ret
  exact ⟨(ret_eq (by first | rfl | (simp <;> omega))), rfl⟩
theorem ghigh_any (B gg gr wd : Nat) (Rs : List Rw) (w : World) (h : GridAt w B gg gr wd Rs) : Calls Tryd.prog 21 #[.pointer (some ⟨gg, 0, none⟩)] w fun e w' => e = .returned (.int .i64 Rs.length) ∧ w = w' := by
  obtain ⟨cap, c0, c1, _⟩ := h.cells
  clear h
  go_enter Tryd.func21, Tryd.ntmps21
  go_wp2
  go_ret
  exact ⟨(ret_eq (by first | rfl | (simp <;> omega))), rfl⟩
theorem ghigh_nil (w : World) : Calls Tryd.prog 21 #[.pointer none] w fun e w' => e = .returned (.int .i64 0) ∧ w = w' := by
  go_enter Tryd.func21, Tryd.ntmps21
  go_wp2
  go_ret
  exact ⟨(ret_eq (by first | rfl | (simp <;> omega))), rfl⟩
theorem grow_in (B gg gr wd : Nat) (Rs : List Rw) (i : Nat) (w : World) (h : GridAt w B gg gr wd Rs) (hi : i < Rs.length) : Calls Tryd.prog 43 #[.pointer (some ⟨gg, 0, none⟩), .int .i64 i] w fun e w' => e = .returned (.pointer (some ⟨(Rs.getD i r0).g, 0, none⟩)) ∧ w = w' := by
  obtain ⟨cap, c0, c1, hcap, hc⟩ := h.cells
  have cr := hc i hi
  obtain ⟨p, hp⟩ : ∃ p, p = (Rs.getD i r0).g := ⟨_, rfl⟩
  rw [← hp] at cr ⊢
  have HH := Lib.hid (ghigh_any B gg gr wd Rs w h)
  have hsz := h.sizes
  obtain ⟨n, hn⟩ : ∃ n, n = Rs.length := ⟨_, rfl⟩
  rw [← hn] at c1 HH hcap hi hsz
  have hd0 : decide ((i : Int) < 0) = false := by rw [decide_eq_false_iff_not]; omega
  have hd1 : decide ((n : Int) ≤ i) = false := by rw [decide_eq_false_iff_not]; omega
  have hd2 : decide (n ≤ i) = false := by rw [decide_eq_false_iff_not]; omega
  have hn9 : n ≤ 1024 := hsz.2.1
  clear h hc hn hp hsz
  go_enter Tryd.func43, Tryd.ntmps43
  go_wp2_with fail
  refine HH.out.mono ?_
  rintro e w1 ⟨rfl, rfl⟩
  go_wp2
  go_ret
  exact ⟨(ret_eq (by first | rfl | (simp <;> omega))), rfl⟩
theorem grow_out (B gg gr wd : Nat) (Rs : List Rw) (i : Int) (w : World) (h : GridAt w B gg gr wd Rs) (hi : i < 0 ∨ (Rs.length : Int) ≤ i) : Calls Tryd.prog 43 #[.pointer (some ⟨gg, 0, none⟩), .int .i64 i] w fun e w' => e = .returned (.pointer none) ∧ w = w' := by
  have HH := Lib.hid (ghigh_any B gg gr wd Rs w h)
  obtain ⟨n, hn⟩ : ∃ n, n = Rs.length := ⟨_, rfl⟩
  rw [← hn] at HH hi
  clear h hn
  by_cases h0 : i < 0
  · have hd0 : decide (i < 0) = true := by rw [decide_eq_true_eq]; exact h0
    clear h0 hi
    go_enter Tryd.func43, Tryd.ntmps43
    go_wp2
    go_ret
    exact ⟨(ret_eq (by first | rfl | (simp <;> omega))), rfl⟩
  · have hd0 : decide (i < 0) = false := by rw [decide_eq_false_iff_not]; exact h0
    have hd1 : decide ((n : Int) ≤ i) = true := by rw [decide_eq_true_eq]; omega
    clear h0 hi
    go_enter Tryd.func43, Tryd.ntmps43
    go_wp2_with fail
    refine HH.out.mono ?_
    rintro e w1 ⟨rfl, rfl⟩
    go_wp2
    go_ret
    exact ⟨(ret_eq (by first | rfl | (simp <;> omega))), rfl⟩
theorem grow_nil (i : Int) (w : World) : Calls Tryd.prog 43 #[.pointer none, .int .i64 i] w fun e w' => e = .returned (.pointer none) ∧ w = w' := by
  by_cases h0 : i < 0
  · have hd0 : decide (i < 0) = true := by rw [decide_eq_true_eq]; exact h0
    clear h0
    go_enter Tryd.func43, Tryd.ntmps43
    go_wp2
    go_ret
    exact ⟨(ret_eq (by first | rfl | (simp <;> omega))), rfl⟩
  · have hd0 : decide (i < 0) = false := by rw [decide_eq_false_iff_not]; exact h0
    have hd1 : decide ((0 : Int) ≤ i) = true := by rw [decide_eq_true_eq]; omega
    clear h0
    go_enter Tryd.func43, Tryd.ntmps43
    go_wp2_with fail
    refine (ghigh_nil w).mono ?_
    rintro e w1 ⟨rfl, rfl⟩
    go_wp2
    go_ret
    exact ⟨(ret_eq (by first | rfl | (simp <;> omega))), rfl⟩
end Go.Proofs.YteinppjklhomnaaDoor
/- Row.Paint in one word; the reference's Wrong. -/
namespace Go.Proofs.YteinppjklhomnaaDoor
open Go.RowKit Go.ChangeShapes Go.WideShapes
def wrongI (n at_ : Int) (p : List Cl) : Int := if at_ < 0 ∨ n < at_ ∨ n - at_ < p.length then 3 else if soundB p = true then 0 else 5
theorem rpaint_good (Z Y : Zone) (B g gc : Nat) (L p : List Cl) (wrap : Bool) (v : Value) (w : World) (h : RowAt Z w B g gc L wrap) (hv : HeldE cellE Y w v p) (hY : ∀ b, Y b → b ≠ g ∧ b ≠ gc) (hZ : ∀ b, w.heap.size ≤ b → Z b) (a : Nat) (hle : a + p.length ≤ L.length) (hp : soundB p = true) :
    Calls Tryd.prog 83 #[.pointer (some ⟨g, 0, none⟩), .int .i64 a, v] w (PaintOk Z B g gc w (paintL L p a) (wrap && !lastHit L p a)) := by
  cases p with
  | nil =>
    rw [paint_none, lastHit_none, Bool.not_false, Bool.and_true]
    exact rpaint_none Z Y B g gc L wrap v w h hv a (by simpa using hle)
  | cons c p => exact rpaint_ok Z Y B g gc L (c :: p) wrap v w h hv hY hZ a hle hp (by simp)
/-- .. or why not. -/
theorem rpaint_bad (sa : Nat → Addr) (Z Y : Zone) (B g gc : Nat) (L p : List Cl) (wrap : Bool) (at_ : Int) (v : Value) (w : World) (hs : Sents w sa) (h : RowAt Z w B g gc L wrap) (hv : HeldE cellE Y w v p) (hbad : wrongI L.length at_ p ≠ 0) :
    ∃ m : Nat, m < 8 ∧ wrongI L.length at_ p = (m : Int) + 1 ∧ Calls Tryd.prog 83 #[.pointer (some ⟨g, 0, none⟩), .int .i64 at_, v] w (Gives w (.iface 194 (.pointer (some (sa m))))) := by
  unfold wrongI at hbad ⊢
  split
  · rename_i h1
    exact ⟨2, by decide, rfl, rpaint_range sa Z Y B g gc L p wrap at_ v w hs h hv h1⟩
  · rename_i h1
    rw [if_neg h1] at hbad
    cases hq : soundB p with
    | true => rw [hq] at hbad; exact absurd rfl hbad
    | false =>
      obtain ⟨a, rfl⟩ := Int.eq_ofNat_of_zero_le (show 0 ≤ at_ by omega)
      exact ⟨4, by decide, rfl, rpaint_kind sa Z Y B g gc L p wrap v w hs h hv a (by omega) hq⟩
theorem wrong_good {n : Nat} {at_ : Int} {p : List Cl} (h : wrongI n at_ p = 0) : ∃ a : Nat, at_ = a ∧ a + p.length ≤ n ∧ soundB p = true := by
  unfold wrongI at h
  split at h
  · cases h
  · rename_i h1
    split at h
    · rename_i h2
      obtain ⟨a, rfl⟩ := Int.eq_ofNat_of_zero_le (show 0 ≤ at_ by omega)
      exact ⟨a, rfl, by omega, h2⟩
    · cases h
end Go.Proofs.YteinppjklhomnaaDoor
/- mark: Put, At, Add, Widen. -/
namespace Go.Proofs.YteinppjklhomnaaDoor
open Go.RowKit Go.ChangeShapes Go.WideShapes
set_option maxRecDepth 100000 in
theorem mput_z (Z Y : Zone) (B g gc : Nat) (L : List Cl) (wrap : Bool) (col wide : Int) (v : Value) (xs : List Int) (w : World) (hZ : ∀ b, w.heap.size ≤ b → Z b) (h : RowAt Z w B g gc L wrap) (hv : HeldE (intE .i32) Y w v xs) (hg : wrongI L.length col (ofC wide xs) = 0) :
    Calls Tryd.prog 50 #[.pointer (some ⟨g, 0, none⟩), .int .i64 col, .int .i64 wide, v] w (PaintOk Z B g gc w (paintL L (ofC wide xs) col.toNat) (wrap && !lastHit L (ofC wide xs) col.toNat)) := by
  obtain ⟨a, rfl, hla, hsp⟩ := wrong_good hg
  rw [Int.toNat_natCast]
  have hlt := h.lt
  have HGL := Lib.hid hlt
  have HR := Lib.hid h
  have HO := Lib.hid (cof_new (fun b => b ≠ g ∧ b ≠ gc) Y wide v xs w (fun b hb => by omega) hv)
  have HLA := Lib.hid hla
  have HZ := Lib.hid hZ
  have HSP := Lib.hid hsp
  have hvm := hv.max
  obtain ⟨ao, ca, rfl⟩ := hv.len
  clear h hg hlt hla hsp hv hZ
  go_enter Tryd.func50, Tryd.ntmps50
  go_wp2_with fail
  refine HO.out.mono ?_
  rintro e w1 ⟨v1, rfl, ho1, b1⟩
  have HH := Lib.hid (ho1.held (fun b hb _ => by have := HGL.out; exact ⟨by omega, by omega⟩))
  have HU := Lib.hid (Upd.ofBelow (S := fun b => b = g ∨ b = gc) b1)
  have HR1 := Lib.hid (HR.out.below b1)
  have HBS := Lib.hid b1.size
  clear ho1 b1
  go_wp2_with fail
  refine (rpaint_good _ _ _ g gc L _ wrap _ w1 HR1.out HH.out (fun _ h => h) (fun b hb => HZ.out b (Nat.le_trans HBS.out hb)) a HLA.out HSP.out).mono ?_
  rintro e w2 ⟨rfl, hr2, u2⟩
  have HE := Lib.hid (And.intro hr2 (HU.out.trans u2))
  clear hr2 u2
  go_wp2
  go_ret
  exact ⟨rfl, HE.out.1, HE.out.2⟩
theorem mput_good (Y : Zone) (B g gc : Nat) (L : List Cl) (wrap : Bool) (col wide : Int) (v : Value) (xs : List Int) (w : World) (h : RowAt (fun _ => True) w B g gc L wrap) (hv : HeldE (intE .i32) Y w v xs) (hg : wrongI L.length col (ofC wide xs) = 0) :
    Calls Tryd.prog 50 #[.pointer (some ⟨g, 0, none⟩), .int .i64 col, .int .i64 wide, v] w (PaintOk (fun _ => True) B g gc w (paintL L (ofC wide xs) col.toNat) (wrap && !lastHit L (ofC wide xs) col.toNat)) :=
  mput_z (fun _ => True) Y B g gc L wrap col wide v xs w (fun _ _ => trivial) h hv hg
set_option maxRecDepth 100000 in
theorem mput_bad (sa : Nat → Addr) (Y : Zone) (B g gc : Nat) (L : List Cl) (wrap : Bool) (col wide : Int) (v : Value) (xs : List Int) (w : World) (hs : Sents w sa) (h : RowAt (fun _ => True) w B g gc L wrap) (hv : HeldE (intE .i32) Y w v xs) (hg : wrongI L.length col (ofC wide xs) ≠ 0) :
    ∃ m : Nat, m < 8 ∧ wrongI L.length col (ofC wide xs) = (m : Int) + 1 ∧ Calls Tryd.prog 50 #[.pointer (some ⟨g, 0, none⟩), .int .i64 col, .int .i64 wide, v] w (Gives w (.iface 194 (.pointer (some (sa m))))) := by
  have hm0 : wrongI L.length col (ofC wide xs) = 3 ∨ wrongI L.length col (ofC wide xs) = 5 := by
    unfold wrongI at hg ⊢
    split
    · exact .inl rfl
    · split
      · rename_i h1 h2; rw [if_neg h1, if_pos h2] at hg; exact absurd rfl hg
      · exact .inr rfl
  obtain ⟨m, hm, hmm⟩ : ∃ m : Nat, m < 8 ∧ wrongI L.length col (ofC wide xs) = (m : Int) + 1 := by
    rcases hm0 with e | e
    · exact ⟨2, by decide, e⟩
    · exact ⟨4, by decide, e⟩
  refine ⟨m, hm, hmm, ?_⟩
  have HMM := Lib.hid hmm
  have HG := Lib.hid hg
  have HS := Lib.hid hs
  have HR := Lib.hid h
  have HO := Lib.hid (cof_new (fun _ => True) Y wide v xs w (fun b hb => trivial) hv)
  have hvm := hv.max
  obtain ⟨ao, ca, rfl⟩ := hv.len
  clear h hg hs hv hmm hm0
  go_enter Tryd.func50, Tryd.ntmps50
  go_wp2_with fail
  refine HO.out.mono ?_
  rintro e w1 ⟨v1, rfl, ho1, b1⟩
  have HH := Lib.hid (ho1.held (fun b hb _ => trivial))
  have HB := Lib.hid b1
  have HP := Lib.hid (rpaint_bad sa _ _ _ g gc L _ wrap col _ w1 (HS.out.below b1) (HR.out.below b1) HH.out HG.out)
  clear ho1 b1
  obtain ⟨m', hm', hmm', hc⟩ := HP.out
  have e : m' = m := by have := HMM.out; omega
  subst e
  have HC := Lib.hid hc
  clear hc hmm'
  go_wp2_with fail
  refine HC.out.mono ?_
  rintro e w2 ⟨rfl, b2⟩
  have HB2 := Lib.hid (HB.out.trans (b2.mono HB.out.size))
  clear b2
  go_wp2
  go_ret
  exact ⟨rfl, HB2.out⟩
set_option maxRecDepth 100000 in
theorem mput_nil (sa : Nat → Addr) (Y : Zone) (col wide : Int) (v : Value) (xs : List Int) (w : World) (hs : Sents w sa) (hv : HeldE (intE .i32) Y w v xs) : Calls Tryd.prog 50 #[.pointer none, .int .i64 col, .int .i64 wide, v] w (Gives w (.iface 194 (.pointer (some (sa 2))))) := by
  have HS := Lib.hid hs
  have HO := Lib.hid (cof_new (fun _ => True) Y wide v xs w (fun b hb => trivial) hv)
  have hvm := hv.max
  obtain ⟨ao, ca, rfl⟩ := hv.len
  clear hs hv
  go_enter Tryd.func50, Tryd.ntmps50
  go_wp2_with fail
  refine HO.out.mono ?_
  rintro e w1 ⟨v1, rfl, ho1, b1⟩
  have HB := Lib.hid b1
  have HP := Lib.hid (rpaint_nil (at_ := col) (v := v1) sa w1 (HS.out.below b1))
  clear ho1 b1
  go_wp2_with fail
  refine HP.out.mono ?_
  rintro e w2 ⟨rfl, b2⟩
  have HB2 := Lib.hid (HB.out.trans (b2.mono HB.out.size))
  clear b2
  go_wp2
  go_ret
  exact ⟨rfl, HB2.out⟩
def AtOwn (w : World) (k : Int) (c : Cl) (e : Ending) (w' : World) : Prop := ∃ tv, e = .returned (.tuple #[.int .i64 k, .agg #[.int .i64 c.1, tv], .bool true]) ∧ OwnE (intE .i32) (fun _ => True) w' w.heap.size 21 tv c.2 ∧ Below w.heap.size w w'
end Go.Proofs.YteinppjklhomnaaDoor
/- mark: At where there is no cluster; Add, Widen. -/
namespace Go.Proofs.YteinppjklhomnaaDoor
open Go.RowKit Go.ChangeShapes Go.WideShapes
abbrev noItem : Value := .tuple #[.int .i64 0, .agg #[.int .i64 0, .slice none 0 0], .bool false]
end Go.Proofs.YteinppjklhomnaaDoor
/- mark: Add, Widen. -/
namespace Go.Proofs.YteinppjklhomnaaDoor
open Go.RowKit Go.ChangeShapes Go.WideShapes
theorem wrong_none {n : Nat} {a : Nat} {p : List Cl} (h : a + p.length ≤ n) (hs : soundB p = true) : wrongI n (a : Int) p = 0 := by
  unfold wrongI
  rw [if_neg (by omega), if_pos hs]
def Turned3Z (Z : Zone) (w : World) (B g gc : Nat) (r : List Cl × Bool × Bool) (e : Ending) (w' : World) : Prop := e = .returned (.bool r.2.2) ∧ RowAt Z w' B g gc r.1 r.2.1 ∧ Upd (fun b => b = g ∨ b = gc) w w'
def Turned3 (w : World) (B g gc : Nat) (r : List Cl × Bool × Bool) (e : Ending) (w' : World) : Prop := e = .returned (.bool r.2.2) ∧ RowAt (fun _ => True) w' B g gc r.1 r.2.1 ∧ Upd (fun b => b = g ∨ b = gc) w w'
theorem Turned3Z.same {Z : Zone} {w w' : World} {B g gc : Nat} {L : List Cl} {wrap : Bool} (h : RowAt Z w B g gc L wrap) (b : Below w.heap.size w w') : Turned3Z Z w B g gc (L, wrap, false) (.returned (.bool false)) w' := ⟨rfl, h.below b, .ofBelow b⟩
theorem Turned3.same {w w' : World} {B g gc : Nat} {L : List Cl} {wrap : Bool} (h : RowAt (fun _ => True) w B g gc L wrap) (b : Below w.heap.size w w') : Turned3 w B g gc (L, wrap, false) (.returned (.bool false)) w' := ⟨rfl, h.below b, .ofBelow b⟩
end Go.Proofs.YteinppjklhomnaaDoor
/- mark: Add. -/
namespace Go.Proofs.YteinppjklhomnaaDoor
open Go.RowKit Go.ChangeShapes Go.WideShapes
theorem RowAt.lower {Z : Zone} {w : World} {B g gc : Nat} {L : List Cl} {wrap : Bool} (h : RowAt Z w B g gc L wrap) : RowAt (fun b => b < w.heap.size) w B g gc L wrap := h.keep (.refl _ _) fun b hb _ => hb
theorem RowAt.any {Z : Zone} {w : World} {B g gc : Nat} {L : List Cl} {wrap : Bool} (h : RowAt Z w B g gc L wrap) : RowAt (fun _ => True) w B g gc L wrap := h.keep (.refl _ _) fun b hb _ => trivial
theorem kept_upd {S : Zone} {w w' : World} {base : Nat} {e : TypeId} {size : Nat} {D C : List Value} {m : Nat} (hu : Upd S w w') (hs : ∀ b, S b → b < base) : Kept w w' base e size D C m := by
  refine ⟨fun v n xs h _ => ownsRow_same h fun g hg => ?_, fun g h => ownsRow_same h fun g2 hg => ?_⟩
  · have := h.lt g hg
    exact hu.block g this.2 fun hsg => by have := hs g hsg; omega
  · have := h.lt g2 hg
    exact hu.block g2 this.2 fun hsg => by have := hs g2 hsg; omega
/-- An append of a new one to a row of the call's own. -/
theorem int_append (w : World) (B : Nat) (ty : TypeId) (v : Value) (T : List Int) (x : Int) (hown : w.ownsRow B 21 1 v T.length (T.map (Value.int .i32))) (g : Nat) (hu : w.ownsRow B 21 1 (.slice (some ⟨g, 0, none⟩) 1 1) 1 [.int .i32 x]) (hn : T.length ≤ 1000000) (hbase : B ≤ w.heap.size) :
    ∃ v' w', (Builtin.append_ #[33, 33] ty #[v, .slice (some ⟨g, 0, none⟩) 1 1]).run Tryd.prog w = .ok v' w' ∧ w'.ownsRow B 21 1 v' (T.length + 1) (T.map (Value.int .i32) ++ [.int .i32 x]) ∧ w.grownBy w' v.ownBlock ∧ Kept w w' B 21 1 (T.map (Value.int .i32) ++ [.int .i32 x]) [.int .i32 x] 1 := by
  obtain ⟨i0, hi, hz0, hz1, hz2⟩ := info_parts info_rune
  have hc : ∀ j u, ([Value.int .i32 x] : List Value)[j]? = some u → w.cell? ((⟨g, 0, none⟩ : Addr).add j) = some u := by
    have hh : HeldE (intE .i32) (fun _ => True) w (.slice (some ⟨g, 0, none⟩) 1 1) [x] := (ownE_ints (Z := fun _ => True) (xs := [x]) (by simpa using hu)).held fun _ _ _ => trivial
    intro j u hj
    match j with
    | 0 =>
      simp only [List.getElem?_cons_zero, Option.some.injEq] at hj
      subst hj
      obtain ⟨_, _, hs⟩ := hh.spots
      obtain ⟨b, off, e, _, _, C, hC, hr⟩ := hs 0 (by simp)
      cases e
      have hr : C = [.int .i32 x] := hr
      subst hr
      exact hC 0 (by decide)
    | j + 1 => simp at hj
  exact run_append_kept (P := Tryd.prog) w B 33 ty 21 i0 _ 1 4 Tryd.underlying33 hi hz0 hz1 hz2 rfl (by decide) v T.length _ hown ⟨g, 0, none⟩ 1 1 [.int .i32 x] rfl hc (by simp [Value.oneCell']) (by unfold maxLen; omega) (by omega) hbase
end Go.Proofs.YteinppjklhomnaaDoor
