/- A slice of properties that came in. -/
import Derived.Test.YtfkeeigaocmalaaProg
import Derived.Test.YtfkeeigaocmalaaAid
import Derived.Lib.SmallJoins
import Derived.Deep.Slices
namespace Go.Proofs.Ytfkeeigaocmalaa
open Go.RowKit Go.ChangeShapes Go.WideShapes
open Go.Joins Go.Deep
/-- A property: class, picture, conjunct, east. -/
structure Pr where
  br : Int
  pc : Bool
  cv : Int
  ea : Int
/-- In the world w the slice value v holds the properties xs. -/
def HeldP (w : World) (v : Value) (xs : List Pr) : Prop :=
  ∃ ao cap, v = .slice ao xs.length cap ∧ ∀ i (h : i < xs.length), ∃ b off, ao = some ⟨b, off, none⟩ ∧ b < w.heap.size ∧ w.cell? ⟨b, off + i * 4, none⟩ = some (.int .i64 xs[i].br) ∧ w.cell? ⟨b, off + i * 4 + 1, none⟩ = some (.bool xs[i].pc) ∧
    w.cell? ⟨b, off + i * 4 + 2, none⟩ = some (.int .i64 xs[i].cv) ∧ w.cell? ⟨b, off + i * 4 + 3, none⟩ = some (.int .i64 xs[i].ea)
theorem cells_prop : Try.prog.cellsOf 26 = 4 := by kernel_rfl
theorem cells_int : Try.prog.cellsOf 3 = 1 := by kernel_rfl
theorem cells_bool : Try.prog.cellsOf 4 = 1 := by kernel_rfl
theorem four_cells {w : World} {base : Nat} {a : Addr} {cs : List Value} (h : w.cells? base a 4 = some cs) : ∃ c0 c1 c2 c3, cs = [c0, c1, c2, c3] ∧ w.cell? (a.add 0) = some c0 ∧ w.cell? (a.add 1) = some c1 ∧ w.cell? (a.add 2) = some c2 ∧ w.cell? (a.add 3) = some c3 := by
  unfold World.cells? at h
  split at h
  · rw [show List.range 4 = [0, 1, 2, 3] from rfl] at h
    simp only [List.mapM_cons, List.mapM_nil, Option.bind_eq_bind, Option.bind_eq_some_iff, Option.pure_def, Option.some.injEq] at h
    obtain ⟨c0, h0, l1, ⟨c1, h1, l2, ⟨c2, h2, l3, ⟨c3, h3, l4, rfl, rfl⟩, rfl⟩, rfl⟩, rfl⟩ := h
    exact ⟨c0, c1, c2, c3, rfl, h0, h1, h2, h3⟩
  · cases h
set_option maxRecDepth 100000 in
theorem open_props {H : Type} {enc : TypeId × Value → H} {W : World} {base : Nat} {v : Value} {d : DataW H} {p : List MemPlace} (hv : Value.okWide Try.prog W .any base 23 v) (h : DataW.Trod enc Try.prog W 0 (fun _ => true) true 23 v d p) :
    ∃ xs, HeldP W v xs := by
  obtain ⟨a0, len, cap, rfl⟩ := okWide_slice Try.underlying23 hv
  obtain ⟨fuel, hf⟩ := h
  rcases open_slice Try.underlying23 hf with ⟨hcs, _⟩ | ⟨a, len', cap', m, n, D, Pl, hcs, _, hl, hm, hmm, _, hx⟩
  · simp [Value.cells] at hcs
    obtain ⟨rfl, rfl, rfl⟩ := hcs
    exact ⟨[], none, 0, rfl, fun i hi => by simp at hi⟩
  · simp [Value.cells] at hcs
    obtain ⟨rfl, rfl, rfl⟩ := hcs
    simp at hmm
    have hsp : 0 < len → a.spot = none := by
      intro h0
      obtain ⟨cs', h1, _⟩ := hx 0 (by omega)
      rw [cells_prop] at h1
      obtain ⟨c0, _, _, _, _, k0, _⟩ := four_cells h1
      have := World.cell?_spot k0
      simpa [Addr.add] using this
    have each : ∀ i, i < len → ∃ q : Pr, ∃ b off, a = ⟨b, off, none⟩ ∧ b < W.heap.size ∧ W.cell? ⟨b, off + i * 4, none⟩ = some (.int .i64 q.br) ∧ W.cell? ⟨b, off + i * 4 + 1, none⟩ = some (.bool q.pc) ∧
        W.cell? ⟨b, off + i * 4 + 2, none⟩ = some (.int .i64 q.cv) ∧ W.cell? ⟨b, off + i * 4 + 3, none⟩ = some (.int .i64 q.ea) := by
      intro i hi
      obtain ⟨cs', h1, h2⟩ := hx i (by omega)
      rw [cells_prop] at h1
      obtain ⟨c0, c1, c2, c3, rfl, k0, k1, k2, k3⟩ := four_cells h1
      obtain ⟨y0, y1, y2, y3, n', _, _, t0, t1, t2, t3⟩ := trod_struct4 Try.underlying26 h2
      obtain ⟨z0, e0, _, _⟩ := DataW.trod_int Try.underlying3 t0
      obtain ⟨z1, e1, _⟩ := DataW.trod_bool Try.underlying4 t1
      obtain ⟨z2, e2, _, _⟩ := DataW.trod_int Try.underlying3 t2
      obtain ⟨z3, e3, _, _⟩ := DataW.trod_int Try.underlying3 t3
      simp [cells_int, cells_bool] at e0 e1 e2 e3
      subst e0 e1 e2 e3
      obtain ⟨b, off, sp⟩ := a
      have hs : sp = none := hsp (by omega)
      subst hs
      rw [Addr.add_lit, Addr.add_lit] at k0 k1 k2 k3
      exact ⟨⟨z0, z1, z2, z3⟩, b, off, rfl, World.block_lt_of_cell? W ⟨b, off + i * 4 + 0, none⟩ k0, k0, k1, k2, k3⟩
    refine ⟨List.ofFn (n := len) fun i => Classical.choose (each i.val i.isLt), some a, cap, by simp, fun i hi => ?_⟩
    have hi' : i < len := by simpa using hi
    obtain ⟨b, off, rfl, h1, h2, h3, h4, h5⟩ := Classical.choose_spec (each i hi')
    refine ⟨b, off, rfl, h1, ?_, ?_, ?_, ?_⟩
    · simpa using h2
    · simpa using h3
    · simpa using h4
    · simpa using h5
theorem HeldP.below {w w' : World} {v : Value} {xs : List Pr} (h : HeldP w v xs) (hb : Below w.heap.size w w') : HeldP w' v xs := by
  obtain ⟨ao, cap, rfl, hc⟩ := h
  refine ⟨ao, cap, rfl, fun i hi => ?_⟩
  obtain ⟨b, off, rfl, hlt, h1, h2, h3, h4⟩ := hc i hi
  exact ⟨b, off, rfl, by have := hb.size; omega, (hb.cell (p := ⟨b, _, none⟩) hlt).trans h1, (hb.cell (p := ⟨b, _, none⟩) hlt).trans h2, (hb.cell (p := ⟨b, _, none⟩) hlt).trans h3, (hb.cell (p := ⟨b, _, none⟩) hlt).trans h4⟩
theorem HeldP.view {w : World} {v : Value} {xs : List Pr} (h : HeldP w v xs) : ∃ ao cap, v = .slice ao xs.length cap ∧ ∀ i (h : i < xs.length), ∃ b off, ao = some ⟨b, off, none⟩ ∧ b < w.heap.size ∧ w.cell? ⟨b, off + i * 4, none⟩ = some (.int .i64 xs[i].br) ∧ w.cell? ⟨b, off + i * 4 + 1, none⟩ = some (.bool xs[i].pc) ∧
    w.cell? ⟨b, off + i * 4 + 2, none⟩ = some (.int .i64 xs[i].cv) ∧ w.cell? ⟨b, off + i * 4 + 3, none⟩ = some (.int .i64 xs[i].ea) := h
def Pr.none : Pr := ⟨0, false, 0, 0⟩
theorem HeldP.at {w : World} {ao : Option Addr} {n cap : Nat} {xs : List Pr} (h : HeldP w (.slice ao n cap) xs) : n = xs.length ∧ ∀ i, i < xs.length → ∃ b off, ao = some ⟨b, off, none⟩ ∧ b < w.heap.size ∧ w.cell? ⟨b, off + i * 4, none⟩ = some (.int .i64 (xs.getD i Pr.none).br) ∧ w.cell? ⟨b, off + i * 4 + 1, none⟩ = some (.bool (xs.getD i Pr.none).pc) ∧
    w.cell? ⟨b, off + i * 4 + 2, none⟩ = some (.int .i64 (xs.getD i Pr.none).cv) ∧ w.cell? ⟨b, off + i * 4 + 3, none⟩ = some (.int .i64 (xs.getD i Pr.none).ea) := by
  obtain ⟨ao', cap', e, hc⟩ := h
  cases e
  refine ⟨rfl, fun i hi => ?_⟩
  have := hc i hi
  rw [show xs[i] = xs.getD i Pr.none by simp [List.getD, List.getElem?_eq_getElem hi]] at this
  exact this
end Go.Proofs.Ytfkeeigaocmalaa
