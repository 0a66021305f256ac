/- An argument that is a list of lists of spans. -/
import Derived.Test.YtmfoldohmbaikaaSpanQ
namespace Go.Proofs.Ytmfoldohmbaikaa
open Go.RowKit Go.ChangeShapes Go.WideShapes
open Go.Joins Go.Deep
theorem one_cell6 {w : World} {base : Nat} {a : Addr} {cs : List Value} (h : w.cells? base a 1 = some cs) : ∃ c0, cs = [c0] ∧ w.cell? (a.add 0) = some c0 := by
  unfold World.cells? at h
  split at h
  · rw [show List.range 1 = [0] from rfl] at h
    simp only [List.mapM_cons, List.mapM_nil, Option.bind_eq_bind, Option.bind_eq_some_iff, Option.pure_def, Option.some.injEq] at h
    obtain ⟨c0, h0, l1, rfl, rfl⟩ := h
    exact ⟨c0, rfl, h0⟩
  · cases h
theorem cells_spans : Try.prog.cellsOf 55 = 1 := by kernel_rfl
set_option maxRecDepth 100000 in
theorem open_spansF {H : Type} {enc : TypeId × Value → H} {W : World} {base fuel : Nat} {cs : List Value} {x : DataW H × List MemPlace} (h : DataW.trod enc Try.prog W base (fun _ => true) true fuel 55 cs = some x) : ∃ v T, cs = [v] ∧ HeldS W v T := by
  rcases open_slice Try.underlying55 h with ⟨rfl, _⟩ | ⟨a, len, cap, m, n, D, Pl, rfl, _, hl, hm, hmm, _, hx⟩
  · exact ⟨_, [], rfl, none, 0, rfl, fun i hi => by simp at hi⟩
  · simp at hmm
    have hsp : 0 < len → a.spot = none := by
      intro h0
      obtain ⟨cs', h1, _⟩ := hx 0 (by omega)
      rw [cells_span] at h1
      obtain ⟨c0, _, _, _, k0, _⟩ := three_cells h1
      have := World.cell?_spot k0
      simpa [Addr.add] using this
    have each : ∀ i, i < len → ∃ q : Sp, ∃ b off, a = ⟨b, off, none⟩ ∧ b < W.heap.size ∧ W.cell? ⟨b, off + i * 3, none⟩ = some (.int .i64 q.1) ∧ W.cell? ⟨b, off + i * 3 + 1, none⟩ = some (.int .i64 q.2.1) ∧
        W.cell? ⟨b, off + i * 3 + 2, none⟩ = some (.int .i64 q.2.2) := by
      intro i hi
      obtain ⟨cs', h1, h2⟩ := hx i (by omega)
      rw [cells_span] at h1
      obtain ⟨c0, c1, c2, rfl, k0, k1, k2⟩ := three_cells h1
      obtain ⟨y0, y1, y2, n', _, _, t0, t1, t2⟩ := trod_struct3 Try.underlying61 h2
      obtain ⟨z0, e0, _, _⟩ := DataW.trod_int Try.underlying3 t0
      obtain ⟨z1, e1, _, _⟩ := DataW.trod_int Try.underlying3 t1
      obtain ⟨z2, e2, _, _⟩ := DataW.trod_int Try.underlying3 t2
      simp [cells_int6] at e0 e1 e2
      subst e0 e1 e2
      obtain ⟨b, off, sp⟩ := a
      have hs : sp = none := hsp (by omega)
      subst hs
      rw [Addr.add_lit, Addr.add_lit] at k0 k1 k2
      exact ⟨(z0, z1, z2), b, off, rfl, World.block_lt_of_cell? W ⟨b, off + i * 3 + 0, none⟩ k0, k0, k1, k2⟩
    refine ⟨_, List.ofFn (n := len) fun i => Classical.choose (each i.val i.isLt), rfl, some a, cap, by simp, fun i hi => ?_⟩
    have hi' : i < len := by simpa using hi
    obtain ⟨b, off, rfl, h1, h2, h3, h4⟩ := Classical.choose_spec (each i hi')
    refine ⟨b, off, rfl, h1, ?_, ?_, ?_⟩
    · simpa [List.getD, hi'] using h2
    · simpa [List.getD, hi'] using h3
    · simpa [List.getD, hi'] using h4
set_option maxRecDepth 100000 in
theorem open_spanss {H : Type} {enc : TypeId × Value → H} {W : World} {base : Nat} {v : Value} {d : DataW H} {p : List MemPlace} (hv : Value.okWide Try.prog W .any base 64 v) (h : DataW.Trod enc Try.prog W 0 (fun _ => true) true 64 v d p) : ∃ LL, HeldSS W v LL := by
  obtain ⟨a0, len, cap, rfl⟩ := okWide_slice Try.underlying64 hv
  obtain ⟨fuel, hf⟩ := h
  rcases open_slice Try.underlying64 hf with ⟨hcs, _⟩ | ⟨a, len', cap', m, n, D, Pl, hcs, _, hl, hm, hmm, _, hx⟩
  · simp [Value.cells] at hcs
    obtain ⟨rfl, rfl, rfl⟩ := hcs
    exact ⟨[], none, 0, rfl, fun i hi => by simp at hi⟩
  · simp [Value.cells] at hcs
    obtain ⟨rfl, rfl, rfl⟩ := hcs
    simp at hmm
    have hsp : 0 < len → a.spot = none := by
      intro h0
      obtain ⟨cs', h1, _⟩ := hx 0 (by omega)
      rw [cells_spans] at h1
      obtain ⟨c0, _, k0⟩ := one_cell6 h1
      have := World.cell?_spot k0
      simpa [Addr.add] using this
    have each : ∀ i, i < len → ∃ q : List Sp, ∃ b off u, a = ⟨b, off, none⟩ ∧ b < W.heap.size ∧ W.cell? ⟨b, off + i, none⟩ = some u ∧ HeldS W u q := by
      intro i hi
      obtain ⟨cs', h1, h2⟩ := hx i (by omega)
      rw [cells_spans] at h1
      obtain ⟨c0, rfl, k0⟩ := one_cell6 h1
      obtain ⟨u, T, e, hT⟩ := open_spansF h2
      obtain ⟨b, off, sp⟩ := a
      have hs : sp = none := hsp (by omega)
      subst hs
      rw [Addr.add_lit, Addr.add_lit] at k0
      obtain rfl : c0 = u := by simpa using e
      have k0' : W.cell? ⟨b, off + i, none⟩ = some c0 := by simpa using k0
      exact ⟨T, b, off, c0, rfl, World.block_lt_of_cell? W ⟨b, off + i, none⟩ k0', k0', hT⟩
    refine ⟨List.ofFn (n := len) fun i => Classical.choose (each i.val i.isLt), some a, cap, by simp, fun i hi => ?_⟩
    have hi' : i < len := by simpa using hi
    obtain ⟨b, off, u, rfl, h1, h2, h3⟩ := Classical.choose_spec (each i hi')
    exact ⟨b, off, u, rfl, h1, h2, by simpa [List.getD, hi'] using h3⟩
end Go.Proofs.Ytmfoldohmbaikaa
