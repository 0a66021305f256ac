/- What comes in reads as a list, of whatever elements. Of no program. -/
import Derived.Test.YtomfclkldmmmgaaDoorElem
import Derived.Deep.Slices
import Derived.Deep.Strs
namespace Go.Proofs.YtomfclkldmmmgaaDoor
open Go.RowKit Go.ChangeShapes Go.WideShapes
open Go.Deep
/-- What is read of cells at type t is such an element, and right. -/
def Opens (P : Program) {α : Type} (E : Elem α) (ok : α → Prop) (t : TypeId) : Prop :=
  P.cellsOf t = E.size ∧ ∀ {H : Type} (enc : TypeId × Value → H) (W : World) (base fuel : Nat) (cs : List Value) (x : DataW H × List MemPlace), DataW.trod enc P W base (fun _ => true) true fuel t cs = some x → ∃ y, E.rep (fun b => b < W.heap.size) W cs y ∧ ok y
section
variable {P : Program} {α β γ : Type} {E : Elem α} {F : Elem β} {G : Elem γ} {ok : α → Prop} {ok' : β → Prop} {ok'' : γ → Prop} {t e : TypeId}
theorem opens_int {k : IntKind} (hu : P.underlying t = some (.int k)) (hc : P.cellsOf t = 1) : Opens P (intE k) (fun n => (Lit.int k n).wf = true) t := by
  refine ⟨hc, fun enc W base fuel cs x h => ?_⟩
  obtain ⟨n, rfl, _, hw⟩ := DataW.trod_int hu h
  exact ⟨n, rfl, hw⟩
theorem opens_bool (hu : P.underlying t = some .bool) (hc : P.cellsOf t = 1) : Opens P boolE (fun _ => True) t := by
  refine ⟨hc, fun enc W base fuel cs x h => ?_⟩
  obtain ⟨n, rfl, _⟩ := DataW.trod_bool hu h
  exact ⟨n, rfl, trivial⟩
theorem opens_slice (hu : P.underlying t = some (.slice e)) (hc : P.cellsOf t = 1) (h0 : 0 < E.size) (he : Opens P E ok e) : Opens P (slE E) (fun L => ∀ x ∈ L, ok x) t := by
  refine ⟨hc, fun {H} enc W base fuel cs x h => ?_⟩
  obtain ⟨hce, hop⟩ := he
  rcases open_slice hu h with ⟨rfl, _⟩ | ⟨a, len, cap, m, n, D, Pl, rfl, _, hl, hm, hmm, _, hx⟩
  · exact ⟨[], ⟨_, rfl, HeldE.nil _ _ _⟩, by simp⟩
  · simp at hmm
    rw [hce] at hx
    have hsp : 0 < len → a.spot = none := by
      intro hl0
      obtain ⟨cs', h1, _⟩ := hx 0 (by omega)
      obtain ⟨_, hlen, hcell⟩ := World.cells?_some h1
      have hk := hcell 0 h0
      rw [List.getElem?_eq_getElem (by omega)] at hk
      have := World.cell?_spot hk
      simpa [Addr.add] using this
    have each : ∀ i, i < len → ∃ y : α, ok y ∧ ∃ b off, a = ⟨b, off, none⟩ ∧ b < W.heap.size ∧ ∃ C, (∀ j, j < E.size → W.cell? ⟨b, off + i * E.size + j, none⟩ = C[j]?) ∧ E.rep (fun b => b < W.heap.size) W C y := by
      intro i hi
      obtain ⟨cs', h1, h2⟩ := hx i (by omega)
      obtain ⟨_, hlen, hcell⟩ := World.cells?_some h1
      obtain ⟨y, hr, hy⟩ := hop enc W base _ cs' _ h2
      have hk := hcell 0 h0
      have hv : ∃ v0, cs'[0]? = some v0 := ⟨cs'[0], List.getElem?_eq_getElem (by omega)⟩
      obtain ⟨v0, hv0⟩ := hv
      rw [hv0] at hk
      have hs : a.spot = none := hsp (by omega)
      obtain ⟨b, off, sp⟩ := a
      simp only at hs
      subst hs
      rw [Addr.add_lit, Addr.add_lit] at hk
      refine ⟨y, hy, b, off, rfl, World.block_lt_of_cell? W ⟨b, off + i * E.size + 0, none⟩ hk, cs', fun j hj => ?_, hr⟩
      have := hcell j hj
      rw [Addr.add_lit, Addr.add_lit] at this
      exact this
    have hg : ∀ i (hi : i < len), (List.ofFn (n := len) fun i => Classical.choose (each i.val i.isLt)).getD i E.zero = Classical.choose (each i hi) := fun i hi => by simp [List.getD, hi]
    refine ⟨List.ofFn (n := len) fun i => Classical.choose (each i.val i.isLt), ⟨_, rfl, some a, cap, by simp, by simp; omega, hm, (fun h => by cases h), fun i hi => ?_⟩, ?_⟩
    · have hi' : i < len := by simpa using hi
      obtain ⟨_, b, off, rfl, h1, C, h2, h3⟩ := Classical.choose_spec (each i hi')
      refine ⟨b, off, rfl, h1, h1, C, h2, ?_⟩
      rw [hg i hi']
      exact h3
    · intro y hy
      obtain ⟨i, rfl⟩ := List.mem_ofFn.1 hy
      exact (Classical.choose_spec (each i.val i.isLt)).1
theorem opens_pair {f0 f1 : Field} (hu : P.underlying t = some (.struct #[f0, f1])) (hc : P.cellsOf t = E.size + F.size) (h0 : f0.offset = 0) (h1 : f1.offset = E.size) (he : Opens P E ok f0.type) (hf : Opens P F ok' f1.type) : Opens P (prE E F) (fun x => ok x.1 ∧ ok' x.2) t := by
  refine ⟨hc, fun {H} enc W base fuel cs x h => ?_⟩
  obtain ⟨y0, y1, n, _, hl, t0, t1⟩ := trod_struct2 hu h
  rw [he.1, h0] at t0
  rw [hf.1, h1] at t1
  obtain ⟨x0, r0, k0⟩ := he.2 enc W base _ _ _ t0
  obtain ⟨x1, r1, k1⟩ := hf.2 enc W base _ _ _ t1
  refine ⟨(x0, x1), ⟨_, _, ?_, r0, r1⟩, k0, k1⟩
  rw [hc] at hl
  simp only [List.drop_zero]
  rw [List.take_of_length_le (l := List.drop E.size cs) (by simp; omega), List.take_append_drop]
theorem opens_triple {f0 f1 f2 : Field} (hu : P.underlying t = some (.struct #[f0, f1, f2])) (hc : P.cellsOf t = E.size + (F.size + G.size)) (h0 : f0.offset = 0) (h1 : f1.offset = E.size) (h2 : f2.offset = E.size + F.size) (he : Opens P E ok f0.type) (hf : Opens P F ok' f1.type) (hg : Opens P G ok'' f2.type) :
    Opens P (prE E (prE F G)) (fun x => ok x.1 ∧ ok' x.2.1 ∧ ok'' x.2.2) t := by
  refine ⟨hc, fun {H} enc W base fuel cs x h => ?_⟩
  obtain ⟨y0, y1, y2, n, _, hl, t0, t1, t2⟩ := trod_struct3 hu h
  rw [he.1, h0] at t0
  rw [hf.1, h1] at t1
  rw [hg.1, h2] at t2
  obtain ⟨x0, r0, k0⟩ := he.2 enc W base _ _ _ t0
  obtain ⟨x1, r1, k1⟩ := hf.2 enc W base _ _ _ t1
  obtain ⟨x2, r2, k2⟩ := hg.2 enc W base _ _ _ t2
  refine ⟨(x0, x1, x2), ⟨_, _, ?_, r0, _, _, rfl, r1, r2⟩, k0, k1, k2⟩
  rw [hc] at hl
  have e1 : (List.drop (E.size + F.size) cs) = List.drop F.size (List.drop E.size cs) := by rw [List.drop_drop]
  rw [List.take_of_length_le (l := List.drop (E.size + F.size) cs) (by simp; omega), e1, List.take_append_drop, List.drop_zero, List.take_append_drop]
/-- An argument that is a slice. -/
theorem opens_arg (hu : P.underlying t = some (.slice e)) (hc : P.cellsOf t = 1) (h0 : 0 < E.size) (he : Opens P E ok e) {H : Type} {enc : TypeId × Value → H} {W : World} {base : Nat} {v : Value} {d : DataW H} {p : List MemPlace} (hv : Value.okWide P W .any base t v) (h : DataW.Trod enc P W 0 (fun _ => true) true t v d p) :
    ∃ L, HeldE E (fun b => b < W.heap.size) W v L ∧ ∀ x ∈ L, ok x := by
  obtain ⟨a0, len, cap, rfl⟩ := okWide_slice hu hv
  obtain ⟨fuel, hf⟩ := h
  obtain ⟨y, ⟨v', hv', hr⟩, hk⟩ := (opens_slice hu hc h0 he).2 enc W 0 _ _ _ hf
  simp [Value.cells] at hv'
  subst hv'
  exact ⟨y, hr, hk⟩
/-- An argument that is a struct. -/
theorem opens_struct {fs : Array Field} (hu : P.underlying t = some (.struct fs)) (he : Opens P E ok t) {H : Type} {enc : TypeId × Value → H} {W : World} {base : Nat} {v : Value} {d : DataW H} {p : List MemPlace} (hv : Value.okWide P W .any base t v) (h : DataW.Trod enc P W 0 (fun _ => true) true t v d p) :
    ∃ cs y, v = .agg cs ∧ E.rep (fun b => b < W.heap.size) W cs.toList y ∧ ok y := by
  obtain ⟨cs, rfl, _⟩ := okWide_struct hu hv
  obtain ⟨fuel, hf⟩ := h
  obtain ⟨y, hr, hk⟩ := he.2 enc W 0 _ _ _ hf
  exact ⟨cs, y, rfl, by simpa [Value.cells] using hr, hk⟩
end
end Go.Proofs.YtomfclkldmmmgaaDoor
