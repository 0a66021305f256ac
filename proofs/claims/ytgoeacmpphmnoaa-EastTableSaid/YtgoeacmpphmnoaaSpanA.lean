/- Lists of spans: that came in, or that are the call's own. -/
import Derived.Test.YtgoeacmpphmnoaaProg
import Derived.Test.YtgoeacmpphmnoaaAid
import Derived.Test.YtgoeacmpphmnoaaObj
import Derived.Lib.SmallJoins
import Derived.Deep.Slices
namespace Go.Proofs.Ytgoeacmpphmnoaa
open Go.RowKit Go.ChangeShapes Go.WideShapes
open Go.Joins Go.Deep
abbrev Sp := Int × Int × Int
abbrev z3 : Sp := (0, 0, 0)
/-- In the world w the slice value v holds the spans T. -/
def HeldS (w : World) (v : Value) (T : List Sp) : Prop :=
  ∃ ao cap, v = .slice ao T.length cap ∧ ∀ i, i < T.length → ∃ b off, ao = some ⟨b, off, none⟩ ∧ b < w.heap.size ∧ w.cell? ⟨b, off + i * 3, none⟩ = some (.int .i64 (T.getD i z3).1) ∧ w.cell? ⟨b, off + i * 3 + 1, none⟩ = some (.int .i64 (T.getD i z3).2.1) ∧
    w.cell? ⟨b, off + i * 3 + 2, none⟩ = some (.int .i64 (T.getD i z3).2.2)
theorem HeldS.below {w w' : World} {v : Value} {T : List Sp} (h : HeldS w v T) (hb : Below w.heap.size w w') : HeldS w' v T := by
  obtain ⟨ao, cap, rfl, hc⟩ := h
  refine ⟨ao, cap, rfl, fun i hi => ?_⟩
  obtain ⟨b, off, rfl, hlt, h1, h2, h3⟩ := hc i hi
  exact ⟨b, off, rfl, by have := hb.size; omega, (hb.cell (p := ⟨b, _, none⟩) hlt).trans h1, (hb.cell (p := ⟨b, _, none⟩) hlt).trans h2, (hb.cell (p := ⟨b, _, none⟩) hlt).trans h3⟩
theorem HeldS.spots {w : World} {ao : Option Addr} {n cap : Nat} {T : List Sp} (h : HeldS w (.slice ao n cap) T) : ∀ i, i < T.length → ∃ b off, ao = some ⟨b, off, none⟩ ∧ b < w.heap.size ∧ w.cell? ⟨b, off + i * 3, none⟩ = some (.int .i64 (T.getD i z3).1) ∧
    w.cell? ⟨b, off + i * 3 + 1, none⟩ = some (.int .i64 (T.getD i z3).2.1) ∧ w.cell? ⟨b, off + i * 3 + 2, none⟩ = some (.int .i64 (T.getD i z3).2.2) := by
  obtain ⟨ao', cap', he, hc⟩ := h
  cases he
  exact hc
theorem HeldS.len {w : World} {v : Value} {T : List Sp} (h : HeldS w v T) : ∃ ao cap, v = .slice ao T.length cap := by
  obtain ⟨ao, cap, rfl, _⟩ := h
  exact ⟨ao, cap, rfl⟩
def spCells (T : List Sp) : List Value := T.flatMap fun s => [.int .i64 s.1, .int .i64 s.2.1, .int .i64 s.2.2]
theorem spCells_len (T : List Sp) : (spCells T).length = T.length * 3 := by
  induction T with
  | nil => rfl
  | cons s T ih => simp only [spCells, List.flatMap_cons, List.length_append, List.length_cons, List.length_nil] at *; omega
theorem spCells_at : ∀ (T : List Sp) (i : Nat), i < T.length → (spCells T)[i * 3]? = some (.int .i64 (T.getD i z3).1) ∧ (spCells T)[i * 3 + 1]? = some (.int .i64 (T.getD i z3).2.1) ∧ (spCells T)[i * 3 + 2]? = some (.int .i64 (T.getD i z3).2.2)
  | [], i, h => absurd h (Nat.not_lt_zero _)
  | s :: T, 0, _ => ⟨rfl, rfl, rfl⟩
  | s :: T, i + 1, h => by
    have := spCells_at T i (by simpa using h)
    rw [show (i + 1) * 3 = i * 3 + 3 by omega, show i * 3 + 3 + 1 = i * 3 + 1 + 3 by omega, show i * 3 + 3 + 2 = i * 3 + 2 + 3 by omega]
    simpa [spCells] using this
theorem spCells_app (T U : List Sp) : spCells (T ++ U) = spCells T ++ spCells U := by simp [spCells]
theorem spCells_one (T : List Sp) : ∀ u ∈ spCells T, u.oneCell' = true := by
  intro u hu
  obtain ⟨s, _, h⟩ := List.mem_flatMap.1 hu
  simp at h
  rcases h with rfl | rfl | rfl <;> rfl
theorem heldS_of_owns {w : World} {B e : Nat} {v : Value} {n : Nat} {T : List Sp} (h : w.ownsRow B e 3 v n (spCells T)) : HeldS w v T := by
  have hl : T.length = n := by have := h.1; rw [spCells_len] at this; omega
  subst hl
  rcases h.2 with ⟨rfl, hn⟩ | ⟨g, cap, cur, rfl, hb, hg, h1, h2, h3, h4⟩
  · exact ⟨none, 0, by rw [hn], fun i hi => by omega⟩
  · refine ⟨some ⟨g, 0, none⟩, cap, rfl, fun i hi => ⟨g, 0, rfl, (Array.getElem?_eq_some_iff.1 hg).1, ?_⟩⟩
    obtain ⟨k0, k1, k2⟩ := spCells_at T i hi
    have c0 := h.cells (g := g) rfl _ _ k0
    have c1 := h.cells (g := g) rfl _ _ k1
    have c2 := h.cells (g := g) rfl _ _ k2
    rw [Addr.add_lit] at c0 c1 c2
    simp only [Nat.zero_add] at *
    exact ⟨c0, c1, c2⟩
/-- A block that was just laid. -/
theorem heldS_new (w : World) (C : List Value) (t : TypeId) (n cap : Nat) (T : List Sp) (hC : C = spCells T) (hn : T.length = n) : HeldS (w.alloc (.cells C.toArray t)) (.slice (some ⟨w.heap.size, 0, none⟩) n cap) T := by
  subst hC hn
  refine ⟨_, cap, rfl, fun i hi => ⟨w.heap.size, 0, rfl, by simp, ?_⟩⟩
  obtain ⟨k0, k1, k2⟩ := spCells_at T i hi
  have c0 := new_cells w (spCells T) t _ _ k0
  have c1 := new_cells w (spCells T) t _ _ k1
  have c2 := new_cells w (spCells T) t _ _ k2
  rw [Addr.add_lit] at c0 c1 c2
  simp only [Nat.zero_add] at *
  exact ⟨c0, c1, c2⟩
theorem cells_span : Try.prog.cellsOf 98 = 3 := by kernel_rfl
theorem cells_int6 : Try.prog.cellsOf 3 = 1 := by kernel_rfl
theorem three_cells {w : World} {base : Nat} {a : Addr} {cs : List Value} (h : w.cells? base a 3 = some cs) : ∃ c0 c1 c2, cs = [c0, c1, c2] ∧ w.cell? (a.add 0) = some c0 ∧ w.cell? (a.add 1) = some c1 ∧ w.cell? (a.add 2) = some c2 := by
  unfold World.cells? at h
  split at h
  · rw [show List.range 3 = [0, 1, 2] from rfl] at h
    simp only [List.mapM_cons, List.mapM_nil, Option.bind_eq_bind, Option.bind_eq_some_iff, Option.pure_def, Option.some.injEq] at h
    obtain ⟨c0, h0, l1, ⟨c1, h1, l2, ⟨c2, h2, l3, rfl, rfl⟩, rfl⟩, rfl⟩ := h
    exact ⟨c0, c1, c2, rfl, h0, h1, h2⟩
  · cases h
def inI64 (x : Int) : Prop := -9223372036854775808 ≤ x ∧ x ≤ 9223372036854775807
set_option maxRecDepth 100000 in
theorem open_spans {H : Type} {enc : TypeId × Value → H} {W : World} {base : Nat} {v : Value} {d : DataW H} {p : List MemPlace} (hv : Value.okWide Try.prog W .any base 51 v) (h : DataW.Trod enc Try.prog W 0 (fun _ => true) true 51 v d p) :
    ∃ T, HeldS W v T ∧ (∀ s ∈ T, inI64 s.1 ∧ inI64 s.2.1 ∧ inI64 s.2.2) ∧ ∀ ao n c, v = .slice ao n c → n ≤ c := by
  obtain ⟨a0, len, cap, rfl⟩ := okWide_slice Try.underlying51 hv
  obtain ⟨fuel, hf⟩ := h
  rcases open_slice Try.underlying51 hf with ⟨hcs, _⟩ | ⟨a, len', cap', m, n, D, Pl, hcs, _, hl, hm, hmm, _, hx⟩
  · simp [Value.cells] at hcs
    obtain ⟨rfl, rfl, rfl⟩ := hcs
    exact ⟨[], ⟨none, 0, rfl, fun i hi => by simp at hi⟩, by simp, fun _ _ _ e => by cases e; exact Nat.le_refl _⟩
  · simp [Value.cells] at hcs
    obtain ⟨rfl, rfl, rfl⟩ := hcs
    simp at hmm
    have hsp : 0 < len → a.spot = none := by
      intro h0
      obtain ⟨cs', h1, _⟩ := hx 0 (by omega)
      rw [cells_span] at h1
      obtain ⟨c0, _, _, _, k0, _⟩ := three_cells h1
      have := World.cell?_spot k0
      simpa [Addr.add] using this
    have each : ∀ i, i < len → ∃ q : Sp, (inI64 q.1 ∧ inI64 q.2.1 ∧ inI64 q.2.2) ∧ ∃ b off, a = ⟨b, off, none⟩ ∧ b < W.heap.size ∧ W.cell? ⟨b, off + i * 3, none⟩ = some (.int .i64 q.1) ∧ W.cell? ⟨b, off + i * 3 + 1, none⟩ = some (.int .i64 q.2.1) ∧
        W.cell? ⟨b, off + i * 3 + 2, none⟩ = some (.int .i64 q.2.2) := by
      intro i hi
      obtain ⟨cs', h1, h2⟩ := hx i (by omega)
      rw [cells_span] at h1
      obtain ⟨c0, c1, c2, rfl, k0, k1, k2⟩ := three_cells h1
      obtain ⟨y0, y1, y2, n', _, _, t0, t1, t2⟩ := trod_struct3 Try.underlying98 h2
      obtain ⟨z0, e0, _, w0⟩ := DataW.trod_int Try.underlying3 t0
      obtain ⟨z1, e1, _, w1⟩ := DataW.trod_int Try.underlying3 t1
      obtain ⟨z2, e2, _, w2⟩ := DataW.trod_int Try.underlying3 t2
      simp [cells_int6] at e0 e1 e2
      subst e0 e1 e2
      obtain ⟨b, off, sp⟩ := a
      have hs : sp = none := hsp (by omega)
      subst hs
      rw [Addr.add_lit, Addr.add_lit] at k0 k1 k2
      have wb : ∀ z : Int, (Lit.int .i64 z).wf = true → inI64 z := fun z hz => by
        have := bounds_i64 hz
        unfold inI64
        omega
      exact ⟨(z0, z1, z2), ⟨wb _ w0, wb _ w1, wb _ w2⟩, b, off, rfl, World.block_lt_of_cell? W ⟨b, off + i * 3 + 0, none⟩ k0, k0, k1, k2⟩
    refine ⟨List.ofFn (n := len) fun i => Classical.choose (each i.val i.isLt), ⟨some a, cap, by simp, fun i hi => ?_⟩, ?_, fun _ _ _ e => by cases e; omega⟩
    · have hi' : i < len := by simpa using hi
      obtain ⟨_, b, off, rfl, h1, h2, h3, h4⟩ := Classical.choose_spec (each i hi')
      refine ⟨b, off, rfl, h1, ?_, ?_, ?_⟩
      · simpa [List.getD, hi'] using h2
      · simpa [List.getD, hi'] using h3
      · simpa [List.getD, hi'] using h4
    · intro s hs
      obtain ⟨i, rfl⟩ := List.mem_ofFn.1 hs
      exact (Classical.choose_spec (each i.val i.isLt)).1
/-- May a span stand behind what ends there? -/
def stepB (last : Int) (s : Sp) : Bool := decide (last < s.1) && decide (s.1 ≤ s.2.1) && decide (s.2.1 ≤ 1114111) && decide (1 ≤ s.2.2) && decide (s.2.2 ≤ 65535)
def lastOf (T : List Sp) (k : Nat) : Int := if k = 0 then -1 else (T.getD (k - 1) z3).2.1
def rightN (T : List Sp) : Nat → Bool
  | 0 => true
  | k + 1 => rightN T k && stepB (lastOf T k) (T.getD k z3)
theorem right_down {T : List Sp} {j k : Nat} (h : j ≤ k) (hr : rightN T k = true) : rightN T j = true := by
  induction k with
  | zero => have : j = 0 := by omega
            subst this; rfl
  | succ k ih =>
    rcases Nat.lt_or_ge k j with h1 | h1
    · have : j = k + 1 := by omega
      subst this; exact hr
    · unfold rightN at hr
      simp only [Bool.and_eq_true] at hr
      exact ih h1 hr.1
theorem right_not {T : List Sp} {k : Nat} (hk : k < T.length) (h : stepB (lastOf T k) (T.getD k z3) = false) : rightN T T.length = false := by
  cases hr : rightN T T.length with
  | false => rfl
  | true =>
    have := right_down (show k + 1 ≤ T.length by omega) hr
    unfold rightN at this
    rw [h] at this
    simp at this
theorem step_cases (last : Int) (s : Sp) : (stepB last s = true ∧ last < s.1 ∧ s.1 ≤ s.2.1 ∧ s.2.1 ≤ 1114111 ∧ 1 ≤ s.2.2 ∧ s.2.2 ≤ 65535) ∨ (stepB last s = false ∧ (s.1 ≤ last ∨ (last < s.1 ∧ s.2.1 < s.1) ∨ (last < s.1 ∧ s.1 ≤ s.2.1 ∧ 1114111 < s.2.1) ∨
    (last < s.1 ∧ s.1 ≤ s.2.1 ∧ s.2.1 ≤ 1114111 ∧ s.2.2 < 1) ∨ (last < s.1 ∧ s.1 ≤ s.2.1 ∧ s.2.1 ≤ 1114111 ∧ 1 ≤ s.2.2 ∧ 65535 < s.2.2))) := by
  cases h : stepB last s with
  | true =>
    unfold stepB at h
    simp only [Bool.and_eq_true, decide_eq_true_eq] at h
    exact .inl ⟨rfl, h.1.1.1.1, h.1.1.1.2, h.1.1.2, h.1.2, h.2⟩
  | false =>
    refine .inr ⟨rfl, ?_⟩
    by_cases h1 : s.1 ≤ last
    · exact .inl h1
    · by_cases h2 : s.2.1 < s.1
      · exact .inr (.inl ⟨by omega, h2⟩)
      · by_cases h3 : 1114111 < s.2.1
        · exact .inr (.inr (.inl ⟨by omega, by omega, h3⟩))
        · by_cases h4 : s.2.2 < 1
          · exact .inr (.inr (.inr (.inl ⟨by omega, by omega, by omega, h4⟩)))
          · by_cases h5 : 65535 < s.2.2
            · exact .inr (.inr (.inr (.inr ⟨by omega, by omega, by omega, by omega, h5⟩)))
            · exfalso
              unfold stepB at h
              rw [decide_eq_true (show last < s.1 by omega), decide_eq_true (show s.1 ≤ s.2.1 by omega), decide_eq_true (show s.2.1 ≤ 1114111 by omega), decide_eq_true (show 1 ≤ s.2.2 by omega), decide_eq_true (show s.2.2 ≤ 65535 by omega)] at h
              cases h
end Go.Proofs.Ytgoeacmpphmnoaa
