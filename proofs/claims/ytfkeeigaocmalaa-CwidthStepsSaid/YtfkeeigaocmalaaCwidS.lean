/- Rows of properties: a copy of a held row into a new block; what an append of held properties leaves. -/
import Derived.Test.YtfkeeigaocmalaaCwidA
import Derived.Test.YtfkeeigaocmalaaPropL
import Derived.Test.YtfkeeigaocmalaaAppK
namespace Go.Proofs.Ytfkeeigaocmalaa
open Go.RowKit Go.ChangeShapes Go.WideShapes
theorem info_prop4 : (Try.prog.info? 26).map (fun i => (i.zero, i.size, i.bytes)) = some (some (.agg #[.int .i64 0, .bool false, .int .i64 0, .int .i64 0]), 4, 32) := by kernel_rfl
theorem heldP_news {w : World} {ad : Addr} {n cap : Nat} {L : List Pr} (h : HeldP w (.slice (some ad) n cap) L) : n = L.length ∧ ∀ j u, (prsCells L)[j]? = some u → w.cell? (ad.add j) = some u := by
  obtain ⟨hn, hc⟩ := h.at
  refine ⟨hn, fun j u hj => ?_⟩
  have hjl : j < 4 * L.length := by
    rcases Nat.lt_or_ge j (4 * L.length) with h | h
    · exact h
    · rw [List.getElem?_eq_none (by rw [prsCells_len]; exact h)] at hj; cases hj
  obtain ⟨b, off, e, _, d0, d1, d2, d3⟩ := hc (j / 4) (by omega)
  cases e
  rw [Addr.add_lit]
  obtain ⟨k0, k1, k2, k3⟩ := prsCells_at L (j / 4) (by omega)
  have hg : L.getD (j / 4) Pr.none = L[j / 4]'(by omega) := by simp [List.getD, List.getElem?_eq_getElem (show j / 4 < L.length by omega)]
  rw [hg] at d0 d1 d2 d3
  have hcase : j = j / 4 * 4 ∨ j = j / 4 * 4 + 1 ∨ j = j / 4 * 4 + 2 ∨ j = j / 4 * 4 + 3 := by omega
  rcases hcase with e | e | e | e
  · rw [e] at hj ⊢; rw [k0] at hj; cases hj; exact d0
  · rw [e] at hj ⊢; rw [k1] at hj; cases hj; rw [← Nat.add_assoc]; exact d1
  · rw [e] at hj ⊢; rw [k2] at hj; cases hj; rw [← Nat.add_assoc]; exact d2
  · rw [e] at hj ⊢; rw [k3] at hj; cases hj; rw [← Nat.add_assoc]; exact d3
theorem prs_one (L : List Pr) : ∀ u ∈ prsCells L, u.oneCell' = true := by
  intro u hu
  unfold prsCells prCells at hu
  simp only [List.mem_flatMap, List.mem_cons, List.not_mem_nil, or_false] at hu
  obtain ⟨q, _, rfl | rfl | rfl | rfl⟩ := hu <;> rfl
theorem exec_append {P : Program} {ρ : Operand → Value} {o : Oper} {s x : Operand} {t : TypeId} {w w' : World} {v u v' : Value} (ho : o.op = .call { callee := .builtin .append, args := #[s, x], argTypes := #[t, t] }) (hs : ρ s = v) (hx : ρ x = u)
    (hr : (Builtin.append_ #[t, t] o.type #[v, u]).run P w = .ok v' w') : (execOp ρ o).run P w = .ok (.value v') w' := by
  unfold execOp
  simp only [ho, resolve, invoke, builtin, Sem.run_bind, Sem.run_pure, Result.andThen_ok, List.map_toArray, List.map_cons, List.map_nil, hs, hx, hr]
/-- An append of held properties to a row of the call's own. -/
theorem prs_append (w : World) (B : Nat) (ty : TypeId) (v : Value) (n : Nat) (xs : List Value) (hown : w.ownsRow B 26 4 v n xs) (g c : Nat) (L : List Pr) (hu : HeldP w (.slice (some ⟨g, 0, none⟩) L.length c) L)
    (hn : n + L.length ≤ 1000000) (hbase : B ≤ w.heap.size) :
    ∃ v' w', (Builtin.append_ #[23, 23] ty #[v, .slice (some ⟨g, 0, none⟩) L.length c]).run Try.prog w = .ok v' w' ∧ w'.ownsRow B 26 4 v' (n + L.length) (xs ++ prsCells L) ∧ Below B w w' ∧ Kept w w' B 26 4 (xs ++ prsCells L) (prsCells L) L.length := by
  obtain ⟨i0, hi, hz0, hz1, hz2⟩ := info_parts info_prop4
  obtain ⟨_, hnews⟩ := heldP_news hu
  obtain ⟨v', w', hr, h2, h3, h4⟩ := run_append_kept (P := Try.prog) w B 23 ty 26 i0 _ 4 32 Try.underlying23 hi hz0 hz1 hz2 rfl (by decide) v n xs hown ⟨g, 0, none⟩ L.length c (prsCells L) (by rw [prsCells_len]; omega) hnews (prs_one L) (by unfold maxLen; omega) (by omega) hbase
  exact ⟨v', w', hr, h2, (Below.refl B w).grown h3 hbase fun k hk => (hown.lt k hk).1, h4⟩
/-- A copy of a held row into a new block. -/
theorem prs_copy (w : World) (B : Nat) (ty : TypeId) (g : Nat) (hown : w.ownsRow B 26 4 (.slice (some ⟨g, 0, none⟩) 0 0) 0 []) (u : Value) (L : List Pr) (hu : HeldP w u L) (hn : L.length ≤ 1000000) (hbase : B ≤ w.heap.size) :
    ∃ v' w', (Builtin.append_ #[23, 23] ty #[.slice (some ⟨g, 0, none⟩) 0 0, u]).run Try.prog w = .ok v' w' ∧ w'.ownsRow B 26 4 v' L.length (prsCells L) ∧ Below w.heap.size w w' := by
  obtain ⟨i0, hi, hz0, hz1, hz2⟩ := info_parts info_prop4
  by_cases h0 : L = []
  · subst h0
    refine ⟨_, w, ?_, hown, Below.refl _ _⟩
    obtain ⟨ao, cap, rfl, _⟩ := hu
    cases ao with
    | none => simp [Builtin.append_, run_underlying Try.underlying23, sizeOf, typeInfo, hi, Builtin.lenOf, Builtin.firstCells, storeCells]
    | some ad => simp [Builtin.append_, run_underlying Try.underlying23, sizeOf, typeInfo, hi, Builtin.lenOf, Builtin.firstCells, loadCells, loadCellsFrom, storeCells]
  · obtain ⟨ao, cap, rfl, hh⟩ := id hu
    have hpos : 0 < L.length := List.length_pos_iff.2 h0
    cases ao with
    | none => obtain ⟨b, off, e, _⟩ := hh 0 hpos; cases e
    | some ad =>
      obtain ⟨_, hnews⟩ := heldP_news hu
      obtain ⟨v', w', hr, h2, h3, _, h5⟩ := run_append_keep (P := Try.prog) w B 23 ty 26 i0 _ 4 32 Try.underlying23 hi hz0 hz1 hz2 rfl (by decide) _ 0 [] hown ad L.length cap (prsCells L) (by rw [prsCells_len]; omega) hnews (prs_one L) (by unfold maxLen; omega) (by omega) hbase
      refine ⟨v', w', hr, by simpa using h2, ?_⟩
      rcases h5 with h5 | ⟨g2, cap2, e1, rfl⟩
      · exact (Below.refl _ w).grown (⟨h3.os, h3.tape, h3.output, h3.size, fun i hi _ => h5 i hi⟩ : w.grownBy w' none) (Nat.le_refl _) (by simp)
      · exfalso
        simp only [Value.slice.injEq, Option.some.injEq, Addr.mk.injEq, and_true, true_and] at e1
        obtain ⟨rfl, rfl⟩ := e1
        rcases h2.2 with ⟨h', _⟩ | ⟨g3, cap3, cur3, h', _, _, hn3, _⟩
        · simp at h'
        · simp only [Value.slice.injEq, Option.some.injEq, Addr.mk.injEq, and_true, true_and] at h'
          omega
end Go.Proofs.Ytfkeeigaocmalaa
