/- Appends to a row of the call's own, of whatever elements. Of no program. -/
import Derived.Test.YtomfclkldmmmgaaDoorElem
import Derived.Test.YtomfclkldmmmgaaDoorAppK
namespace Go.Proofs.YtomfclkldmmmgaaDoor
open Go.RowKit Go.ChangeShapes Go.WideShapes
theorem run_append_full {P : Program} (w : World) (base : Nat) (t ty e : TypeId) (i : TypeInfo) (z : Value) (size bytes : Nat) (ht : P.underlying t = some (.slice e)) (hi : P.info? e = some i) (hz : i.zero = some z)
    (hsize : i.size = size) (hby : i.bytes = bytes) (hzs : z.cells.size = size) (hsz : 0 < size)
    (v : Value) (n : Nat) (xs : List Value) (hown : w.ownsRow base e size v n xs)
    (a : Addr) (m c : Nat) (news : List Value) (hl : news.length = m * size) (hnews : ∀ j u, news[j]? = some u → w.cell? (a.add j) = some u) (h1 : ∀ u ∈ news, u.oneCell' = true)
    (h63 : n + m ≤ maxLen) (hbytes : (n + m) * bytes ≤ 140737488355328) (hbase : base ≤ w.heap.size) :
    ∃ v' w', (Builtin.append_ #[t, t] ty #[v, .slice (some a) m c]).run P w = .ok v' w' ∧ w'.ownsRow base e size v' (n + m) (xs ++ news) ∧ w.grownBy w' v.ownBlock ∧ ∀ b, b < w.heap.size → v.ownBlock ≠ some b → v'.ownBlock ≠ some b := by
  have hsmall : n + m ≤ 9223372036854775807 := by simp only [maxLen] at h63; omega
  rcases id hown.2 with ⟨rfl, rfl⟩ | ⟨g, cap, cur, rfl, hb, hg, hnc, hcm, hcs, htk⟩
  · have hx : xs = [] := List.eq_nil_of_length_eq_zero (by simpa using hown.1)
    subst hx
    obtain ⟨v', w', hr, h2, h3, _⟩ := run_append_own (P := P) w w.heap.size t ty e i z size bytes ht hi hz hsize hby hzs hsz _ 0 [] (World.ownsRow_nil _ _ _ _) a m c news hl hnews h1 h63 hbytes (Nat.le_refl _)
    refine ⟨v', w', hr, ⟨h2.1, ?_⟩, h3, fun b hb _ e => by have := (h2.lt b e).1; omega⟩
    rcases h2.2 with h | ⟨g, cap, cur, rfl, hg, rest⟩
    · exact .inl h
    · exact .inr ⟨g, cap, cur, rfl, by omega, rest⟩
  · by_cases hroom : n + m ≤ cap
    · obtain ⟨w2, hr2, h4, h5⟩ := run_append_fits (P := P) w base t ty e i size ht hi hsize g n cap xs hown a m c news hl hnews h1 hroom
      exact ⟨_, _, hr2, h4, h5, fun b _ hn => hn⟩
    · obtain ⟨v', w', hr, h2, h3, _⟩ := run_append_own (P := P) w base t ty e i z size bytes ht hi hz hsize hby hzs hsz _ n xs hown a m c news hl hnews h1 h63 hbytes hbase
      subst hsize
      subst hby
      have hr2 := run_append_grow (P := P) w t ty e i z ht hi hz ⟨g, 0, none⟩ n cap xs hown.1 (hown.cells (g := g) rfl) a m c news hl hnews (by omega) (by omega) (growslice_fits (by omega) hbytes)
      rw [hr2] at hr
      cases hr
      refine ⟨_, _, hr2, h2, h3, fun b hb _ e => ?_⟩
      simp [Value.ownBlock] at e
      omega
section
variable {α : Type} {E : Elem α} {Z Y : Zone} {w w' : World} {v u : Value} {L M : List α} {B : Nat} {ty : TypeId}
theorem getD_app {β : Type} (xs ys : List β) (d : β) (i : Nat) : (xs ++ ys).getD i d = if i < xs.length then xs.getD i d else ys.getD (i - xs.length) d := by
  simp only [List.getD]
  split <;> rename_i h
  · rw [List.getElem?_append_left h]
  · rw [List.getElem?_append_right (by omega)]
/-- An append of a held list. -/
theorem run_append_e {P : Program} (t tt : TypeId) (z : Value) (bytes : Nat) (ht : P.underlying t = some (.slice ty)) (hinfo : (P.info? ty).map (fun i => (i.zero, i.size, i.bytes)) = some (some z, E.size, bytes)) (hzs : z.cells.size = E.size) (h0 : 0 < E.size)
    (hv : OwnE E Z w B ty v L) (hu : HeldE E (fun b => Z b ∧ v.ownBlock ≠ some b) w u M) (hn : (L.length + M.length) * bytes ≤ 140737488355328) (hn0 : L.length + M.length ≤ 140737488355328) (hB : B ≤ w.heap.size) :
    ∃ v' w', (Builtin.append_ #[t, t] tt #[v, u]).run P w = .ok v' w' ∧ OwnE E Z w' B ty v' (L ++ M) ∧ Below B w w' ∧ KeepZ (fun b => v.ownBlock ≠ some b) w w' ∧ ∀ b, b < w.heap.size → v.ownBlock ≠ some b → v'.ownBlock ≠ some b := by
  obtain ⟨i0, hi, hz0, hz1, hz2⟩ := info_parts hinfo
  obtain ⟨CS, h1, h2, h3⟩ := id hv
  obtain ⟨ao, cap, rfl, hlc, _, hnn, hc⟩ := id hu
  cases ao with
  | none =>
    obtain ⟨rfl, rfl⟩ := hnn rfl
    have hr := run_append_owned_none (P := P) w B t tt ty i0 E.size ht hi v L.length CS.flatten h1
    exact ⟨v, w, hr, by simpa using hv, Below.refl _ _, .refl _ _, fun _ _ h => h⟩
  | some ad =>
    obtain ⟨DS, d1, _, d3, d4⟩ := hu.news h0
    have hls := own_lens d1 d4
    have hls1 := own_lens h2 h3
    obtain ⟨v', w', hr, k1, k2, k3⟩ := run_append_full (P := P) w B t tt ty i0 z E.size bytes ht hi hz0 hz1 hz2 hzs h0 v L.length CS.flatten h1 ad M.length cap DS.flatten (by rw [flat_len hls, d1]) d3 (own_ones d1 d4) (by unfold maxLen; omega) hn hB
    have kz : KeepZ (fun b => v.ownBlock ≠ some b) w w' := .grown k2
    refine ⟨v', w', hr, ⟨CS ++ DS, ?_, by simp [h2, d1], fun i hi => ?_⟩, (Below.refl B w).grown k2 hB fun k hk => (hv.lt k hk).1, kz, k3⟩
    · rw [List.flatten_append, List.length_append]
      exact k1
    · rw [getD_app, getD_app, h2]
      simp only [List.length_append] at hi
      split
      · rename_i hlt
        exact E.keep (kz.mono fun b _ hz => hz.2) (fun b hb hz => ⟨hz.1, k3 b hb hz.2⟩) (h3 i hlt)
      · rename_i hge
        exact E.keep (kz.mono fun b _ hz => hz.2) (fun b hb hz => ⟨hz.1, k3 b hb hz.2⟩) (d4 (i - L.length) (by omega))
theorem HeldE.lower (h : HeldE E Z w v L) : HeldE E (fun b => b < w.heap.size) w v L := h.zone fun b hb _ => hb
/-- What lies below the row's base is apart from it. -/
theorem HeldE.apart {B : Nat} (h : HeldE E (fun b => b < B) w u M) (ho : ∀ k, v.ownBlock = some k → B ≤ k ∧ k < w'.heap.size) : HeldE E (fun b => True ∧ v.ownBlock ≠ some b) w u M := h.zone fun b _ hz => ⟨trivial, fun e => by have := (ho b e).1; omega⟩
theorem OwnE.fresh0 (w : World) (ty : TypeId) {B : Nat} (hB : B ≤ w.heap.size) : OwnE E Z (w.alloc (.cells #[] ty)) B ty (.slice (some ⟨w.heap.size, 0, none⟩) 0 0) [] :=
  OwnE.empty ⟨by simp, .inr ⟨w.heap.size, 0, #[], rfl, hB, heap_alloc_new w _, Nat.le_refl _, by unfold maxLen; omega, by simp, by simp⟩⟩
/-- A block that was just laid, of one element. -/
theorem heldE_one (C : List Value) (x : α) (hr : E.rep Y w C x) (hy : ∀ b, b < w.heap.size → Y b → Z b) (hz : Z w.heap.size) : HeldE E Z (w.alloc (.cells C.toArray ty)) (.slice (some ⟨w.heap.size, 0, none⟩) 1 1) [x] := by
  refine ⟨_, 1, rfl, Nat.le_refl _, (by decide), (fun h => by cases h), fun i hi => ?_⟩
  have hi0 : i = 0 := by simpa using hi
  subst hi0
  refine ⟨w.heap.size, 0, rfl, by simp, hz, C, fun j hj => ?_, ?_⟩
  · rw [cell_of_row (w.alloc (.cells C.toArray ty)) w.heap.size (0 + 0 * E.size + j) C.toArray ty (0, 0) (heap_alloc_new w _)]
    simp
  · exact E.keep (.all ((Below.refl _ _).alloc (Nat.le_refl _) _) Y) hy hr
end
section
variable {P : Program} {α : Type} {E : Elem α} {Z Y : Zone} {w : World} {v u : Value} {L M : List α} {B : Nat} {ty : TypeId}
theorem exec_app {ρ : Operand → Value} {o : Oper} {s x : Operand} {t : TypeId} {w w' : World} {v u v' : Value} (ho : o.op = .call { callee := .builtin .append, args := #[s, x], argTypes := #[t, t] }) (hs : ρ s = v) (hx : ρ x = u)
    (hr : (Builtin.append_ #[t, t] o.type #[v, u]).run P w = .ok v' w') : (execOp ρ o).run P w = .ok (.value v') w' := by
  unfold execOp
  simp only [ho, resolve, invoke, builtin, Sem.run_bind, Sem.run_pure, Result.andThen_ok, List.map_toArray, List.map_cons, List.map_nil, hs, hx, hr]
theorem wpList_of_exec {ops : Array Oper} {rest : List Oper} {o : Oper} {a : Act} {Q : Exit → Act → World → Prop} {w w' : World} {v : Value} (hgd : o.guard = none) (he : (execOp a.eval o).run P w = .ok (.value v) w') (h : wpList P ops Q rest (a.put o.dst v) w') : wpList P ops Q (o :: rest) a w := by
  refine wpList_plain hgd fun K hK => ?_
  unfold Oper.wp
  rw [he]
  exact hK _ _ h
/-- 'append(v, u...)'. -/
theorem wpList_append_e {ops : Array Oper} {rest : List Oper} {o : Oper} {a : Act} {Q : Exit → Act → World → Prop} (hgd : o.guard = none) (s x : Operand) (t : TypeId)
    (ho : o.op = .call { callee := .builtin .append, args := #[s, x], argTypes := #[t, t] })
    (z : Value) (bytes : Nat) (ht : P.underlying t = some (.slice ty)) (hinfo : (P.info? ty).map (fun i => (i.zero, i.size, i.bytes)) = some (some z, E.size, bytes)) (hzs : z.cells.size = E.size) (h0 : 0 < E.size)
    (hs : a.eval s = v) (hx : a.eval x = u) (hv : OwnE E Z w B ty v L) (hu : HeldE E (fun b => Z b ∧ v.ownBlock ≠ some b) w u M) (hn : (L.length + M.length) * bytes ≤ 140737488355328) (hn0 : L.length + M.length ≤ 140737488355328) (hB : B ≤ w.heap.size)
    (h : ∀ v' w', OwnE E Z w' B ty v' (L ++ M) → Below B w w' → KeepZ (fun b => v.ownBlock ≠ some b) w w' → (∀ b, b < w.heap.size → v.ownBlock ≠ some b → v'.ownBlock ≠ some b) → wpList P ops Q rest (a.put o.dst v') w') :
    wpList P ops Q (o :: rest) a w := by
  obtain ⟨v', w', hr, h1, h2, h3, h4⟩ := run_append_e (P := P) t o.type z bytes ht hinfo hzs h0 hv hu hn hn0 hB
  refine wpList_of_exec hgd ?_ (h v' w' h1 h2 h3 h4)
  exact exec_app ho hs hx hr
end
end Go.Proofs.YtomfclkldmmmgaaDoor
