/- An append of a held list that tells of each block that is not the row's own. -/
import Derived.Test.YtgoeacmpphmnoaaAid
import Derived.Test.YtgoeacmpphmnoaaObj
import Derived.Laws.OwnMore
namespace Go.Proofs.Ytgoeacmpphmnoaa
open Go.RowKit Go.ChangeShapes Go.WideShapes
theorem wpList_append_heldK {P : Program} (w : World) {ops : Array Oper} {rest : List Oper} {o : Oper} {a : Act} {Q : Exit → Act → World → Prop} (hgd : o.guard = none) (s x : Operand) (t : TypeId)
    (ho : o.op = .call { callee := .builtin .append, args := #[s, x], argTypes := #[t, t] })
    (base : Nat) (e : TypeId) (z : Value) (bytes : Nat) (ht : P.underlying t = some (.slice e)) (hinfo : (P.info? e).map (fun i => (i.zero, i.size, i.bytes)) = some (some z, 1, bytes)) (hzs : z.cells.size = 1)
    (k : IntKind) (v : Value) (n : Nat) (xs : List Int) (hs : a.eval s = v) (hown : w.ownsRow base e 1 v n (xs.map (Value.int k)))
    (u : Value) (ys : List Int) (hx : a.eval x = u) (hu : Held k w u ys)
    (hbytes : (n + ys.length) * bytes ≤ 140737488355328) (hb0 : n + ys.length ≤ 140737488355328) (hbase : base ≤ w.heap.size)
    (h : ∀ v' w', w'.ownsRow base e 1 v' (n + ys.length) ((xs ++ ys).map (Value.int k)) → Below base w w' → (∀ g, g < w.heap.size → v.ownBlock ≠ some g → w'.heap[g]? = w.heap[g]?) → wpList P ops Q rest (a.put o.dst v') w') :
    wpList P ops Q (o :: rest) a w := by
  obtain ⟨i0, hi, hz0, hz1, hz2⟩ := info_parts hinfo
  obtain ⟨ao, cap, rfl, hn, hc⟩ := hu
  cases ao with
  | none =>
    obtain ⟨rfl, rfl⟩ := hn rfl
    exact wpList_append_own_none hgd s x t ho base e i0 1 ht hi v n _ hs hown hx (h v w (by simpa using hown) (Below.refl _ _) fun _ _ _ => rfl)
  | some ad =>
    refine wpList_append_own _ hgd s x t ho base e i0 z 1 bytes ht hi hz0 hz1 hz2 hzs (by decide) v n _ hs hown ad ys.length cap (ys.map (Value.int k)) hx (by simp) ?_ (ints_oneCell k ys) (by unfold maxLen; omega) hbytes hbase ?_
    · intro j y hj
      have hjl : j < ys.length := by
        rcases Nat.lt_or_ge j ys.length with h | h
        · exact h
        · simp [List.getElem?_eq_none (show (ys.map (Value.int k)).length ≤ j by simpa using h)] at hj
      obtain ⟨b, off, e1, _, h1⟩ := hc j hjl
      cases e1
      rw [Addr.add_lit, h1]
      simp [List.getElem?_eq_getElem hjl] at hj
      subst hj
      simp [List.getD, List.getElem?_eq_getElem hjl]
    · intro v' w' hown' hgrow _
      exact h v' w' (by simpa using hown') ((Below.refl base w).grown hgrow hbase fun j hj => (hown.lt j hj).1) fun g hg hne => hgrow.block g hg (fun e => hne e.symm)
/-- A held list whose block is not the one that turned. -/
theorem Held.kept {k : IntKind} {w w' : World} {v : Value} {xs : List Int} (h : Held k w v xs) (hs : w.heap.size ≤ w'.heap.size) (hk : ∀ a n c, v = .slice (some a) n c → a.block < w.heap.size → w'.heap[a.block]? = w.heap[a.block]?) : Held k w' v xs := by
  obtain ⟨ao, cap, rfl, hn, hc⟩ := h
  refine ⟨ao, cap, rfl, hn, fun i hi => ?_⟩
  obtain ⟨b, off, rfl, hlt, hcell⟩ := hc i hi
  refine ⟨b, off, rfl, by omega, ?_⟩
  rw [← hcell]
  exact World.cell?_of_block (a := ⟨b, off + i, none⟩) (hk ⟨b, off, none⟩ _ _ rfl hlt)
/-- A fresh row outlives what turns nothing but an elder row. -/
theorem Held.outlive {k : IntKind} {w w' : World} {v u : Value} {xs : List Int} {B : Nat} (h : Held k w v xs) (hs : w.heap.size ≤ w'.heap.size) (hf : Fresh B v) (hu : ∀ g, u.ownBlock = some g → g < B)
    (hk : ∀ g, g < w.heap.size → u.ownBlock ≠ some g → w'.heap[g]? = w.heap[g]?) : Held k w' v xs :=
  h.kept hs fun a n c e hlt => hk _ hlt fun e2 => by have := hu _ e2; have := hf a n c e; omega
end Go.Proofs.Ytgoeacmpphmnoaa
