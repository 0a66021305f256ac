/- A struct or an array that fills a block: loaded and stored whole. Of no program. -/
import Derived.Test.YtomfclkldmmmgaaDoorObj
import Derived.Test.YtomfclkldmmmgaaDoorAid
import Derived.Deep.MidRow
import Derived.Laws.Rows
namespace Go.Proofs.YtomfclkldmmmgaaDoor
open Go.RowKit Go.ChangeShapes Go.WideShapes
theorem But.drew {g B : Nat} {w w' : World} (h : But g B w w') : But g B w w'.drew := ⟨h.os, h.tape, h.output, h.size, h.block⟩
theorem has_setCells (g : Nat) (t : TypeId) : ∀ (vs pre old : List Value) (w : World), Has w g (pre ++ old) t → old.length = vs.length → Has (w.setCells g pre.length vs) g (pre ++ vs) t
  | [], pre, old, w, h, hl => by
    have : old = [] := List.eq_nil_of_length_eq_zero hl
    subst this
    exact h
  | v :: vs, pre, old, w, h, hl => by
    cases old with
    | nil => simp at hl
    | cons o old =>
      have h1 := h.set pre.length v
      rw [List.set_append_right _ _ (Nat.le_refl _), Nat.sub_self, List.set_cons_zero] at h1
      have h2 := has_setCells g t vs (pre ++ [v]) old (w.setCell ⟨g, pre.length, none⟩ v) (by simpa using h1) (by simpa using hl)
      simpa [World.setCells] using h2
theorem but_setCells (g B : Nat) (w : World) : ∀ (vs : List Value) (o : Nat) (w' : World), But g B w w' → But g B w (w'.setCells g o vs)
  | [], _, _, h => h
  | v :: vs, o, w', h => but_setCells g B w vs (o + 1) _ (h.set o v)
theorem has_there {w : World} {g : Nat} {C : List Value} {t : TypeId} (h : Has w g C t) (n : Nat) (hn : n ≤ C.length) : w.there g 0 n := fun j hj => by
  rw [Nat.zero_add, h.cell j (C[j]'(by omega)) (List.getElem?_eq_getElem _)]
  exact ⟨rfl, h.free j⟩
section
variable {P : Program}
/-- 'x := *p', of a struct or an array that fills its block. -/
theorem wpList_load_has {ops : Array Oper} {rest : List Oper} {o : Oper} {a : Act} {w : World} {Q : Exit → Act → World → Prop} (hgd : o.guard = none) (ty : TypeId) (x : Operand) (ho : o.op = .load ty x)
    (g : Nat) (hx : a.eval x = .pointer (some ⟨g, 0, none⟩)) (t : TypeId) (C : List Value) (d : TypeDesc) (n : Nat) (hg : Has w g C t)
    (hu : P.underlying ty = some d) (hd : (match d with | .struct _ | .array _ _ => true | _ => false) = true) (hi : (P.info? ty).map (·.size) = some n) (hn : C.length = n)
    (h : wpList P ops Q rest (a.put o.dst (.agg C.toArray)) w) : wpList P ops Q (o :: rest) a w :=
  wpList_load_row hgd ty x ho g hx t C.toArray (0, 0) d hg hu hd (by rw [hi]; simp [hn]) h
/-- '*p = x'. -/
theorem wpList_store_has {ops : Array Oper} {rest : List Oper} {o : Oper} {a : Act} {w : World} {Q : Exit → Act → World → Prop} (hgd : o.guard = none) (ty : TypeId) (x y : Operand) (ho : o.op = .store ty x y)
    (g : Nat) (hx : a.eval x = .pointer (some ⟨g, 0, none⟩)) (t : TypeId) (old C : List Value) (n : Nat) (hy : a.eval y = .agg C.toArray) (hg : Has w g old t)
    (hi : (P.info? ty).map (·.size) = some n) (ho' : old.length = n) (hn : C.length = n) (h1 : ∀ v ∈ C, v.oneCell' = true)
    (h : ∀ w', Has w' g C t → But g w.heap.size w w' → wpList P ops Q rest (a.put o.dst undef) w') : wpList P ops Q (o :: rest) a w := by
  refine wpList_store_mid hgd ty x y ho g 0 C.toArray hx hy (has_there hg _ (by simp; omega)) (by rw [hi]; simp [hn]) (all_oneCell_toArray h1) ?_
  have h2 := has_setCells g t C [] old w hg (by omega)
  exact h _ (by simpa using h2) (but_setCells g w.heap.size w C 0 w (But.refl _ _ _))
theorem exec_load_has {ρ : Operand → Value} {o : Oper} {w : World} {ty : TypeId} {x : Operand} (ho : o.op = .load ty x) {g : Nat} (hx : ρ x = .pointer (some ⟨g, 0, none⟩)) {t : TypeId} {C : List Value} {d : TypeDesc} {n : Nat} (hg : Has w g C t)
    (hu : P.underlying ty = some d) (hd : (match d with | .struct _ | .array _ _ => true | _ => false) = true) (hi : (P.info? ty).map (·.size) = some n) (hn : C.length = n) : (execOp ρ o).run P w = .ok (.value (.agg C.toArray)) w := by
  unfold execOp
  simp only [ho, hx, Instr.loadAt, Instr.sureAddr, Sem.run_bind, Sem.run_pure, Result.andThen_ok, run_loadVar_row w g t ty C.toArray (0, 0) d hg hu hd (by rw [hi]; simp [hn])]
theorem results_has {fn : Func} {p : Tmp} {ty : TypeId} (h : fn.results = #[.cell p ty]) (tmps : Array Value) (w : World) (g : Nat) (t : TypeId) (C : List Value) (d : TypeDesc) (n : Nat)
    (hp : tmps.getD p undef = .pointer (some ⟨g, 0, none⟩)) (hg : Has w g C t)
    (hu : P.underlying ty = some d) (hd : (match d with | .struct _ | .array _ _ => true | _ => false) = true) (hi : (P.info? ty).map (·.size) = some n) (hn : C.length = n) :
    (results fn tmps).run P w = .ok (.agg C.toArray) w :=
  results_cell_row h tmps w g t C.toArray (0, 0) d hp hg hu hd (by rw [hi]; simp [hn])
end
end Go.Proofs.YtomfclkldmmmgaaDoor
