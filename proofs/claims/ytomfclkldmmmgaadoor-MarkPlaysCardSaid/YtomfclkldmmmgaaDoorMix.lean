/- Regions that draw their order, some of whose operations write: one walk of the order of the text serves all orders, where each operation has one value, and what it does to the world is told by which operations are done. Of no program. -/
import Derived.Test.YtomfclkldmmmgaaDoorGrow
namespace Go.Proofs.YtomfclkldmmmgaaDoor
open Go.RowKit Go.ChangeShapes Go.WideShapes
namespace Mix
/-- What an operation that was carried out has left: its value, and a world of the class. -/
def upon (P : Program) (C : World → Prop) (v : Value) : Result Next → Prop
  | .ok (.value u) w' => C w' ∧ u = v
  | .ok .skip w' => C w' ∧ v = undef
  | .ok (.enter f args) w' => Calls P f args w' (fun e w'' => e = .returned v ∧ C w'')
  | _ => False
section
variable (P : Program) (ops : Array Oper) (CL : Array Bool → World → Prop)
/-- Operation i has the value v, whichever of the others are done that it need not wait for. -/
def Gives (i : Nat) (o : Oper) (v : Value) (a : Act) : Prop :=
  (Region.wanted o (yielded ops a.tmps) = true ∧ ∀ L w, L.size = ops.size → i ∈ Region.ready .any ops L → CL L w → upon P (CL (L.setIfInBounds i true)) v ((execOp a.eval o).run P w)) ∨
  (Region.wanted o (yielded ops a.tmps) = false ∧ v = undef ∧ ∀ L w, L.size = ops.size → i ∈ Region.ready .any ops L → CL L w → CL (L.setIfInBounds i true) w)
def At (i : Nat) (K : Act → Prop) (a : Act) : Prop := ∃ o v, ops[i]? = some o ∧ Gives P ops CL i o v a ∧ K (a.put o.dst v)
def Any (Q : Act → Prop) : Nat → Array Bool → Act → Prop
  | 0, L, a => Region.ready .any ops L = [] ∧ Q a
  | f + 1, L, a => (Region.ready .any ops L = [] → Q a) ∧ ∀ i ∈ Region.ready .any ops L, At P ops CL i (Any Q f (L.setIfInBounds i true)) a
def Walk (Q : Act → Prop) : List Oper → Nat → Act → Prop
  | [], _, a => Q a
  | o :: rest, k, a => ∃ v, Gives P ops CL k o v a ∧ Walk Q rest (k + 1) (a.put o.dst v)
end
section
variable {P : Program} {ops : Array Oper} {CL : Array Bool → World → Prop}
theorem At.mono {i : Nat} {K K' : Act → Prop} {a : Act} (h : ∀ a, K a → K' a) (hh : At P ops CL i K a) : At P ops CL i K' a := by
  obtain ⟨o, v, ho, hy, hk⟩ := hh
  exact ⟨o, v, ho, hy, h _ hk⟩
theorem Gives.same {i : Nat} {o : Oper} {v : Value} {a a' : Act} (h : Gives P ops CL i o v a) (he : execOp a'.eval o = execOp a.eval o) (hw : Region.wanted o (yielded ops a'.tmps) = Region.wanted o (yielded ops a.tmps)) : Gives P ops CL i o v a' := by
  unfold Gives at *
  rw [he, hw]
  exact h
theorem wpOp_of {i : Nat} {L : Array Bool} {a : Act} {w : World} {K : Act → Prop} {K' : Act → World → Prop} {Q' : Exit → Act → World → Prop} (hL : L.size = ops.size) (hr : i ∈ Region.ready .any ops L) (hC : CL L w)
    (h : ∀ a w', CL (L.setIfInBounds i true) w' → K a → K' a w') (hh : At P ops CL i K a) : wpOp P ops Q' i K' a w := by
  obtain ⟨o, v, ho, hy, hk⟩ := hh
  unfold wpOp
  simp only [ho]
  rcases hy with ⟨hw, hv⟩ | ⟨hw, rfl, hv⟩
  · rw [if_pos hw]
    refine .inl ?_
    have h3 := hv L w hL hr hC
    unfold Oper.wp
    generalize (execOp a.eval o).run P w = r at *
    cases r with
    | halt x w' => exact h3.elim
    | ok n w' =>
      cases n <;> simp only [upon] at h3 <;> simp only [Oper.upon]
      case value u =>
        obtain ⟨h4, rfl⟩ := h3
        exact h _ _ h4 hk
      case skip =>
        obtain ⟨h4, rfl⟩ := h3
        exact h _ _ h4 hk
      case enter f args =>
        exact h3.mono fun e w'' ⟨he, hw''⟩ => by subst he; exact h _ _ hw'' hk
  · rw [if_neg (by rw [hw]; exact Bool.false_ne_true)]
    exact h _ _ (hv L w hL hr hC) hk
theorem any_sound {Q : Act → Prop} {Q' : Exit → Act → World → Prop} (hQ : ∀ L a w, L.size = ops.size → Region.ready .any ops L = [] → CL L w → Q a → Q' .normal a w) :
    ∀ (f : Nat) (L : Array Bool) (a : Act) (w : World), L.size = ops.size → CL L w → Any P ops CL Q f L a → wpAny P .any ops Q' f L a w := by
  intro f
  induction f with
  | zero => exact fun L a w hs hC h => ⟨h.1, hQ L a w hs h.1 hC h.2⟩
  | succ f ih =>
    exact fun L a w hs hC h => ⟨fun h0 => hQ L a w hs h0 hC (h.1 h0), fun i hi => wpOp_of hs hi hC (fun a' w' hC' hK => ih _ a' w' (by simpa using hs) hC' hK) (h.2 i hi)⟩
/-- Operation i, taken ahead of j, which it has nothing to do with. -/
theorem At.swap {i j : Nat} {oi oj : Oper} {v : Value} {K : Act → Prop} {a : Act} (hj : ops[j]? = some oj) (hap : oi.apart ops oj = true) (hsi : ∀ cs b, oi.op ≠ .select cs b) (hsj : ∀ cs b, oj.op ≠ .select cs b)
    (hy : Gives P ops CL i oi v a) (h : At P ops CL j K (a.put oi.dst v)) : At P ops CL j (fun a' => Gives P ops CL i oi v a' ∧ K (a'.put oi.dst v)) a := by
  obtain ⟨p1, p2, p3⟩ := Oper.apart_spec hap
  obtain ⟨o, u, ho, hg, hk⟩ := h
  obtain rfl : o = oj := Option.some.inj (ho.symm.trans hj)
  refine ⟨o, u, ho, hg.same (execOp_put o hsj a oi.dst v p1).symm (wanted_put o a oi.dst v p1).symm, ?_, ?_⟩
  · exact hy.same (execOp_put oi hsi a o.dst u p3) (wanted_put oi a o.dst u p3)
  · rw [← Act.put_comm a v u p2]
    exact hk
theorem Any.first {Q : Act → Prop} {i : Nat} {oi : Oper} {v : Value} (hi : ops[i]? = some oi) (hsel : ∀ (j : Nat) (o : Oper) cs b, ops[j]? = some o → o.op ≠ .select cs b) :
    ∀ (f : Nat) (L : Array Bool) (a : Act),
      (∀ j oj, ops[j]? = some oj → j ≠ i → L.getD j true = false → (∀ e ∈ oj.after, Region.binds .any e = true → e.on ≠ i) → oi.apart ops oj = true) →
      i ∈ Region.ready .any ops L → Gives P ops CL i oi v a → Any P ops CL Q f (L.setIfInBounds i true) (a.put oi.dst v) → Any P ops CL Q (f + 1) L a := by
  intro f
  induction f with
  | zero =>
    intro L a _ hr hy H
    refine ⟨fun h => (by rw [h] at hr; cases hr), fun j hj => ?_⟩
    rcases Nat.decEq j i with hji | hji
    · have := ready_mono hj hji
      rw [H.1] at this
      cases this
    · subst hji
      exact ⟨oi, v, hi, hy, H⟩
  | succ f ih =>
    intro L a hfree hr hy H
    refine ⟨fun h => (by rw [h] at hr; cases hr), fun j hj => ?_⟩
    rcases Nat.decEq j i with hji | hji
    · obtain ⟨hun, oj, hoj, hall⟩ := mem_ready.1 hj
      obtain ⟨hiu, _⟩ := mem_ready.1 hr
      have hno : ∀ e ∈ oj.after, Region.binds .any e = true → e.on ≠ i := by
        intro e he hb heq
        have h1 := hall e he hb
        rw [heq] at h1
        rcases Nat.lt_or_ge i L.size with h' | h'
        · simp [h'] at hiu h1
          rw [hiu] at h1
          cases h1
        · simp [Array.getElem?_eq_none h'] at h1
      have h2 := At.swap hoj (hfree j oj hoj hji hun hno) (fun cs b => hsel i oi cs b hi) (fun cs b => hsel j oj cs b hoj) hy (H.2 j (ready_mono hj hji))
      refine h2.mono fun a' h3 => ih (L.setIfInBounds j true) a' (fun k ok hk hki hu hn => ?_) (ready_mono hr (Ne.symm hji)) h3.1 ?_
      · refine hfree k ok hk hki ?_ hn
        by_cases hjk : j = k
        · subst hjk; exact hun
        · rw [getD_set_ne true hjk] at hu; exact hu
      · rw [Array.setIfInBounds_comm _ _ hji]
        exact h3.2
    · subst hji
      exact ⟨oi, v, hi, hy, H⟩
theorem Any.lex {Q : Act → Prop} (hs : Region.noSelect ops = true) : ∀ (l : List Oper) (k : Nat) (L : Array Bool) (a : Act), (∀ j, l[j]? = ops[k + j]?) →
    Region.lexFrom .any ops l.length k L = true → Walk P ops CL Q l k a → Any P ops CL Q l.length L a := by
  intro l
  induction l with
  | nil => exact fun k L a _ hB h => ⟨by simpa [Region.lexFrom] using hB, h⟩
  | cons o l ih =>
    intro k L a hl hB h
    have h0 : ops[k]? = some o := by simpa using (hl 0).symm
    simp only [List.length_cons, Region.lexFrom, Bool.and_eq_true] at hB
    obtain ⟨⟨hr, hf⟩, hB'⟩ := hB
    obtain ⟨v, hy, hK⟩ := h
    exact Any.first h0 (Region.noSelect_spec hs) l.length L a (Region.free_spec h0 hf) (by simpa using hr) hy
      (ih (k + 1) _ _ (fun j => by have := hl (j + 1); simpa [Nat.add_assoc, Nat.add_comm 1 j] using this) hB' hK)
end
theorem all_listed {l : List Oper} {L : Array Bool} (hlow : lowB (l ++ [default]) l.length = true) (hs : L.size = l.length) (h : Region.ready .any l.toArray L = []) : L = Array.replicate l.length true := by
  have h0 : ∀ i, i < l.length → L.getD i true = true := by
    intro i
    induction i using Nat.strongRecOn with
    | _ i ih =>
      intro hi
      cases hl : L.getD i true with
      | true => rfl
      | false =>
        exfalso
        have ho : l[i]? = some l[i] := List.getElem?_eq_getElem hi
        have ho' : (l ++ [default])[i]? = some l[i] := by rw [List.getElem?_append_left hi]; exact ho
        have hm : i ∈ Region.ready .any l.toArray L := by
          refine mem_ready.2 ⟨hl, l[i], by simp, fun e he hb => ?_⟩
          have hlt := (low_at hlow hi ho').1 e he hb
          have := ih e.on hlt (by omega)
          rw [getD_any (by omega)]
          exact this
        rw [h] at hm
        cases hm
  apply Array.ext
  · simp [hs]
  · intro i h1 h2
    have := h0 i (by omega)
    rw [Array.getD_eq_getD_getElem?, Array.getElem?_eq_getElem h1] at this
    simpa using this
/-- A REGION WHOSE OPERATIONS MAY WRITE, WALKED ONCE. -/
theorem region {P : Program} {id : Nat} {Q : Exit → Act → World → Prop} {a : Act} {w : World} {l : List Oper} (CL : Array Bool → World → Prop) (hm : P.follows .mixedOrders = true) (hB : Region.lexB .any l.toArray = true) (hlow : lowB (l ++ [default]) l.length = true)
    (hC : CL (Array.replicate l.length false) { w with drawn := w.drawn + 1 }) (h : Walk P l.toArray CL (fun a' => ∀ w', CL (Array.replicate l.length true) w' → Q .normal a' w') l 0 a) : (Code.region id l.toArray true).wp P Q a w := by
  simp only [Region.lexB, Bool.and_eq_true] at hB
  refine wp_region_any hm ?_
  have := Any.lex (CL := CL) hB.1 l 0 (Array.replicate l.toArray.size false) a (by simp) (by simpa using hB.2) h
  refine any_sound (Q := fun a' => ∀ w', CL (Array.replicate l.length true) w' → Q .normal a' w') (fun L a' w' hs hr hC' hq => ?_) _ _ _ _ (by simp) (by simpa using hC) (by simpa using this)
  rw [all_listed hlow (by simpa using hs) hr] at hC'
  exact hq w' hC'
section
variable {P : Program} {ops : Array Oper} {CL : Array Bool → World → Prop} {Q : Act → Prop}
theorem walk_nil {k : Nat} {a : Act} (h : Q a) : Walk P ops CL Q [] k a := h
theorem walk_skip {k : Nat} {a : Act} {o : Oper} {rest : List Oper} (hw : Region.wanted o (yielded ops a.tmps) = false) (hk : ∀ L w, CL L w → CL (L.setIfInBounds k true) w) (h : Walk P ops CL Q rest (k + 1) (a.put o.dst undef)) : Walk P ops CL Q (o :: rest) k a :=
  ⟨undef, .inr ⟨hw, rfl, fun L w _ _ hC => hk L w hC⟩, h⟩
theorem walk_do {k : Nat} {a : Act} {o : Oper} {rest : List Oper} (v : Value) (hw : Region.wanted o (yielded ops a.tmps) = true)
    (hv : ∀ L w, L.size = ops.size → k ∈ Region.ready .any ops L → CL L w → upon P (CL (L.setIfInBounds k true)) v ((execOp a.eval o).run P w)) (h : Walk P ops CL Q rest (k + 1) (a.put o.dst v)) : Walk P ops CL Q (o :: rest) k a :=
  ⟨v, .inl ⟨hw, hv⟩, h⟩
/-- May this operation do more than read and reckon? -/
def calls (o : Oper) : Bool := match o.op with | .move _ | .assign _ | .load _ _ | .binOp _ _ _ _ _ | .unOp _ _ _ | .convert _ _ _ | .slice _ _ _ _ _ | .fieldAddr _ _ _ | .field _ _ _ | .indexAddr _ _ _ | .index _ _ _ | .extract _ _ | .build _ _ | .makeInterface _ _ | .pick _ _ _ => false | _ => true
theorem value_run {α : Type} (s : Sem α) (g : α → Value) {w w' : World} {f : FuncId} {args : Array Value} : (s >>= fun x => (pure (Next.value (g x)) : Sem Next)).run P w ≠ .ok (.enter f args) w' := by
  rw [Sem.run_bind]
  cases s.run P w with
  | ok x w1 => simp [Result.andThen, Sem.run_pure]
  | halt x w1 => simp [Result.andThen]
theorem not_enter {o : Oper} {ρ : Operand → Value} {w w' : World} {f : FuncId} {args : Array Value} (h : calls o = false) : (execOp ρ o).run P w ≠ .ok (.enter f args) w' := by
  unfold calls at h
  unfold execOp
  split at h
  case h_16 => cases h
  all_goals
    rename_i ho
    simp only [ho]
    first
      | exact value_run _ (fun x => x)
      | exact value_run (asBool _) (fun x => if x = true then ρ _ else ρ _)
      | (rw [Sem.run_pure]; intro h; cases h)
/-- A world of the class, whichever operations are done. -/
structure Spot (CL : Array Bool → World → Prop) where
  listed : Array Bool
  to : World
  ok : CL listed to
def Spot.wld (s : Spot CL) : World := s.to
theorem walk_one {k : Nat} {a : Act} {o : Oper} {rest : List Oper} (hc : calls o = false) (hk : ∀ L w, CL L w → CL (L.setIfInBounds k true) w)
    (h : wpQuiet P ops (fun w => ∃ s : Spot CL, w = s.wld) (fun a' => Walk P ops CL Q rest (k + 1) a') [o] a) : Walk P ops CL Q (o :: rest) k a := by
  unfold wpQuiet at h
  split at h
  · rename_i hw
    obtain ⟨v, h1, h2⟩ := h
    refine ⟨v, .inl ⟨hw, fun L w _ _ hC => ?_⟩, h2⟩
    have h3 := h1 w ⟨⟨L, w, hC⟩, rfl⟩
    unfold Oper.quietAt at h3
    have hne := fun f args w' => not_enter (P := P) (ρ := a.eval) (w := w) (w' := w') (f := f) (args := args) hc
    generalize (execOp a.eval o).run P w = r at *
    cases r with
    | halt x w' => exact h3.elim
    | ok n w' =>
      cases n <;> simp only [Oper.quietUpon] at h3 <;> simp only [upon]
      case value u => exact ⟨by rw [h3.1]; exact hk _ _ hC, h3.2⟩
      case skip => exact ⟨by rw [h3.1]; exact hk _ _ hC, h3.2⟩
      case enter f args => exact absurd rfl (hne f args w')
  · rename_i hw
    exact ⟨undef, .inr ⟨by simpa using hw, rfl, fun L w _ _ hC => hk L w hC⟩, h⟩
theorem walk_run (m : Nat) : ∀ {l : List Oper} {k : Nat} {a : Act}, ((l.take m).all fun o => !calls o) = true → (∀ i L w, k ≤ i → i < k + m → CL L w → CL (L.setIfInBounds i true) w) →
    wpQuiet P ops (fun w => ∃ s : Spot CL, w = s.wld) (fun a' => Walk P ops CL Q (l.drop m) (k + m) a') (l.take m) a → Walk P ops CL Q l k a := by
  induction m with
  | zero => intro l k a _ _ h; simpa [wpQuiet] using h
  | succ m ih =>
    intro l k a hc hk h
    cases l with
    | nil =>
      have h : Walk P ops CL Q [] (k + (m + 1)) a := by simpa [wpQuiet] using h
      exact h
    | cons o l =>
      simp only [List.take_succ_cons, List.all_cons, Bool.and_eq_true, Bool.not_eq_true'] at hc
      refine walk_one hc.1 (fun L w hC => hk k L w (Nat.le_refl _) (by omega) hC) ?_
      have ih' := fun a' => ih (l := l) (k := k + 1) (a := a') hc.2 (fun i L w h1 h2 => hk i L w (by omega) (by omega))
      simp only [List.take_succ_cons, List.drop_succ_cons, show k + (m + 1) = k + 1 + m by omega] at h
      unfold wpQuiet at h ⊢
      split
      · rename_i hw
        rw [if_pos hw] at h
        exact Oper.quiet_mono (fun a' h' => ih' a' h') h
      · rename_i hw
        rw [if_neg hw] at h
        exact ih' _ h
end
theorem put_lit (l : List Value) (d : List Deferred) (n : Nat) (v : Value) : (Act.mk l.toArray d).put (some n) v = ⟨(l.set n v).toArray, d⟩ := by
  unfold Act.put
  simp
/-- Is operation i done? As a number. -/
def one (L : Array Bool) (i : Nat) : Nat := if L.getD i false = true then 1 else 0
theorem one_ne {L : Array Bool} {i j : Nat} (h : i ≠ j) : one (L.setIfInBounds i true) j = one L j := by
  unfold one
  rw [getD_set_ne false h]
theorem one_set {L : Array Bool} {i : Nat} (h : i < L.size) : one (L.setIfInBounds i true) i = 1 := by
  unfold one
  rw [Array.getD_eq_getD_getElem?, Array.getElem?_setIfInBounds_self_of_lt h]
  rfl
theorem one_ready {P : Array Oper} {L : Array Bool} {i : Nat} (h : i ∈ Region.ready .any P L) : one L i = 0 := by
  unfold one
  have h0 := (mem_ready.1 h).1
  rcases Nat.lt_or_ge i L.size with h' | h'
  · rw [getD_any h', h0]; rfl
  · rw [Array.getD_eq_getD_getElem?, Array.getElem?_eq_none h'] at h0
    cases h0
theorem one_un {L : Array Bool} {i : Nat} (h : L.getD i false = false) : one L i = 0 := by
  unfold one
  rw [h]; rfl
theorem one_none (n i : Nat) : one (Array.replicate n false) i = 0 := by
  unfold one
  rw [getD_replicate_false]
  rfl
theorem one_all {n i : Nat} (h : i < n) : one (Array.replicate n true) i = 1 := by
  unfold one
  rw [Array.getD_eq_getD_getElem?, Array.getElem?_replicate, if_pos h]
  rfl
end Mix
end Go.Proofs.YtomfclkldmmmgaaDoor
