/- Regions that draw their order, where an operation may do what those behind it do not know of: what it may do (X) is told by the operation, and a value must outlast it only if its operation doesn't wait for this one. Of no program. -/
import Derived.Test.YtomfclkldmmmgaaDoorReg
namespace Go.Proofs.YtomfclkldmmmgaaDoor
open Go.RowKit Go.ChangeShapes Go.WideShapes
namespace RegX
open Reg (upon upd Closed reach frame dsts apartB frame_at frame_start unlisted_all head_set head_at head_zero head_all head_ready)
/-- A region's plan. -/
structure Plan where
  F : (Nat → Value) → Act
  E : Nat → Value → World → Prop
  C : Array Bool → World → Prop
  Ext : Nat → World → World → Prop
/-- What is known when operation i comes up. -/
structure Here (p : Plan) (l : List Oper) (xs0 : Nat → Value) (i : Nat) (L : Array Bool) (w : World) (xs : Nat → Value) : Prop where
  size : L.size = l.length
  closed : Closed l L
  ready : i ∈ Region.ready .any l.toArray L
  cls : p.C L w
  vals : ∀ j, j < l.length → L.getD j false = true → p.E j (xs j) w
  olds : ∀ j, L.getD j false = false → xs j = xs0 j
theorem Here.dep {p : Plan} {l : List Oper} {xs0 : Nat → Value} {i : Nat} {L : Array Bool} {w : World} {xs : Nat → Value} (h : Here p l xs0 i L w xs) (j : Nat) (hj : reach l.toArray 6 i j = true) : L.getD j false = true := by
  obtain ⟨_, o, ho, hall⟩ := mem_ready.1 h.ready
  unfold reach at hj
  rw [Bool.or_eq_true] at hj
  rcases hj with hj | hj
  · obtain ⟨o', ho', e, he, hb, hon⟩ := Region.waitsFor_spec hj
    obtain rfl : o = o' := Option.some.inj (ho.symm.trans ho')
    rw [← hon]
    exact hall e he hb
  · rw [ho] at hj
    obtain ⟨e, he, hb⟩ := Array.any_eq_true'.1 hj
    rw [Bool.and_eq_true] at hb
    exact h.closed.reach 5 e.on j (hall e he hb.1) hb.2
theorem Here.val {p : Plan} {l : List Oper} {xs0 : Nat → Value} {i : Nat} {L : Array Bool} {w : World} {xs : Nat → Value} (h : Here p l xs0 i L w xs) (j : Nat) (hj : reach l.toArray 6 i j = true) (hl : decide (j < l.length) = true) : p.E j (xs j) w :=
  h.vals j (of_decide_eq_true hl) (h.dep j hj)
theorem Here.un {p : Plan} {l : List Oper} {xs0 : Nat → Value} {i : Nat} {L : Array Bool} {w : World} {xs : Nat → Value} (h : Here p l xs0 i L w xs) : Mix.one L i = 0 := Mix.one_ready h.ready
theorem Here.isDone {p : Plan} {l : List Oper} {xs0 : Nat → Value} {i : Nat} {L : Array Bool} {w : World} {xs : Nat → Value} (h : Here p l xs0 i L w xs) (j : Nat) (hj : reach l.toArray 6 i j = true) : Mix.one L j = 1 := by
  unfold Mix.one
  rw [if_pos (h.dep j hj)]
/-- What waits for this operation is not done. -/
theorem Here.notYet {p : Plan} {l : List Oper} {xs0 : Nat → Value} {i : Nat} {L : Array Bool} {w : World} {xs : Nat → Value} (h : Here p l xs0 i L w xs) (j : Nat) (hj : reach l.toArray 6 j i = true) : L.getD j false = false := by
  cases hl : L.getD j false with
  | false => rfl
  | true =>
    have h1 := h.closed.reach 6 j i hl hj
    have h2 := (mem_ready.1 h.ready).1
    obtain ⟨o', ho', _⟩ := (mem_ready.1 h.ready).2
    have hlt : i < l.length := by simpa using (Array.getElem?_eq_some_iff.1 ho').1
    rw [getD_any (by rw [h.size]; exact hlt), h2] at h1
    cases h1
theorem Here.old {p : Plan} {l : List Oper} {xs0 : Nat → Value} {i : Nat} {L : Array Bool} {w : World} {xs : Nat → Value} (h : Here p l xs0 i L w xs) (j : Nat) (hj : reach l.toArray 6 j i = true) : xs j = xs0 j := h.olds j (h.notYet j hj)
/-- Operation i goes through. -/
def Step (P : Program) (p : Plan) (l : List Oper) (xs0 : Nat → Value) (i : Nat) (o : Oper) : Prop :=
  ∀ L w xs, Here p l xs0 i L w xs →
    (Region.wanted o (yielded l.toArray (p.F xs).tmps) = true ∧ upon P (fun v w' => p.C (L.setIfInBounds i true) w' ∧ p.E i v w' ∧ p.Ext i w w') ((execOp (p.F xs).eval o).run P w)) ∨
    (Region.wanted o (yielded l.toArray (p.F xs).tmps) = false ∧ p.C (L.setIfInBounds i true) w ∧ p.E i undef w)
def Steps (P : Program) (p : Plan) (l : List Oper) (xs0 : Nat → Value) : List Oper → Nat → Prop
  | [], _ => True
  | o :: rest, i => Step P p l xs0 i o ∧ Steps P p l xs0 rest (i + 1)
/-- Each operation's slot is its own. -/
def Puts (p : Plan) : List Oper → Nat → Prop
  | [], _ => True
  | o :: rest, i => (∀ xs v, (p.F xs).put o.dst v = p.F (upd xs i v)) ∧ Puts p rest (i + 1)
theorem puts_at {p : Plan} : ∀ (m : List Oper) (k : Nat), Puts p m k → ∀ j o, m[j]? = some o → ∀ xs v, (p.F xs).put o.dst v = p.F (upd xs (k + j) v)
  | [], _, _, j, o, h => by simp at h
  | q :: m, k, hs, j, o, h => by
    cases j with
    | zero => simp at h; subst h; exact hs.1
    | succ j =>
      have := puts_at m (k + 1) hs.2 j o (by simpa using h)
      rwa [show k + 1 + j = k + (j + 1) by omega] at this
theorem steps_at {P : Program} {p : Plan} {l : List Oper} {xs0 : Nat → Value} : ∀ (m : List Oper) (k : Nat), Steps P p l xs0 m k → ∀ j o, m[j]? = some o → Step P p l xs0 (k + j) o
  | [], _, _, j, o, h => by simp at h
  | q :: m, k, hs, j, o, h => by
    cases j with
    | zero => simp at h; subst h; exact hs.1
    | succ j =>
      have := steps_at m (k + 1) hs.2 j o (by simpa using h)
      rwa [show k + 1 + j = k + (j + 1) by omega] at this
section
variable {P : Program} {l : List Oper} {p : Plan} {xs0 : Nat → Value}
/-- The plan holds so far. -/
def Inv (p : Plan) (l : List Oper) (xs0 : Nat → Value) (L : Array Bool) (a : Act) (w : World) : Prop := ∃ xs, a = p.F xs ∧ L.size = l.length ∧ Closed l L ∧ p.C L w ∧ (∀ j, j < l.length → L.getD j false = true → p.E j (xs j) w) ∧ ∀ j, L.getD j false = false → xs j = xs0 j
theorem Inv.next {L : Array Bool} {w w' : World} {xs : Nat → Value} {i : Nat} {o : Oper} {v : Value} (hput : ∀ i o, l[i]? = some o → ∀ xs v, (p.F xs).put o.dst v = p.F (upd xs i v)) (ho : l[i]? = some o) (hs : L.size = l.length) (hc : Closed l (L.setIfInBounds i true))
    (hv : ∀ j, j < l.length → L.getD j false = true → p.E j (xs j) w) (hold : ∀ j, L.getD j false = false → xs j = xs0 j) (hC : p.C (L.setIfInBounds i true) w') (hE : p.E i v w') (hx : ∀ j, j ≠ i → L.getD j false = true → p.E j (xs j) w → p.E j (xs j) w') : Inv p l xs0 (L.setIfInBounds i true) ((p.F xs).put o.dst v) w' := by
  refine ⟨upd xs i v, hput i o ho xs v, by simpa using hs, hc, hC, fun j hj hl => ?_, fun j hl => ?_⟩
  · unfold upd
    by_cases h : j = i
    · subst h
      rw [if_pos rfl]; exact hE
    · rw [if_neg h]
      rw [getD_set_ne false (Ne.symm h)] at hl
      exact hx j h hl (hv j hj hl)
  · unfold upd
    by_cases h : j = i
    · subst h
      have hlt : j < L.size := by rw [hs]; exact (List.getElem?_eq_some_iff.1 ho).1
      rw [Array.getD_eq_getD_getElem?, Array.getElem?_setIfInBounds_self_of_lt hlt] at hl
      cases hl
    · rw [if_neg h]
      rw [getD_set_ne false (Ne.symm h)] at hl
      exact hold j hl
theorem wpOp_of {L : Array Bool} {a : Act} {w : World} {i : Nat} {K' : Act → World → Prop} {Q' : Exit → Act → World → Prop} (hput : ∀ i o, l[i]? = some o → ∀ xs v, (p.F xs).put o.dst v = p.F (upd xs i v)) (hstab : ∀ i j x w w', reach l.toArray 6 j i = false → p.Ext i w w' → p.E j x w → p.E j x w') (hst : Steps P p l xs0 l 0) (hI : Inv p l xs0 L a w) (hr : i ∈ Region.ready .any l.toArray L)
    (h : ∀ a' w', Inv p l xs0 (L.setIfInBounds i true) a' w' → K' a' w') : wpOp P l.toArray Q' i K' a w := by
  obtain ⟨xs, rfl, hs, hcl, hC, hv, hold⟩ := hI
  have hcn := hcl.next hr
  obtain ⟨_, o, ho, _⟩ := mem_ready.1 hr
  have ho' : l[i]? = some o := by simpa using ho
  have hkeep : ∀ {w' : World}, p.Ext i w w' → ∀ j, j ≠ i → L.getD j false = true → p.E j (xs j) w → p.E j (xs j) w' := fun hx j _ hl hE => by
    cases hre : reach l.toArray 6 j i with
    | false => exact hstab i j _ _ _ hre hx hE
    | true =>
      have h1 := hcl.reach 6 j i hl hre
      have h2 := (mem_ready.1 hr).1
      have hlt : i < l.length := (List.getElem?_eq_some_iff.1 ho').1
      rw [getD_any (by rw [hs]; exact hlt), h2] at h1
      cases h1
  have hstep := steps_at l 0 hst i o ho'
  rw [Nat.zero_add] at hstep
  unfold wpOp
  simp only [ho]
  rcases hstep L w xs ⟨hs, hcl, hr, hC, hv, hold⟩ with ⟨hw, hu⟩ | ⟨hw, hC', hE⟩
  · rw [if_pos hw]
    refine .inl ?_
    unfold Oper.wp
    generalize (execOp (p.F xs).eval o).run P w = r at *
    cases r with
    | halt x w' => exact hu.elim
    | ok n w' =>
      cases n <;> simp only [upon] at hu <;> simp only [Oper.upon]
      case value u =>
        obtain ⟨h1, h2, h3⟩ := hu
        exact h _ _ (Inv.next hput ho' hs hcn hv hold h1 h2 (hkeep h3))
      case skip =>
        obtain ⟨h1, h2, h3⟩ := hu
        exact h _ _ (Inv.next hput ho' hs hcn hv hold h1 h2 (hkeep h3))
      case enter f args =>
        exact hu.mono fun e w'' ⟨v, he, h1, h2, h3⟩ => by
          subst he
          exact h _ _ (Inv.next hput ho' hs hcn hv hold h1 h2 (hkeep h3))
  · rw [if_neg (by rw [hw]; exact Bool.false_ne_true)]
    exact h _ _ (Inv.next hput ho' hs hcn hv hold hC' hE fun _ _ _ h => h)
theorem any_of {Q' : Exit → Act → World → Prop} (hlow : lowB (l ++ [default]) l.length = true) (hput : ∀ i o, l[i]? = some o → ∀ xs v, (p.F xs).put o.dst v = p.F (upd xs i v)) (hstab : ∀ i j x w w', reach l.toArray 6 j i = false → p.Ext i w w' → p.E j x w → p.E j x w') (hst : Steps P p l xs0 l 0) (hQ : ∀ a w, Inv p l xs0 (Array.replicate l.length true) a w → Q' .normal a w) :
    ∀ (f : Nat) (L : Array Bool) (a : Act) (w : World), L.size = l.length → Inv p l xs0 L a w → unlisted l.length L = f → wpAny P .any l.toArray Q' f L a w := by
  have hend : ∀ (L : Array Bool) a w, L.size = l.length → Region.ready .any l.toArray L = [] → Inv p l xs0 L a w → Q' .normal a w := by
    intro L a w hs hr hI
    rw [Mix.all_listed hlow hs hr] at hI
    exact hQ a w hI
  intro f
  induction f with
  | zero =>
    intro L a w hs hI hu
    have hr : Region.ready .any l.toArray L = [] := by
      cases hc : Region.ready .any l.toArray L with
      | nil => rfl
      | cons i t =>
        have hi : i ∈ Region.ready .any l.toArray L := by rw [hc]; simp
        obtain ⟨h0, o, ho, _⟩ := mem_ready.1 hi
        have hlt : i < l.length := by simpa using (Array.getElem?_eq_some_iff.1 ho).1
        have := unlisted_zero hu i hlt
        rw [this] at h0
        cases h0
    exact ⟨hr, hend L a w hs hr hI⟩
  | succ f ih =>
    intro L a w hs hI hu
    refine ⟨fun hr => hend L a w hs hr hI, fun i hi => wpOp_of hput hstab hst hI hi fun a' w' hI' => ih _ a' w' (by simpa using hs) hI' ?_⟩
    obtain ⟨h0, o, ho, _⟩ := mem_ready.1 hi
    have hlt : i < l.length := by simpa using (Array.getElem?_eq_some_iff.1 ho).1
    have := unlisted_set hs hlt h0
    omega
/-- A REGION, WHATEVER ITS ORDER. -/
theorem region {id : Nat} {Q : Exit → Act → World → Prop} {a : Act} {w : World} (p : Plan) (xs0 : Nat → Value) (hm : P.follows .mixedOrders = true) (hlow : lowB (l ++ [default]) l.length = true) (h0 : a = p.F xs0) (hC : p.C (Array.replicate l.length false) { w with drawn := w.drawn + 1 })
    (hputs : Puts p l 0) (hstab : ∀ i j x w w', reach l.toArray 6 j i = false → p.Ext i w w' → p.E j x w → p.E j x w') (hst : Steps P p l xs0 l 0)
    (hend : ∀ xs w', p.C (Array.replicate l.length true) w' → (∀ j, j < l.length → p.E j (xs j) w') → Q .normal (p.F xs) w') : (Code.region id l.toArray true).wp P Q a w := by
  refine wp_region_any hm ?_
  have hput : ∀ i o, l[i]? = some o → ∀ xs v, (p.F xs).put o.dst v = p.F (upd xs i v) := fun i o ho => by
    have := puts_at l 0 hputs i o ho
    rwa [Nat.zero_add] at this
  have := any_of (Q' := Q) hlow hput hstab hst (fun a w ⟨xs, e, _, _, hC, hv, _⟩ => by
    subst e
    refine hend xs w hC fun j hj => hv j hj ?_
    rw [Array.getD_eq_getD_getElem?, Array.getElem?_replicate, if_pos hj]
    rfl) l.length (Array.replicate l.length false) a { w with drawn := w.drawn + 1 } (by simp) ⟨xs0, h0, by simp, Closed.start _ _, hC, fun j hj hl => (by rw [getD_replicate_false] at hl; cases hl), fun j _ => rfl⟩ (unlisted_all _)
  simpa using this
theorem puts_of {p : Plan} : ∀ (m : List Oper) (k : Nat), (∀ j d, (dsts m)[j]? = some d → ∀ xs v, (p.F xs).put d v = p.F (upd xs (k + j) v)) → Puts p m k
  | [], _, _ => trivial
  | o :: m, k, h => ⟨fun xs v => h 0 o.dst (by simp [dsts]) xs v, puts_of m (k + 1) fun j d hd xs v => by
      have := h (j + 1) d (by simpa [dsts] using hd) xs v
      rwa [show k + (j + 1) = k + 1 + j by omega] at this⟩
theorem list_of {Q' : Exit → Act → World → Prop} (hlow : lowB (l ++ [default]) l.length = true) (hput : ∀ i o, l[i]? = some o → ∀ xs v, (p.F xs).put o.dst v = p.F (upd xs i v)) (hstab : ∀ i j x w w', reach l.toArray 6 j i = false → p.Ext i w w' → p.E j x w → p.E j x w') (hst : Steps P p l xs0 l 0) (hQ : ∀ a w, Inv p l xs0 (Array.replicate l.length true) a w → Q' .normal a w) :
    ∀ (m : List Oper) (k : Nat) (a : Act) (w : World), (∀ j, m[j]? = l[k + j]?) → k + m.length = l.length → Inv p l xs0 (headDone l k) a w → wpList P l.toArray Q' m a w := by
  intro m
  induction m with
  | nil =>
    intro k a w _ hk hI
    have : k = l.length := by simpa using hk
    subst this
    rw [head_all] at hI
    exact hQ a w hI
  | cons o m ih =>
    intro k a w hm hk hI
    have h0 : l.toArray[k]? = some o := by simpa using (hm 0).symm
    have hkl : k < l.length := by simp at hk; omega
    have h1 := wpOp_of (Q' := Q') (K' := wpList P l.toArray Q' m) hput hstab hst hI (head_ready hlow hkl) (fun a' w' hI' => by
      rw [head_set hkl] at hI'
      exact ih (k + 1) a' w' (fun j => by have := hm (j + 1); simpa [Nat.add_assoc, Nat.add_comm 1 j] using this) (by simp at hk; omega) hI')
    unfold wpOp at h1
    simp only [h0] at h1
    exact h1
/-- A region, the frame made of the operations' slots. -/
theorem regionF {id : Nat} {Q : Exit → Act → World → Prop} {a : Act} {w : World} (E : Nat → Value → World → Prop) (C : Array Bool → World → Prop) (X : Nat → World → World → Prop) (st : ∀ i j x w w', reach l.toArray 6 j i = false → X i w w' → E j x w → E j x w')
    (hm : P.follows .mixedOrders = true) (hlow : lowB (l ++ [default]) l.length = true) (hap : apartB (dsts l) = true) (hC : C (Array.replicate l.length false) { w with drawn := w.drawn + 1 })
    (H : ∀ (F : (Nat → Value) → Act), (∀ xs, F xs = frame xs (dsts l) 0 a) → Steps P ⟨F, E, C, X⟩ l (fun i => match (dsts l)[i]? with | some (some d) => a.tmps.getD d undef | _ => undef) l 0 ∧
      (∀ xs w', C (Array.replicate l.length true) w' → (∀ j, j < l.length → E j (xs j) w') → Q .normal (F xs) w')) : (Code.region id l.toArray true).wp P Q a w := by
  obtain ⟨h1, h2⟩ := H (fun xs => frame xs (dsts l) 0 a) (fun _ => rfl)
  refine region ⟨fun xs => frame xs (dsts l) 0 a, E, C, X⟩ _ hm hlow (frame_start a hap) hC (puts_of l 0 fun j d hd xs v => ?_) st h1 h2
  have := frame_at xs v (dsts l) 0 a hap j d hd
  simpa using this
/-- A region whose order stands, walked likewise. -/
theorem regionU {id : Nat} {Q : Exit → Act → World → Prop} {a : Act} {w : World} (E : Nat → Value → World → Prop) (C : Array Bool → World → Prop) (X : Nat → World → World → Prop) (st : ∀ i j x w w', reach l.toArray 6 j i = false → X i w w' → E j x w → E j x w')
    (hlow : lowB (l ++ [default]) l.length = true) (hap : apartB (dsts l) = true) (hC : C (Array.replicate l.length false) w)
    (H : ∀ (F : (Nat → Value) → Act), (∀ xs, F xs = frame xs (dsts l) 0 a) → Steps P ⟨F, E, C, X⟩ l (fun i => match (dsts l)[i]? with | some (some d) => a.tmps.getD d undef | _ => undef) l 0 ∧
      (∀ xs w', C (Array.replicate l.length true) w' → (∀ j, j < l.length → E j (xs j) w') → Q .normal (F xs) w')) : (Code.region id l.toArray false).wp P Q a w := by
  obtain ⟨h1, h2⟩ := H (fun xs => frame xs (dsts l) 0 a) (fun _ => rfl)
  have hput : ∀ i o, l[i]? = some o → ∀ xs v, ((Plan.mk (fun xs => frame xs (dsts l) 0 a) E C X).F xs).put o.dst v = (Plan.mk (fun xs => frame xs (dsts l) 0 a) E C X).F (upd xs i v) := fun i o ho xs v => by
    have := frame_at xs v (dsts l) 0 a hap i o.dst (by simp [dsts, ho])
    simpa using this
  refine wp_region_lit (list_of (p := ⟨fun xs => frame xs (dsts l) 0 a, E, C, X⟩) hlow hput st h1 (fun a' w' hI => ?_) l 0 a w (by simp) (by simp) ?_)
  · obtain ⟨xs, e, _, _, hC, hv, _⟩ := hI
    rw [e]
    refine h2 xs w' hC fun j hj => hv j hj ?_
    rw [Array.getD_eq_getD_getElem?, Array.getElem?_replicate, if_pos hj]
    rfl
  · rw [head_zero]
    exact ⟨_, frame_start a hap, by simp, Closed.start _ _, hC, fun j hj hl => (by rw [getD_replicate_false] at hl; cases hl), fun j _ => rfl⟩
end
end RegX
end Go.Proofs.YtomfclkldmmmgaaDoor
