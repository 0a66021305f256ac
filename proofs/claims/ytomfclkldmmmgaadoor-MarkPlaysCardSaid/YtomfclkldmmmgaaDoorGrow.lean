/- Regions that draw their order, whose operations but the last ones read, or call what makes memory and turns nothing: one walk of the order of the text serves all orders. Of no program. -/
import Derived.StillTail
import Derived.Deep.QuietTactic
import Derived.BigQuiet
import Derived.Below
namespace Go.Proofs.YtomfclkldmmmgaaDoor
open Go Go.RowKit

/-- The first n of a region's operations wait for, and are guarded by, operations ahead of them. -/
def lowB (l : List Oper) (n : Nat) : Bool :=
  (List.range n).all fun i => match l[i]? with
    | some o => (o.after.all fun e => !Region.binds .any e || decide (e.on < i)) && (match o.guard with
      | none => true
      | some (j, _) => decide (j < n))
    | none => false
theorem low_at {l : List Oper} {n i : Nat} {o : Oper} (h : lowB l n = true) (hi : i < n) (ho : l[i]? = some o) :
    (∀ e ∈ o.after, Region.binds .any e = true → e.on < i) ∧ ∀ j b, o.guard = some (j, b) → j < n := by
  have h1 := List.all_eq_true.1 h i (List.mem_range.2 hi)
  rw [ho] at h1
  simp only [Bool.and_eq_true] at h1
  refine ⟨fun e he hb => ?_, fun j b hg => ?_⟩
  · have := Array.all_eq_true'.1 h1.1 e he
    simpa [hb] using this
  · have := h1.2
    rw [hg] at this
    simpa using this
theorem take_at {l : List Oper} {n i : Nat} (hi : i < n) : (l.take n)[i]? = l[i]? := by
  rw [List.getElem?_take, if_pos hi]
theorem wanted_take {l : List Oper} {n i : Nat} {o : Oper} (h : lowB l n = true) (hi : i < n) (ho : l[i]? = some o) (tmps : Array Value) :
    Region.wanted o (yielded (l.take n).toArray tmps) = Region.wanted o (yielded l.toArray tmps) := by
  unfold Region.wanted
  cases hg : o.guard with
  | none => rfl
  | some jb =>
    obtain ⟨j, b⟩ := jb
    have hj := (low_at h hi ho).2 j b hg
    have e : yielded (l.take n).toArray tmps j = yielded l.toArray tmps j := by
      unfold yielded
      simp only [List.getElem?_toArray]
      rw [take_at hj]
    simp only [e]
def unlisted (n : Nat) (listed : Array Bool) : Nat := ((List.range n).filter fun i => !listed.getD i true).length
theorem unlisted_zero {n : Nat} {listed : Array Bool} (h : unlisted n listed = 0) : ∀ i, i < n → listed.getD i true = true := by
  intro i hi
  cases hl : listed.getD i true with
  | true => rfl
  | false =>
    have : i ∈ (List.range n).filter fun i => !listed.getD i true := List.mem_filter.2 ⟨List.mem_range.2 hi, by simp [hl]⟩
    rw [List.length_eq_zero_iff.1 h] at this
    cases this
theorem unlisted_pos {n : Nat} {listed : Array Bool} (h : 0 < unlisted n listed) : ∃ i, i < n ∧ listed.getD i true = false ∧ ∀ j, j < i → listed.getD j true = true := by
  obtain ⟨i, hi⟩ := List.exists_mem_of_length_pos h
  obtain ⟨h1, h2⟩ := List.mem_filter.1 hi
  have h3 : i < n ∧ listed.getD i true = false := ⟨List.mem_range.1 h1, by simpa using h2⟩
  clear hi h1 h2 h
  induction i using Nat.strongRecOn with
  | _ i ih =>
    by_cases hex : ∃ j, j < i ∧ listed.getD j true = false
    · obtain ⟨j, hj, hf⟩ := hex
      exact ih j hj ⟨by omega, hf⟩
    · refine ⟨i, h3.1, h3.2, fun j hj => ?_⟩
      cases hl : listed.getD j true with
      | true => rfl
      | false => exact absurd ⟨j, hj, hl⟩ hex
theorem filter_one_less {α : Type} (p q : α → Bool) (x : α) : ∀ (l : List α), l.Nodup → x ∈ l → p x = true → q x = false → (∀ y, y ≠ x → q y = p y) → (l.filter q).length + 1 = (l.filter p).length
  | [], _, hx, _, _, _ => by cases hx
  | y :: l, hnd, hx, hp, hq, hs => by
    obtain ⟨hy, hnd'⟩ := List.nodup_cons.1 hnd
    by_cases he : y = x
    · subst he
      have : l.filter q = l.filter p := List.filter_congr fun z hz => hs z (fun e => hy (e ▸ hz))
      rw [List.filter_cons_of_neg (by simp [hq]), List.filter_cons_of_pos hp, this]
      simp
    · have hx' : x ∈ l := by
        rcases List.mem_cons.1 hx with h | h
        · exact absurd h.symm he
        · exact h
      have := filter_one_less p q x l hnd' hx' hp hq hs
      rw [List.filter_cons, List.filter_cons, hs y he]
      split
      · rw [List.length_cons, List.length_cons]; omega
      · exact this
theorem unlisted_set {n i : Nat} {listed : Array Bool} (hsz : listed.size = n) (hi : i < n) (hu : listed.getD i true = false) : unlisted n (listed.setIfInBounds i true) + 1 = unlisted n listed := by
  unfold unlisted
  refine filter_one_less _ _ i _ List.nodup_range (List.mem_range.2 hi) (by simp [hu]) ?_ ?_
  · have : (listed.setIfInBounds i true).getD i true = true := by
      rw [Array.getD_eq_getD_getElem?, Array.getElem?_setIfInBounds_self_of_lt (by omega)]
      rfl
    rw [this]; rfl
  · intro y hy
    rw [getD_set_ne true (by omega)]
theorem getD_any {listed : Array Bool} {i : Nat} (h : i < listed.size) : listed.getD i false = listed.getD i true := by
  rw [Array.getD_eq_getD_getElem?, Array.getD_eq_getD_getElem?, Array.getElem?_eq_getElem h]
  rfl
section
variable {P : Program} {l : List Oper} {n : Nat} {C : World → Prop}
theorem ready_take (hlow : lowB l n = true) {listed₀ listed : Array Bool} (hsame : ∀ i, i < n → listed.getD i true = listed₀.getD i true) (hs0 : listed₀.size = n) (hs : listed.size = l.length) (hn : n < l.length) {i : Nat} (hi : i < n)
    (hr : i ∈ Region.ready .any l.toArray listed) : i ∈ Region.ready .any (l.take n).toArray listed₀ := by
  obtain ⟨h1, o, ho, hall⟩ := mem_ready.1 hr
  have ho' : l[i]? = some o := by simpa using ho
  refine mem_ready.2 ⟨(hsame i hi).symm.trans h1, o, by simpa [take_at hi] using ho', fun e he hb => ?_⟩
  have hlt := (low_at hlow hi ho').1 e he hb
  have h2 := hall e he hb
  have h3 := hsame e.on (by omega)
  rw [getD_any (by omega)] at h2 ⊢
  rw [← h3]; exact h2
theorem some_ready (hlow : lowB l n = true) {listed : Array Bool} (hs : listed.size = l.length) (hn : n < l.length) {i : Nat} (hi : i < n) (hu : listed.getD i true = false) (hb : ∀ j, j < i → listed.getD j true = true) :
    i ∈ Region.ready .any l.toArray listed := by
  have hl : l[i]? = some l[i] := List.getElem?_eq_getElem (by omega)
  refine mem_ready.2 ⟨hu, l[i], by simp, fun e he hbi => ?_⟩
  have hlt := (low_at hlow hi hl).1 e he hbi
  have := hb e.on hlt
  rw [Array.getD_eq_getD_getElem?, Array.getElem?_eq_getElem (by omega)] at this ⊢
  exact this
theorem qOp_take (hlow : lowB l n = true) {i : Nat} (hi : i < n) {K : Act → Prop} {a : Act} (h : qOp P (l.take n).toArray C i K a) : qOp P l.toArray C i K a := by
  unfold qOp at *
  simp only [List.getElem?_toArray] at *
  rw [take_at hi] at h
  cases ho : l[i]? with
  | none => rw [ho] at h; exact h
  | some o =>
    rw [ho] at h
    simp only at h ⊢
    rw [wanted_take hlow hi ho] at h
    exact h
def headDone (l : List Oper) (n : Nat) : Array Bool := ((List.range l.length).map fun i => decide (i < n)).toArray
theorem headDone_of {listed : Array Bool} (hs : listed.size = l.length) (hd : ∀ i, i < n → listed.getD i true = true) (inv : HeadInv .any l.toArray n listed) : listed = headDone l n := by
  apply Array.ext
  · simp [headDone, hs]
  · intro i h1 h2
    have h3 : (headDone l n)[i] = decide (i < n) := by simp [headDone]
    rw [h3]
    by_cases hi : i < n
    · have := hd i hi
      rw [Array.getD_eq_getD_getElem?, Array.getElem?_eq_getElem h1] at this
      rw [decide_eq_true hi]; exact this
    · have := inv.tail i (by omega) (by simp; omega)
      rw [Array.getD_eq_getD_getElem?, Array.getElem?_eq_getElem h1] at this
      rw [decide_eq_false hi]; exact this
theorem any_of_head {g : Nat} {Q' : Exit → Act → World → Prop} {T : Act → Prop} (hn : n < l.length) (hlow : lowB l n = true) (hs : Region.sinkB .any l.toArray n = true) (hc : Region.chainB .any l.toArray n = true)
    (hT : ∀ a w, C w → T a → wpAny P .any l.toArray Q' g (headDone l n) a w) :
    ∀ (f : Nat) (listed₀ listed : Array Bool) (a : Act) (w : World), C w → HeadInv .any l.toArray n listed → listed₀.size = n → (∀ i, i < n → listed.getD i true = listed₀.getD i true) → unlisted n listed₀ = f →
      wpAnyQ P .any (l.take n).toArray C T f listed₀ a → wpAny P .any l.toArray Q' (f + g) listed a w := by
  intro f
  induction f with
  | zero =>
    intro listed₀ listed a w hw inv hs0 hsame hu h
    have hsz : listed.size = l.length := by simpa using inv.size
    rw [Nat.zero_add, headDone_of hsz (fun i hi => (hsame i hi).trans (unlisted_zero hu i hi)) inv]
    exact hT a w hw h.2
  | succ f ih =>
    intro listed₀ listed a w hw inv hs0 hsame hu h
    have hsz : listed.size = l.length := by simpa using inv.size
    obtain ⟨m, hm, hmu, hmb⟩ := unlisted_pos (n := n) (listed := listed₀) (by omega)
    have hmr := some_ready hlow hsz hn hm ((hsame m hm).trans hmu) (fun j hj => (hsame j (by omega)).trans (hmb j hj))
    rw [show f + 1 + g = (f + g) + 1 by omega]
    refine ⟨(fun h0 => by rw [h0] at hmr; cases hmr), fun i hi => ?_⟩
    have hin : i < n := by
      rcases Nat.lt_or_ge i n with h' | h'
      · exact h'
      · exact absurd hi (tail_waits hs hc (by simpa using hn) inv _ m rfl hm ((hsame m hm).trans hmu) i h')
    have hi0 := ready_take hlow hsame hs0 hsz hn hin hi
    have hq := qOp_take hlow hin (h.2 i hi0)
    refine wpOp_of_qOp hw (fun a' w' hw' hK => ih _ _ a' w' hw' (inv.set hi hin) (by simpa using hs0) (fun j hj => ?_) ?_ hK) hq
    · by_cases hji : i = j
      · subst hji
        rw [Array.getD_eq_getD_getElem?, Array.getD_eq_getD_getElem?, Array.getElem?_setIfInBounds_self_of_lt (by omega), Array.getElem?_setIfInBounds_self_of_lt (by omega)]
      · rw [getD_set_ne true hji, getD_set_ne true hji]; exact hsame j hj
    · have := unlisted_set hs0 hin ((hsame i hin).symm.trans (mem_ready.1 hi).1)
      omega
/-- A REGION WHOSE FIRST n OPERATIONS ARE QUIET IN A CLASS OF WORLDS, AND WHOSE LAST ONES COME IN ONE ORDER, BEHIND THEM. -/
theorem wp_region_tail {id : Nat} {Q : Exit → Act → World → Prop} {a : Act} {w : World} (n : Nat) (hm : P.follows .mixedOrders = true) (hn : n < l.length) (hB : Region.lexB .any (l.take n).toArray = true) (hlow : lowB l n = true)
    (hs : Region.sinkB .any l.toArray n = true) (hc : Region.chainB .any l.toArray n = true) (hseq : Region.seqB .any l.toArray (l.length - n) n (headDone l n) = true) (hC : C { w with drawn := w.drawn + 1 })
    (h : wpQuiet P (l.take n).toArray C (fun a' => ∀ w', C w' → wpList P l.toArray Q (l.drop n) a' w') (l.take n) a) : (Code.region id l.toArray true).wp P Q a w := by
  simp only [Region.lexB, Bool.and_eq_true] at hB
  have htl : (l.take n).length = n := by simp; omega
  have hdl : (l.drop n).length = l.length - n := by simp
  have H := wpAnyQ_lex (C := C) (md := .any) hB.1 (l.take n) 0 (Array.replicate (l.take n).toArray.size false) a (by simp) (by simpa using hB.2) h
  have inv0 : HeadInv .any l.toArray n (Array.replicate l.toArray.size false) :=
    ⟨by simp, fun j oj _ hl => (by rw [getD_replicate_false] at hl; cases hl), fun t _ ht => getD_in (by simpa using ht) (getD_replicate_false _ _)⟩
  refine wp_region_any hm ?_
  have := any_of_head (C := C) (Q' := Q) (g := l.length - n) hn hlow hs hc (fun a' w' hw' hT => by
    have := wpAny_of_seq (md := .any) (Q' := Q) (l.drop n) n (headDone l n) a' w' (fun j => by simp [List.getElem?_drop]) (by rw [hdl]; exact hseq) (hT w' hw')
    rwa [hdl] at this) (l.take n).length (Array.replicate (l.take n).toArray.size false) (Array.replicate l.toArray.size false) a _ hC inv0 (by simp; omega) (fun i hi => by
      rw [getD_in (by simpa using (by omega : i < l.length)) (getD_replicate_false _ _), getD_in (by simp; omega) (getD_replicate_false _ _)]) (by
      unfold unlisted
      rw [List.filter_eq_self.2 (fun i hi => by
        have := List.mem_range.1 hi
        rw [getD_in (by simp; omega) (getD_replicate_false _ _)]; rfl), List.length_range]
      omega) H
  rw [htl, show n + (l.length - n) = l.toArray.size by simp; omega] at this
  exact this
end
/-- New memory, and nothing else. -/
structure Growth (w : World) where
  to : World
  ok : Below w.heap.size w to
instance (w : World) : Nonempty (Growth w) := ⟨⟨w, Below.refl _ _⟩⟩
/-- A world that is w but for new memory. -/
def ext (w : World) (u : Growth w) : World := u.to
theorem ext_cell {w : World} {a : Addr} {v : Value} (h : w.cell? a = some v) (u : Growth w) : (ext w u).cell? a = some v :=
  (u.ok.cell (World.block_lt_of_cell? w a h)).trans h
theorem ext_free {w : World} {a : Addr} {b : Bool} (hl : a.block < w.heap.size) (h : w.frozen? a = b) (u : Growth w) : (ext w u).frozen? a = b :=
  (u.ok.frozen (p := a) hl).trans h
theorem callx {P : Program} {f : FuncId} {args : Array Value} {w : World} {u : Growth w} {v : Value}
    (h : Calls P f args (ext w u) fun e w' => e = .returned v ∧ Below (ext w u).heap.size (ext w u) w') : Calls P f args (ext w u) fun e w'' => e = .returned v ∧ ∃ u', w'' = ext w u' :=
  h.mono fun _ w' ⟨he, hb⟩ => ⟨he, ⟨w', u.ok.trans (hb.mono u.ok.size)⟩, rfl⟩
theorem callx_same {P : Program} {f : FuncId} {args : Array Value} {w : World} {u : Growth w} {v : Value}
    (h : Calls P f args (ext w u) fun e w' => e = .returned v ∧ ext w u = w') : Calls P f args (ext w u) fun e w'' => e = .returned v ∧ ∃ u', w'' = ext w u' :=
  h.mono fun _ w' ⟨he, hb⟩ => ⟨he, u, hb.symm⟩
def drew1 (w : World) : Growth w := ⟨{ w with drawn := w.drawn + 1 }, ⟨rfl, rfl, rfl, Nat.le_refl _, fun _ _ => rfl⟩⟩
theorem wp_region_ext {P : Program} {id : Nat} {Q : Exit → Act → World → Prop} {a : Act} {w : World} {l : List Oper} (hm : P.follows .mixedOrders = true) (hB : Region.lexB .any l.toArray = true)
    (h : wpQuiet P l.toArray (fun w' => ∃ u, w' = ext w u) (fun a' => ∀ w', (∃ u, w' = ext w u) → Q .normal a' w') l a) : (Code.region id l.toArray true).wp P Q a w :=
  wp_region_quiet (C := fun w' => ∃ u, w' = ext w u) hm hB ⟨drew1 w, rfl⟩ (by simpa using h)
theorem wp_region_ext_tail {P : Program} {id : Nat} {Q : Exit → Act → World → Prop} {a : Act} {w : World} {l : List Oper} (n : Nat) (hm : P.follows .mixedOrders = true) (hn : n < l.length) (hB : Region.lexB .any (l.take n).toArray = true) (hlow : lowB l n = true)
    (hs : Region.sinkB .any l.toArray n = true) (hc : Region.chainB .any l.toArray n = true) (hseq : Region.seqB .any l.toArray (l.length - n) n (headDone l n) = true)
    (h : wpQuiet P (l.take n).toArray (fun w' => ∃ u, w' = ext w u) (fun a' => ∀ w', (∃ u, w' = ext w u) → wpList P l.toArray Q (l.drop n) a' w') (l.take n) a) : (Code.region id l.toArray true).wp P Q a w :=
  wp_region_tail n hm hn hB hlow hs hc hseq ⟨drew1 w, rfl⟩ h
theorem ext_below {w W : World} (h : Below w.heap.size w W) (u : Growth W) : Below w.heap.size w (ext W u) := h.trans (u.ok.mono h.size)
end Go.Proofs.YtomfclkldmmmgaaDoor
