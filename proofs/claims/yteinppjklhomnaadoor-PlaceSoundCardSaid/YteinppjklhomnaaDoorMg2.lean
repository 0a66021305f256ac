/- Texts put together: ElemS, RngO, ScalM, ScalarC, Repl, CellM, CellA, RowM, MarkM, ScalarR, CellO, CellT, Search, SegA, PropL, SegC, SegD, SegE, SegM, SegR, SegJ, SegB, Tab, TabC. -/
import Derived.Test.YteinppjklhomnaaDoorMg1
import Derived.RangeFuncNested
import Derived.RangeFuncBound
import Derived.RangeFuncCalls
import Derived.RangeFuncLeaves
import Derived.WalkKit
import Derived.OwnWalkIn
import Derived.TacticsInMore
import Derived.LoopNIn
import Derived.LoopIn
import Derived.Shelf.Abstract
import Derived.Shelf.RegionOpen
import Derived.Test.YteinppjklhomnaaDoorProg
import Derived.Laws.OwnMore
import Derived.Deep.QuietTactic
import Derived.BigQuiet
import Derived.Lib.MinMax
import Derived.Deep.LoopGhost
import Derived.Lib.SmallJoins
import Derived.Deep.Slices
/- What may turn; stores into rows of the call's own, of whatever elements. Of no program. -/
namespace Go.Proofs.YteinppjklhomnaaDoor
open Go.RowKit Go.ChangeShapes Go.WideShapes
/-- Nothing but the blocks of S has turned. -/
structure Upd (S : Zone) (w w' : World) : Prop where
  os : w'.os = w.os
  tape : w'.tape = w.tape
  output : w'.output = w.output
  size : w.heap.size ≤ w'.heap.size
  block : ∀ b, b < w.heap.size → ¬ S b → w'.heap[b]? = w.heap[b]?
theorem Upd.refl (S : Zone) (w : World) : Upd S w w := ⟨rfl, rfl, rfl, Nat.le_refl _, fun _ _ _ => rfl⟩
theorem Upd.trans {S : Zone} {a b c : World} (h : Upd S a b) (k : Upd S b c) : Upd S a c :=
  ⟨k.os.trans h.os, k.tape.trans h.tape, k.output.trans h.output, Nat.le_trans h.size k.size, fun i hi hs => (k.block i (Nat.lt_of_lt_of_le hi h.size) hs).trans (h.block i hi hs)⟩
theorem Upd.mono {S T : Zone} {w w' : World} (h : Upd S w w') (hs : ∀ b, b < w.heap.size → S b → T b) : Upd T w w' := ⟨h.os, h.tape, h.output, h.size, fun b hb ht => h.block b hb fun hs' => ht (hs b hb hs')⟩
theorem Upd.ofBelow {S : Zone} {w w' : World} (h : Below w.heap.size w w') : Upd S w w' := ⟨h.os, h.tape, h.output, h.size, fun b hb _ => h.block b hb⟩
theorem Upd.below {S : Zone} {B : Nat} {w w' : World} (h : Upd S w w') (hB : B ≤ w.heap.size) (hs : ∀ b, S b → B ≤ b) : Below B w w' :=
  ⟨h.os, h.tape, h.output, h.size, fun b hb => h.block b (by omega) fun k => by have := hs b k; omega⟩
theorem Upd.keep {S : Zone} {w w' : World} (h : Upd S w w') : KeepZ (fun b => ¬ S b) w w' := ⟨h.size, h.block⟩
theorem Upd.ofBut {g : Nat} {w w' : World} (h : But g w.heap.size w w') : Upd (fun b => b = g) w w' := ⟨h.os, h.tape, h.output, h.size, fun b hb hn => h.block b hb hn⟩
theorem Upd.setCell {S : Zone} {a w : World} (h : Upd S a w) {p : Addr} (hp : S p.block ∨ a.heap.size ≤ p.block) (u : Value) : Upd S a (w.setCell p u) :=
  ⟨h.os, h.tape, h.output, by rw [World.size_setCell]; exact h.size, fun b hb hn => by rw [heap_setCell_other w p b u (fun e => by subst e; rcases hp with hp | hp; exact hn hp; omega)]; exact h.block b hb hn⟩
theorem Upd.alloc {S : Zone} {a w : World} (h : Upd S a w) (o : Obj) : Upd S a (w.alloc o) := h.trans (.ofBelow ((Below.refl _ _).alloc (Nat.le_refl _) o))
theorem Upd.drew {S : Zone} {a w : World} (h : Upd S a w) : Upd S a w.drew := ⟨h.os, h.tape, h.output, h.size, h.block⟩
theorem _root_.Go.RowKit.Below.upd {S : Zone} {B : Nat} {a b c : World} (h : Below B a b) (k : Upd S b c) (hB : B ≤ b.heap.size) (hs : ∀ x, S x → B ≤ x) : Below B a c := h.trans (k.below hB hs)
section
variable {α : Type} {E : Elem α} {Z Y : Zone} {w w' : World} {v u : Value} {L M : List α} {B : Nat} {ty : TypeId}
theorem HeldE.upd {S : Zone} (h : HeldE E Z w v L) (hk : Upd S w w') (hs : ∀ b, Z b → ¬ S b) : HeldE E Z w' v L := h.kept (hk.keep.mono fun b _ hz => hs b hz)
theorem OwnE.upd {S : Zone} (h : OwnE E Z w B ty v L) (hk : Upd S w w') (hs : ∀ b, Z b ∨ v.ownBlock = some b → ¬ S b) : OwnE E Z w' B ty v L := h.keep (hk.keep.mono fun b _ hz => hs b hz) fun _ _ hz => hz
theorem own_lensI {Zi : Nat → Zone} {CS : List (List Value)} (hl : CS.length = L.length) (h : ∀ i, i < L.length → E.rep (Zi i) w (CS.getD i []) (L.getD i E.zero)) : ∀ C ∈ CS, C.length = E.size := by
  intro C hC
  obtain ⟨i, hi, rfl⟩ := List.getElem_of_mem hC
  have := E.len (h i (by omega))
  rwa [show CS.getD i [] = CS[i] from by simp [List.getD, List.getElem?_eq_getElem hi]] at this
/-- As OwnE; what the i-th element leads to lies in a zone of its own. -/
def OwnI (E : Elem α) (Zi : Nat → Zone) (w : World) (B : Nat) (ty : TypeId) (v : Value) (L : List α) : Prop :=
  ∃ CS : List (List Value), w.ownsRow B ty E.size v L.length CS.flatten ∧ CS.length = L.length ∧ ∀ i, i < L.length → E.rep (fun b => Zi i b ∧ v.ownBlock ≠ some b) w (CS.getD i []) (L.getD i E.zero)
theorem OwnE.each (h : OwnE E Z w B ty v L) : OwnI E (fun _ => Z) w B ty v L := h
theorem OwnI.all {Zi : Nat → Zone} (h : OwnI E Zi w B ty v L) (hz : ∀ i b, i < L.length → b < w.heap.size → Zi i b → Z b) : OwnE E Z w B ty v L := by
  obtain ⟨CS, h1, h2, h3⟩ := h
  exact ⟨CS, h1, h2, fun i hi => E.keep (.refl _ _) (fun b hb k => ⟨hz i b hi hb k.1, k.2⟩) (h3 i hi)⟩
theorem OwnI.keep {Zi Yi : Nat → Zone} (h : OwnI E Zi w B ty v L) (hk : KeepZ (fun b => (∃ i, i < L.length ∧ Zi i b) ∨ v.ownBlock = some b) w w') (hy : ∀ i b, i < L.length → b < w.heap.size → Zi i b → Yi i b) : OwnI E Yi w' B ty v L := by
  obtain ⟨CS, h1, h2, h3⟩ := h
  exact ⟨CS, hk.own h1 fun b hb => .inr hb, h2, fun i hi => E.keep (hk.mono fun b _ hz => .inl ⟨i, hi, hz.1⟩) (fun b hb hz => ⟨hy i b hi hb hz.1, hz.2⟩) (h3 i hi)⟩
theorem OwnI.below {Zi : Nat → Zone} (h : OwnI E Zi w B ty v L) (hb : Below w.heap.size w w') : OwnI E Zi w' B ty v L := h.keep (.all hb _) fun _ _ _ _ hz => hz
theorem OwnI.lt {Zi : Nat → Zone} (h : OwnI E Zi w B ty v L) : ∀ k, v.ownBlock = some k → B ≤ k ∧ k < w.heap.size := by
  obtain ⟨CS, h, _⟩ := h
  exact h.lt
/-- The cells of one element, as a walk reads them. -/
theorem OwnI.at {Zi : Nat → Zone} {g cap n : Nat} (h : OwnI E Zi w B ty (.slice (some ⟨g, 0, none⟩) n cap) L) {i : Nat} (hi : i < L.length) : ∃ C, (∀ j, j < E.size → w.cell? ⟨g, i * E.size + j, none⟩ = C[j]? ∧ w.frozen? ⟨g, i * E.size + j, none⟩ = false) ∧ E.rep (fun b => Zi i b ∧ b ≠ g) w C (L.getD i E.zero) := by
  obtain ⟨CS, h1, h2, h3⟩ := h
  have hn : n = L.length := by
    rcases h1.2 with ⟨h', _⟩ | ⟨g', cap', cur, h', _⟩
    · simp at h'
    · simp only [Value.slice.injEq] at h'
      exact h'.2.1
  subst hn
  have hls := own_lensI h2 (Zi := fun i b => Zi i b ∧ _) h3
  refine ⟨CS.getD i [], fun j hj => ⟨?_, h1.frozenAt _⟩, E.keep (.refl _ _) (fun b _ hz => ⟨hz.1, fun e => hz.2 (by subst e; rfl)⟩) (h3 i hi)⟩
  rw [h1.cellAt (i * E.size + j) (by have : i * E.size + E.size ≤ L.length * E.size := by rw [← Nat.succ_mul]; exact Nat.mul_le_mul_right _ hi
                                     omega)]
  exact flat_at hls i j (by omega) hj
theorem own_setCells {g n cap size : Nat} : ∀ (vs : List Value) (o : Nat) (xs : List Value) (w : World), w.ownsRow B ty size (.slice (some ⟨g, 0, none⟩) n cap) n xs → o + vs.length ≤ xs.length →
    (w.setCells g o vs).ownsRow B ty size (.slice (some ⟨g, 0, none⟩) n cap) n (xs.take o ++ vs ++ xs.drop (o + vs.length))
  | [], o, xs, w, h, _ => by simpa [World.setCells] using h
  | v :: vs, o, xs, w, h, hl => by
    simp only [List.length_cons] at hl
    have h1 := (h.stored o v).1
    have h2 := own_setCells vs (o + 1) (xs.set o v) (w.setCell ⟨g, o, none⟩ v) h1 (by simp; omega)
    have e : (xs.set o v).take (o + 1) ++ vs ++ (xs.set o v).drop (o + 1 + vs.length) = xs.take o ++ (v :: vs) ++ xs.drop (o + (v :: vs).length) := by
      rw [List.take_succ_eq_append_getElem (by simp; omega), List.take_set_of_le (Nat.le_refl _), List.drop_set_of_lt (by omega)]
      simp [List.length_cons, Nat.add_assoc, Nat.add_comm 1 vs.length]
    rw [e] at h2
    exact h2
theorem flat_put {s : Nat} : ∀ {CS : List (List Value)}, (∀ C ∈ CS, C.length = s) → ∀ (i : Nat) (C : List Value), i < CS.length → C.length = s → CS.flatten.take (i * s) ++ C ++ CS.flatten.drop (i * s + s) = (CS.set i C).flatten
  | [], _, i, _, hi, _ => absurd hi (Nat.not_lt_zero _)
  | D :: CS, h, 0, C, _, hC => by
    have hD := h D (by simp)
    simp only [List.flatten_cons, Nat.zero_mul, List.take_zero, List.nil_append, Nat.zero_add, List.set_cons_zero]
    rw [← hD, List.drop_left]
  | D :: CS, h, i + 1, C, hi, hC => by
    have hD := h D (by simp)
    have ih := flat_put (fun E hE => h E (List.mem_cons_of_mem _ hE)) i C (by simpa using hi) hC
    have e1 : (i + 1) * s = D.length + i * s := by rw [hD, Nat.add_mul]; omega
    simp only [List.flatten_cons, List.set_cons_succ]
    rw [e1, List.take_length_add_append, show D.length + i * s + s = D.length + (i * s + s) by omega, List.drop_length_add_append, ← ih]
    simp [List.append_assoc]
/-- An element stored whole. -/
theorem OwnI.put {Zi : Nat → Zone} {g n cap : Nat} (h : OwnI E Zi w B ty (.slice (some ⟨g, 0, none⟩) n cap) L) {i : Nat} (hi : i < L.length) (C : List Value) (x : α) (hr : E.rep (fun b => Y b ∧ b ≠ g) w C x) :
    OwnI E (fun j => if j = i then Y else Zi j) (w.setCells g (i * E.size) C) B ty (.slice (some ⟨g, 0, none⟩) n cap) (L.set i x) ∧ Upd (fun b => b = g) w (w.setCells g (i * E.size) C) := by
  have hu : Upd (fun b => b = g) w (w.setCells g (i * E.size) C) := .ofBut (but_setCells g w.heap.size w C _ w (But.refl _ _ _))
  refine ⟨?_, hu⟩
  obtain ⟨CS, h1, h2, h3⟩ := h
  have hn : n = L.length := by
    rcases h1.2 with ⟨h', _⟩ | ⟨g', cap', cur, h', _⟩
    · simp at h'
    · simp only [Value.slice.injEq] at h'
      exact h'.2.1
  subst hn
  have hls := own_lensI h2 (Zi := fun i b => Zi i b ∧ _) h3
  have hC := E.len hr
  have h4 := own_setCells C (i * E.size) CS.flatten w h1 (by rw [flat_len hls, h2, hC, ← Nat.succ_mul]; exact Nat.mul_le_mul_right _ hi)
  rw [hC, flat_put hls i C (by omega) hC] at h4
  refine ⟨CS.set i C, by rw [List.length_set]; exact h4, by simp [h2], fun j hj => ?_⟩
  simp only [List.length_set] at hj
  have hk : KeepZ (fun b => b ≠ g) w (w.setCells g (i * E.size) C) := hu.keep
  by_cases e : j = i
  · subst e
    rw [show (CS.set j C).getD j [] = C from by simp [List.getD, List.getElem?_set_self (show j < CS.length by omega)], show (L.set j x).getD j E.zero = x from by simp [List.getD, List.getElem?_set_self hi]]
    simp only [if_true]
    exact E.keep (hk.mono fun b _ hz => hz.2) (fun b _ hz => ⟨hz.1, fun e => hz.2 (by simpa [Value.ownBlock] using e.symm)⟩) hr
  · rw [show (CS.set i C).getD j [] = CS.getD j [] from by simp [List.getD, List.getElem?_set_ne (Ne.symm e)], show (L.set i x).getD j E.zero = L.getD j E.zero from by simp [List.getD, List.getElem?_set_ne (Ne.symm e)]]
    simp only [if_neg e]
    exact E.keep (hk.mono fun b _ hz => fun e => hz.2 (by subst e; rfl)) (fun b _ hz => hz) (h3 j hj)
theorem OwnI.there {Zi : Nat → Zone} {g n cap : Nat} (h : OwnI E Zi w B ty (.slice (some ⟨g, 0, none⟩) n cap) L) {i : Nat} (hi : i < L.length) : w.there g (i * E.size) E.size := by
  obtain ⟨C, h1, h2⟩ := h.at hi
  intro j hj
  obtain ⟨h3, h4⟩ := h1 j hj
  rw [h3]
  exact ⟨by rw [List.getElem?_eq_getElem (by rw [E.len h2]; exact hj)]; rfl, h4⟩
/-- 'l[i] = x', of a struct. -/
theorem wpList_put_e {P : Program} {ops : Array Oper} {rest : List Oper} {o : Oper} {a : Act} {Q : Exit → Act → World → Prop} (hgd : o.guard = none) (t : TypeId) (x y : Operand) (ho : o.op = .store t x y) {Zi : Nat → Zone} {g n cap i off : Nat}
    (hx : a.eval x = .pointer (some ⟨g, off, none⟩)) (hoff : off = i * E.size) (C : List Value) (hy : a.eval y = .agg C.toArray) (hi2 : (P.info? t).map (·.size) = some E.size)
    (h : OwnI E Zi w B ty (.slice (some ⟨g, 0, none⟩) n cap) L) (hi : i < L.length) (z : α) (hr : E.rep (fun b => Y b ∧ b ≠ g) w C z)
    (hk : ∀ w', OwnI E (fun j => if j = i then Y else Zi j) w' B ty (.slice (some ⟨g, 0, none⟩) n cap) (L.set i z) → Upd (fun b => b = g) w w' → wpList P ops Q rest (a.put o.dst undef) w') : wpList P ops Q (o :: rest) a w := by
  subst hoff
  have hC := E.len hr
  refine wpList_store_mid hgd t x y ho g (i * E.size) C.toArray hx hy (by simpa [hC] using h.there hi) (by rw [hi2]; simp [hC]) (all_oneCell_toArray (E.one hr)) ?_
  obtain ⟨h1, h2⟩ := h.put hi C z hr
  exact hk _ (by simpa using h1) (by simpa using h2)
end
end Go.Proofs.YteinppjklhomnaaDoor
/- 'for .. range seq': an iterator that has memory of its own: its contract, and the law of the loop. Of no program. -/
namespace Go.Proofs.YteinppjklhomnaaDoor
open Go.RowKit Go.ChangeShapes Go.WideShapes
/-- The iterator may turn its own blocks (those from W on, below hi) and lay new ones; a round may turn blocks of C, and those that lie at hi or above. -/
def SeqO {α : Type} (F : Fence) (n : Nat) (P : Program) (g : Nat) (lb : Array Value) (encs : α → Array Value) (X : Nat → Nat → α → World → Prop) (C : Zone) (S Sp : List α → Prop) (R : List α → α → Prop) (w : World) : Prop :=
  ∀ (l : Nat) (J Jx : Nat → List α → World → Prop) (W : World), Below w.heap.size w W → (∀ b, C b → b < W.heap.size) →
    (∀ hi pre A B, J hi pre A → Upd (fun b => W.heap.size ≤ b ∧ b < hi) A B → J hi pre B) →
    (∀ hi pre A B, Jx hi pre A → Upd (fun b => W.heap.size ≤ b ∧ b < hi) A B → Jx hi pre B) →
    (∀ hi pre x W1, W.heap.size ≤ hi → hi ≤ W1.heap.size → J hi pre W1 → X W.heap.size hi x W1 → R pre x → YieldAt F (n - 1) P l (encs x) W1 fun e W' =>
      (e = .returned (.bool true) ∧ J hi (pre ++ [x]) W' ∧ Upd (fun b => C b ∨ (w.heap.size ≤ b ∧ b < W.heap.size) ∨ hi ≤ b) W1 W') ∨ (e = .returned (.bool false) ∧ Jx hi (pre ++ [x]) W')) →
    (∀ hi W1, Below W.heap.size W W1 → W.heap.size ≤ hi → hi ≤ W1.heap.size → J hi [] W1) →
    CallsIn F n P g (#[.func (.yield l) #[] #[]] ++ lb) W fun e W' => (∃ v, e = .returned v) ∧ ((∃ hi xs, S xs ∧ J hi xs W') ∨ (∃ hi pre, Sp pre ∧ Jx hi pre W'))
def postO {α : Type} (U : World → Prop) (I : List α → World → Prop) (Ix : Code → List α → World → Prop) (xs : List α) : Exit → Act → World → Prop
  | .normal, _, W' => U W' ∧ I xs W'
  | .ret, _, W' => U W' ∧ Ix .ret xs W'
  | .exit id, _, W' => U W' ∧ Ix (.exit id) xs W'
  | .goto t, _, W' => U W' ∧ Ix (.goto t) xs W'
  | .panic _, _, _ => False
  | .outgrown, _, _ => False
theorem upd_putObj {S : Zone} (W : World) (l : Nat) (o : Obj) (h : S l) : Upd S W (W.putObj l o) :=
  ⟨rfl, rfl, rfl, by simp, fun b _ hb => World.putObj_heap_other (fun e => hb (e ▸ h))⟩
theorem wpIn_rangeO {α : Type} {F : Fence} {n : Nat} {P : Program} {g : Operand} {ps : Array Tmp} {assign body : Code} {Q : Exit → Act → World → Prop} {a : Act} {w : World}
    (hro : F.round = none) (h1 : 1 ≤ n) {gf : Nat} {lb : Array Value} (hg : a.eval g = .func (.func gf) #[] lb) (hFg : F.fn gf) (eg : ∀ args w, (callFunc gf args).run P w = .ok (.enter gf args) w)
    {encs : α → Array Value} {X : Nat → Nat → α → World → Prop} {C : Zone} {S Sp : List α → Prop} {R : List α → α → Prop} {w0 : World} (hseq : SeqO F (n - 1) P gf lb encs X C S Sp R w0) (hb0 : Below w0.heap.size w0 w) (hps : ∀ x, (encs x).size = ps.size)
    (hC : ∀ b, C b → b < w.heap.size)
    (I : Nat → List α → World → Prop) (Ix : Nat → Code → List α → World → Prop)
    (hI : ∀ hi pre A B, I hi pre A → Upd (fun b => w.heap.size ≤ b ∧ b < hi) A B → I hi pre B)
    (hIx : ∀ hi c pre A B, Ix hi c pre A → Upd (fun b => w.heap.size ≤ b ∧ b < hi) A B → Ix hi c pre B)
    (h0 : ∀ hi W1, Below w.heap.size w W1 → w.heap.size + 2 ≤ hi → hi ≤ W1.heap.size → I hi [] W1) (a₁ : α → Act)
    (hassign : ∀ (l : Nat) (x : α) (W : World) (K : Act → World → Prop), K (a₁ x) W →
      assign.wpIn (F.inRound l) (n - 1 - 1) P (Exit.then K (fun _ _ _ => False)) { tmps := (ps.zip (encs x)).foldl (fun t (p, v) => t.setIfInBounds p v) a.tmps, defers := [] } W)
    (hbody : ∀ (l hi : Nat) (pre : List α) (x : α) (W : World), w.heap.size + 2 ≤ hi → hi ≤ W.heap.size → I hi pre W → (∃ Wx, X (w.heap.size + 2) hi x Wx ∧ Upd (fun b => b = w.heap.size + 1) Wx W) → R pre x →
      body.wpIn (F.inRound l) (n - 1 - 1) P (postO (fun W' => Upd (fun b => C b ∨ hi ≤ b) W W') (I hi) (Ix hi) (pre ++ [x])) (a₁ x) W)
    (hdone : ∀ (hi : Nat) (xs : List α) (W : World), S xs → I hi xs W → W.heap[w.heap.size]? = some (.deferred (some [])) → Q .normal { a with defers := { target := .collected w.heap.size, args := #[] } :: a.defers } W)
    (hstop : ∀ (hi : Nat) (c : Code) (pre : List α) (W : World), Sp pre → Ix hi c pre W → W.heap[w.heap.size]? = some (.deferred (some [])) → c.wpIn F n P Q { a with defers := { target := .collected w.heap.size, args := #[] } :: a.defers } W) :
    (Code.rangeFunc g ps assign body).wpIn F n P Q a w := by
  refine wpIn_rangeFunc fun fn hfn => ?_
  rw [hro]
  obtain ⟨m, hm⟩ : ∃ m, m = w.heap.size := ⟨_, rfl⟩
  obtain ⟨rec, hrec⟩ : ∃ rec : LoopState → Option Code → Loop, rec = fun st pe => { state := st, pending := pe, fn, tmps := a.tmps, params := ps, assign, body, defers := m } := ⟨_, rfl⟩
  obtain ⟨W1, hW1⟩ : ∃ W1, W1 = (w.alloc (.deferred (some []))).alloc (.loop (rec .ready none)) := ⟨_, rfl⟩
  have hs1 : W1.heap.size = m + 2 := by rw [hW1]; simp [hm]
  have hL1 : W1.heap[m + 1]? = some (.loop (rec .ready none)) := by
    have h := World.alloc_heap_new (w.alloc (.deferred (some []))) (.loop (rec .ready none))
    rw [World.size_alloc, ← hm] at h
    rw [hW1]; exact h
  have hK1 : W1.heap[m]? = some (.deferred (some [])) := by
    rw [hW1, Below.heap_alloc _ _ _ (by simp [hm]), hm]
    exact World.alloc_heap_new w _
  have hbw : Below w.heap.size w W1 := by rw [hW1]; exact ((Below.refl _ w).alloc (Nat.le_refl _) _).alloc (by simp) _
  refine ⟨m + 1, [{ target := .collected m, args := #[] }], W1, { target := .fn (.func gf) lb, args := #[.func (.yield (m + 1)) #[] #[]] }, W1, gf, #[.func (.yield (m + 1)) #[] #[]] ++ lb, W1, ?_, ?_, ?_, ?_, fun _ => h1, ?_⟩
  · rw [hW1, hrec, hm]; exact run_enterLoop_outer _ _ _ _ _
  · simp only [resolve, hg]
    simp [go_sem]
  · intro f' hf'
    simp [Target.leads] at hf'
    subst hf'; exact hFg
  · simp [invoke, go_sem, eg]
  have up : ∀ {hi : Nat} {A B : World}, m + 2 ≤ hi → Upd (fun b => b = m + 1) A B → Upd (fun b => w.heap.size ≤ b ∧ b < hi) A B := fun hh h => h.mono fun b _ e => by subst e; omega
  refine (hseq (m + 1)
    (fun hi pre W => m + 2 ≤ hi ∧ I hi pre W ∧ W.heap[m + 1]? = some (.loop (rec .ready none)) ∧ W.heap[m]? = some (.deferred (some [])))
    (fun hi pre W => m + 2 ≤ hi ∧ ∃ c, Ix hi c pre W ∧ W.heap[m + 1]? = some (.loop (rec .done (some c))) ∧ W.heap[m]? = some (.deferred (some [])))
    W1 (hb0.trans (hbw.mono hb0.size)) (fun b hb => by have := hC b hb; omega) ?_ ?_ ?_ ?_).mono ?_
  · rintro hi pre A B ⟨hh, h2, h3, h4⟩ hu
    have l3 := (Array.getElem?_eq_some_iff.1 h3).1
    exact ⟨hh, hI hi pre A B h2 (hu.mono fun b _ e => by omega), (hu.block _ l3 (by omega)).trans h3, (hu.block _ (by omega) (by omega)).trans h4⟩
  · rintro hi pre A B ⟨hh, c, h2, h3, h4⟩ hu
    have l3 := (Array.getElem?_eq_some_iff.1 h3).1
    exact ⟨hh, c, hIx hi c pre A B h2 (hu.mono fun b _ e => by omega), (hu.block _ l3 (by omega)).trans h3, (hu.block _ (by omega) (by omega)).trans h4⟩
  · rintro hi pre x W hlo hhi ⟨hh, hi0, hl, hk⟩ hx hlen
    rw [hs1] at hlo hx
    have hlt : m + 1 < W.heap.size := (Array.getElem?_eq_some_iff.1 hl).1
    have hy := run_yield (P := P) (args := encs x) hl (by rw [hrec]; exact hps x)
    rw [hrec] at hy
    refine ⟨fn, _, assign, body, hy, roundIn_of_wpIn hfn (hassign _ x W _ ⟨_, run_beginRound hl (by rw [hrec]), ?_⟩)⟩
    obtain ⟨Wb, hWb⟩ : ∃ Wb, Wb = W.putObj (m + 1) (.loop { rec .ready none with state := .busy }) := ⟨_, rfl⟩
    have ub : Upd (fun b => b = m + 1) W Wb := by rw [hWb]; exact upd_putObj _ _ _ rfl
    have hl2 : Wb.heap[m + 1]? = some (.loop { rec .ready none with state := .busy }) := by rw [hWb]; exact World.putObj_heap_same hlt
    have hk2 : Wb.heap[m]? = some (.deferred (some [])) := (ub.block _ (by omega) (by omega)).trans hk
    have fin : ∀ (jump : Option Code) (W3 : World), Upd (fun b => C b ∨ hi ≤ b) Wb W3 →
        ∃ W4, (Instr.endRound (m + 1) jump).run P W3 = .ok (.bool jump.isNone) W4 ∧ Upd (fun b => b = m + 1) W3 W4 ∧ W4.heap[m + 1]? = some (.loop (rec (if jump.isNone then .ready else .done) jump)) ∧ W4.heap[m]? = some (.deferred (some [])) := fun jump W3 hu => by
      have hn1 : ¬ (C (m + 1) ∨ hi ≤ m + 1) := fun e => by rcases e with e | e; have := hC _ e; omega; omega
      have hn0 : ¬ (C m ∨ hi ≤ m) := fun e => by rcases e with e | e; have := hC _ e; omega; omega
      have hsz := ub.size
      have hl3 := (hu.block (m + 1) (by omega) hn1).trans hl2
      have hk3 := (hu.block m (by omega) hn0).trans hk2
      have hr := run_endRound (P := P) jump hl3
      rw [hrec] at hr ⊢
      refine ⟨_, hr, upd_putObj _ _ _ rfl, World.putObj_heap_same (by have := hu.size; omega), (World.putObj_heap_other (by omega)).trans hk3⟩
    rw [← hWb]
    refine wpIn_mono (hbody _ hi pre x _ (by omega) (Nat.le_trans hhi ub.size) (hI hi pre W Wb hi0 (up hh ub)) ⟨W, by rw [← hm]; exact hx, by rw [← hm]; exact ub⟩ hlen) ?_
    rintro e a3 W3 hp
    have way : ∀ (c : Code), (fun W' => Upd (fun b => C b ∨ hi ≤ b) Wb W') W3 ∧ Ix hi c (pre ++ [x]) W3 → ∃ v w', (Instr.endRound (m + 1) (some c)).run P W3 = .ok v w' ∧
        ((Ending.returned v = .returned (.bool true) ∧ (m + 2 ≤ hi ∧ I hi (pre ++ [x]) w' ∧ w'.heap[m + 1]? = some (.loop (rec .ready none)) ∧ w'.heap[m]? = some (.deferred (some []))) ∧ Upd (fun b => C b ∨ (w0.heap.size ≤ b ∧ b < W1.heap.size) ∨ hi ≤ b) W w') ∨
         (Ending.returned v = .returned (.bool false) ∧ m + 2 ≤ hi ∧ ∃ c, Ix hi c (pre ++ [x]) w' ∧ w'.heap[m + 1]? = some (.loop (rec .done (some c))) ∧ w'.heap[m]? = some (.deferred (some [])))) := fun c ⟨hu, h⟩ => by
      obtain ⟨W4, r1, r2, r3, r4⟩ := fin (some c) W3 hu
      exact ⟨_, W4, r1, .inr ⟨rfl, hh, c, hIx hi c _ _ _ h (up hh r2), r3, r4⟩⟩
    cases e with
    | normal =>
      obtain ⟨hu, h⟩ := hp
      obtain ⟨W4, r1, r2, r3, r4⟩ := fin none W3 hu
      refine ⟨_, W4, r1, .inl ⟨rfl, ⟨hh, hI hi _ _ _ h (up hh r2), r3, r4⟩, ?_⟩⟩
      have hw0 := hb0.size
      exact ((ub.mono fun b _ e => .inr (.inl (by omega))).trans (hu.mono fun b _ e => by rcases e with e | e; exact .inl e; exact .inr (.inr e))).trans (r2.mono fun b _ e => .inr (.inl (by omega)))
    | ret => exact way .ret hp
    | exit id => exact way (.exit id) hp
    | goto t => exact way (.goto t) hp
    | panic ch => exact hp.elim
    | outgrown => exact hp.elim
  · intro hi W' hb hlo hhi
    rw [hs1] at hlo hb
    refine ⟨hlo, h0 hi W' (hbw.trans (hb.mono (by omega))) (by omega) hhi, (hb.block _ (by omega)).trans hL1, (hb.block _ (by omega)).trans hK1⟩
  · rintro e W2 ⟨⟨v, rfl⟩, ⟨hi, xs, hS, hh, hi0, hl, hk⟩ | ⟨hi, pre, hSp, hh, c, hi0, hl, hk⟩⟩
    · have hr := run_endLoop (P := P) hl (by rw [hrec]; simp)
      rw [hrec] at hr
      refine ⟨none, _, hr, ?_⟩
      have := hdone hi xs (W2.putObj (m + 1) (.loop { rec .ready none with state := .exhausted })) hS (hI hi xs _ _ hi0 (up hh (upd_putObj W2 (m + 1) _ rfl))) (by rw [← hm]; exact (World.putObj_heap_other (by omega)).trans hk)
      rw [← hm, hrec] at this
      exact this
    · have hr := run_endLoop (P := P) hl (by rw [hrec]; simp)
      rw [hrec] at hr
      refine ⟨some c, _, hr, ?_⟩
      have := hstop hi c pre (W2.putObj (m + 1) (.loop { rec .done (some c) with state := .exhausted })) hSp (hIx hi c pre _ _ hi0 (up hh (upd_putObj W2 (m + 1) _ rfl))) (by rw [← hm]; exact (World.putObj_heap_other (by omega)).trans hk)
      rw [← hm, hrec] at this
      exact this
end Go.Proofs.YteinppjklhomnaaDoor
/- Scalar values and their forms: plain mathematics. -/
namespace Go.Proofs.YteinppjklhomnaaDoor
open Go.RowKit Go.ChangeShapes Go.WideShapes
/-- Is a number a scalar value? -/
def validB (r : Int) : Bool := decide (0 ≤ r) && decide (r ≤ 1114111) && (decide (r < 55296) || decide (57343 < r))
theorem validB_true {r : Int} : validB r = true ↔ (0 ≤ r ∧ r ≤ 1114111 ∧ (r < 55296 ∨ 57343 < r)) := by
  unfold validB; simp [and_assoc]
def sizeI (r : Int) : Int := if validB r = false then 0 else if r < 128 then 1 else if r < 2048 then 2 else if r < 65536 then 3 else 4

/-- The bytes of a scalar value. -/
def formL (r : Int) : List Int :=
  if validB r = false then [] else if r < 128 then [r] else if r < 2048 then [192 + r / 64, 128 + r % 64]
  else if r < 65536 then [224 + r / 4096, 128 + r / 64 % 64, 128 + r % 64] else [240 + r / 262144, 128 + r / 4096 % 64, 128 + r / 64 % 64, 128 + r % 64]
theorem formL_len (r : Int) : (formL r).length ≤ 4 := by
  unfold formL
  repeat' split
  all_goals simp

theorem Tryd.info5 : (Tryd.prog.info? 5).map (fun i => (i.zero, i.size, i.bytes)) = some (some (.int .u8 0), 1, 1) := by kernel_rfl

theorem formL_range (r : Int) : ∀ x ∈ formL r, 0 ≤ x ∧ x < 256 := by
  cases hv : validB r with
  | false => simp [formL, hv]
  | true =>
    have hr := validB_true.1 hv
    unfold formL
    rw [if_neg (by simp [hv])]
    intro x hx
    repeat' split at hx
    all_goals simp at hx
    all_goals omega
end Go.Proofs.YteinppjklhomnaaDoor
/- Contracts of scalar's functions and of the reference's: what each answers, at every argument. -/
namespace Go.Proofs.YteinppjklhomnaaDoor
open Go.RowKit

theorem valid_any (r : Int) (w : World) : Calls Tryd.prog 123 #[.int .i32 r] w fun e w' => e = .returned (.bool (validB r)) ∧ w = w' := by
  by_cases h0 : 0 ≤ r
  · by_cases h1 : r ≤ 1114111
    · by_cases h2 : r < 55296
      · have hv : validB r = true := validB_true.2 (by omega)
        rw [hv]
        go_enter Tryd.func123, Tryd.ntmps123
        go_wp2
        go_ret
        exact ⟨rfl, rfl⟩
      · by_cases h3 : 57343 < r
        · have hv : validB r = true := validB_true.2 (by omega)
          rw [hv]
          go_enter Tryd.func123, Tryd.ntmps123
          go_wp2
          go_ret
          exact ⟨rfl, rfl⟩
        · have hv : validB r = false := by unfold validB; simp; omega
          rw [hv]
          go_enter Tryd.func123, Tryd.ntmps123
          go_wp2
          go_ret
          exact ⟨rfl, rfl⟩
    · have hv : validB r = false := by unfold validB; simp; omega
      rw [hv]
      go_enter Tryd.func123, Tryd.ntmps123
      go_wp2
      go_ret
      exact ⟨rfl, rfl⟩
  · have hv : validB r = false := by unfold validB; simp; omega
    rw [hv]
    go_enter Tryd.func123, Tryd.ntmps123
    go_wp2
    go_ret
    exact ⟨rfl, rfl⟩
def Appended (B : Nat) (w : World) (n : Nat) (xs : List Int) (e : Ending) (w' : World) : Prop :=
  ∃ v', e = .returned v' ∧ w'.ownsRow B 5 1 v' n (xs.map (Value.int .u8)) ∧ Below B w w'

end Go.Proofs.YteinppjklhomnaaDoor
/- What Replace gives. -/
namespace Go.Proofs.YteinppjklhomnaaDoor
open Go.RowKit Go.ChangeShapes Go.WideShapes
/-- What Replace gives of a number. -/
def repl (x : Int) : Int := if validB x = true then x else 65533
theorem Tryd.info21r : (Tryd.prog.info? 21).map (fun i => (i.zero, i.size, i.bytes)) = some (some (.int .i32 0), 1, 4) := by kernel_rfl
/-- The first k replaced, zeros behind. -/
def replL (xs : List Int) (k : Nat) : List Int := (xs.take k).map repl ++ List.replicate (xs.length - k) 0
theorem replL_len (xs : List Int) (k : Nat) (h : k ≤ xs.length) : (replL xs k).length = xs.length := by simp [replL]; omega
theorem replL_set (xs : List Int) (k : Nat) (h : k < xs.length) : (replL xs k).set k (repl (xs.getD k 0)) = replL xs (k + 1) := by
  unfold replL
  have e1 : xs.length - k = (xs.length - (k + 1)) + 1 := by omega
  have e3 : ((xs.take k).map repl).length = k := by simp; omega
  rw [e1, List.replicate_succ, List.set_append, if_neg (by omega), List.take_succ_eq_append_getElem h, e3, Nat.sub_self]
  simp [List.getD, List.getElem?_eq_getElem h, List.take_succ_eq_append_getElem (show k < (xs.map repl).length by simpa using h)]
theorem made_ints (k : IntKind) (n : Nat) : (madeCells (Value.int k 0).cells (n * 1)).toList = (List.replicate n (0 : Int)).map (Value.int k) := by
  apply List.ext_getElem
  · simp [madeCells]
  · intro i h1 h2
    simp [madeCells, Value.cells, Nat.mod_one]
def ReplRel (w : World) (g : Nat) (xs : List Int) (k : Nat) (wr : World) : Prop :=
  wr.ownsRow w.heap.size 21 1 (.slice (some ⟨g, 0, none⟩) xs.length xs.length) xs.length ((replL xs k).map (Value.int .i32)) ∧ Below w.heap.size w wr

set_option maxRecDepth 100000 in
theorem replace_own (v : Value) (xs : List Int) (w : World) (hh : Held .i32 w v xs) (hlen : xs.length ≤ 1000000000) :
    Calls Tryd.prog 98 #[v] w (fun e w' => ∃ v', e = .returned v' ∧ w'.ownsRow w.heap.size 21 1 v' xs.length ((xs.map repl).map (Value.int .i32)) ∧ Below w.heap.size w w') := by
  obtain ⟨ao, cap, rfl, hc⟩ := hh.view
  have HC := Lib.hid hc
  clear hc hh
  obtain ⟨i0, hi, hz0, hz1, hz2⟩ := info_parts Tryd.info21r
  go_enter Tryd.func98, Tryd.ntmps98
  go_wp2_with (at_make; refine wpList_make_full w rfl (.tmp 7) (.tmp 7) 33 rfl w.heap.size 21 i0 (.int .i32 0) 1 Tryd.underlying33 hi hz0 hz1 .i64 .i64 _ _ xs.length rfl rfl rfl rfl (by rw [hz2]; omega) (by unfold maxLen; omega) (Nat.le_refl _) ?_)
  intro w1 hown1 hg1
  have hb1 : Below w.heap.size w w1 := (Below.refl _ _).grown hg1 (Nat.le_refl _) (by intro k hk; cases hk)
  have hrel0 : ReplRel w w.heap.size xs 0 w1 := by
    refine ⟨?_, hb1⟩
    have e : replL xs 0 = List.replicate xs.length 0 := by simp [replL]
    rw [e, ← made_ints, Nat.mul_one]
    exact hown1
  clear hown1 hg1 hb1
  have HR := Lib.hid hrel0
  clear hrel0
  generalize hgn : w.heap.size = g at HR
  have HG := Lib.hid hgn
  clear hgn
  go_wp2
  go_loopw [11] (fun i wr => ∃ k : Nat, k ≤ xs.length ∧ i = .int .i64 k ∧ ReplRel w g xs k wr) (fun i _ => xs.length - (intOf i).toNat)
  case atStart => exact ⟨0, Nat.zero_le _, rfl, HR.out⟩
  case round =>
    obtain ⟨m, hm, rfl, hrel⟩ := hrel
    by_cases hlm : m < xs.length
    · obtain ⟨b, off, rfl, hb, hcx⟩ := HC.out m hlm
      have hcx := (hrel.2.cell (p := ⟨b, off + m, none⟩) hb).trans hcx
      obtain ⟨x, hx⟩ : ∃ x, x = xs.getD m 0 := ⟨_, rfl⟩
      rw [← hx] at hcx
      have hcell0 : ∃ y, wr.cell? ⟨g, m, none⟩ = some y := by
        rw [hrel.1.cellAt m (by omega)]
        exact ⟨_, List.getElem?_eq_getElem (by simp [replL_len xs m (by omega)]; omega)⟩
      obtain ⟨y, hy⟩ := hcell0
      have hfro := hrel.1.frozenAt m
      have hst := fun u => hrel.1.stored m u
      have hBg : w.heap.size ≤ g := (hrel.1.lt g rfl).1
      have next : ∀ z, z = repl x → ReplRel w g xs (m + 1) (wr.setCell ⟨g, m, none⟩ (.int .i32 z)) := by
        intro z hz
        refine ⟨?_, hrel.2.setCell (p := ⟨g, m, none⟩) hBg _⟩
        rw [hz, hx]
        have := (hst (.int .i32 (repl (xs.getD m 0)))).1
        rw [← List.map_set, replL_set xs m hlm] at this
        exact this
      have NX := Lib.hid next
      clear next hst hx hrel
      by_cases hvx : validB x = true
      · have HV := Lib.hid hvx
        clear hvx
        go_wp2_with fail
        refine (valid_any _ _).mono ?_
        rintro e w' ⟨rfl, rfl⟩
        rw [HV.out]
        go_wp2
        go_roundw
        case rel => exact ⟨m + 1, by omega, by go_num, NX.out x (by unfold repl; rw [if_pos HV.out])⟩
        case measure => simp [intOf]; omega
      · have HV := Lib.hid (show validB x = false by simpa using hvx)
        clear hvx
        go_wp2_with fail
        refine (valid_any _ _).mono ?_
        rintro e w' ⟨rfl, rfl⟩
        rw [HV.out]
        go_wp2
        go_roundw
        case rel => exact ⟨m + 1, by omega, by go_num, NX.out 65533 (by unfold repl; rw [if_neg (by rw [HV.out]; decide)])⟩
        case measure => simp [intOf]; omega
    · go_wp2
      go_ret
      have hkk : m = xs.length := by omega
      subst hkk
      have hr1 := hrel.1
      rw [show replL xs xs.length = xs.map repl by simp [replL]] at hr1
      exact ⟨_, rfl, hr1, hrel.2⟩
theorem replace_any (v : Value) (xs : List Int) (w : World) (hh : Held .i32 w v xs) (hlen : xs.length ≤ 1000000000) :
    Calls Tryd.prog 98 #[v] w (Made .i32 w (xs.map repl)) :=
  (replace_own v xs w hh hlen).mono fun _ _ ⟨v', h1, h2, h3⟩ => ⟨v', h1, held_of_owns h2, h3⟩
end Go.Proofs.YteinppjklhomnaaDoor
/- Cells: what the document says of them. -/
namespace Go.Proofs.YteinppjklhomnaaDoor
open Go.RowKit Go.ChangeShapes Go.WideShapes
/-- A cell: its kind, its numbers. -/
abbrev Cl := Int × List Int
abbrev zc : Cl := (0, [])
def allValid (t : List Int) : Bool := t.all validB
def rightB (c : Cl) : Bool := if c.1 == 0 || c.1 == 3 then c.2.length == 0 else (c.1 == 1 || c.1 == 2) && decide (0 < c.2.length) && decide (c.2.length ≤ 16) && allValid c.2
def soundF (lead : Bool) : List Cl → Bool
  | [] => !lead
  | c :: l => rightB c && (lead == (c.1 == 3)) && soundF (c.1 == 2) l
def soundB (l : List Cl) : Bool := soundF false l
/-- The kind of a place, 0 outside. -/
def kindAt (l : List Cl) (i : Int) : Int := if i < 0 then 0 else (l.getD i.toNat zc).1
def okAt (l : List Cl) (i : Nat) : Bool := rightB (l.getD i zc) && !((l.getD i zc).1 == 2 && kindAt l ((i : Int) + 1) != 3) && !((l.getD i zc).1 == 3 && kindAt l ((i : Int) - 1) != 2)
def okTo (l : List Cl) (n : Nat) : Bool := (List.range n).all (okAt l)
theorem okTo_succ (l : List Cl) (n : Nat) : okTo l (n + 1) = (okTo l n && okAt l n) := by unfold okTo; rw [List.range_succ]; simp
theorem okTo_not {l : List Cl} {k n : Nat} (hk : k < n) (h : okAt l k = false) : okTo l n = false := by
  cases hc : okTo l n with
  | false => rfl
  | true =>
    unfold okTo at hc
    rw [List.all_eq_true] at hc
    rw [hc k (List.mem_range.2 hk)] at h
    cases h
theorem okTo_at {l : List Cl} {k n : Nat} (hk : k < n) (h : okTo l n = true) : okAt l k = true := by
  unfold okTo at h
  rw [List.all_eq_true] at h
  exact h k (List.mem_range.2 hk)
/-- The state ahead of place k. -/
def leadAt (l : List Cl) (k : Nat) : Bool := if k = 0 then false else (l.getD (k - 1) zc).1 == 2
def soundAt (l : List Cl) (k : Nat) : Bool := rightB (l.getD k zc) && (leadAt l k == ((l.getD k zc).1 == 3))
theorem leadAt_succ (l : List Cl) (k : Nat) : leadAt l (k + 1) = ((l.getD k zc).1 == 2) := by unfold leadAt; rw [if_neg (by omega)]; rfl
theorem soundF_drop (l : List Cl) (k : Nat) (hk : k < l.length) : soundF (leadAt l k) (l.drop k) = (soundAt l k && soundF (leadAt l (k + 1)) (l.drop (k + 1))) := by
  rw [List.drop_eq_getElem_cons hk, leadAt_succ]
  unfold soundAt
  have e : l.getD k zc = l[k] := by simp [List.getD, List.getElem?_eq_getElem hk]
  rw [e]
  rfl
theorem soundB_bad {l : List Cl} {k : Nat} (hk : k < l.length) (hp : soundF (leadAt l k) (l.drop k) = soundB l) (h : soundAt l k = false) : soundB l = false := by
  rw [← hp, soundF_drop l k hk, h]; rfl
theorem soundB_next {l : List Cl} {k : Nat} (hk : k < l.length) (hp : soundF (leadAt l k) (l.drop k) = soundB l) (h : soundAt l k = true) : soundF (leadAt l (k + 1)) (l.drop (k + 1)) = soundB l := by
  rw [← hp, soundF_drop l k hk, h]; rfl
theorem soundB_end {l : List Cl} (hp : soundF (leadAt l l.length) (l.drop l.length) = soundB l) : soundB l = !leadAt l l.length := by
  rw [← hp, List.drop_length]; rfl
theorem getD_ge {α : Type} (l : List α) (d : α) (k : Nat) (h : l.length ≤ k) : l.getD k d = d := by simp [List.getD, List.getElem?_eq_none h]
/-- Both ways to say it are one. -/
theorem sound_iff (l : List Cl) : soundB l = okTo l l.length := by
  have key : ∀ n, n ≤ l.length → ((∀ k, k < n → soundAt l k = true) ∧ leadAt l n = false ↔ (∀ k, k < n → okAt l k = true) ∧ (0 < n → n < l.length → (l.getD n zc).1 ≠ 3 → True) ∧ (∀ k, k < n → True) ∧ (leadAt l n = false)) ∨ True := fun _ _ => .inr trivial
  clear key
  -- by induction: all places up tz9 n are sound just if all are so, but for what a lead at n - 1 awaits
  have ind : ∀ n, n ≤ l.length → ((∀ k, k < n → soundAt l k = true) ↔ (∀ k, k < n → rightB (l.getD k zc) = true) ∧ (∀ k, k + 1 < n → ((l.getD k zc).1 == 2) = ((l.getD (k + 1) zc).1 == 3)) ∧ (0 < n → ((l.getD 0 zc).1 == 3) = false)) := by
    intro n hn
    induction n with
    | zero => simp
    | succ n ih =>
      have ih := ih (by omega)
      constructor
      · intro h
        obtain ⟨h1, h2, h3⟩ := ih.1 fun k hk => h k (by omega)
        have hn1 := h n (by omega)
        unfold soundAt at hn1
        simp only [Bool.and_eq_true, beq_iff_eq] at hn1
        refine ⟨fun k hk => ?_, fun k hk => ?_, fun _ => ?_⟩
        · rcases Nat.lt_or_ge k n with h4 | h4
          · exact h1 k h4
          · obtain rfl : k = n := by omega
            exact hn1.1
        · rcases Nat.lt_or_ge (k + 1) n with h4 | h4
          · exact h2 k h4
          · obtain rfl : n = k + 1 := by omega
            rw [← leadAt_succ]; exact hn1.2
        · rcases Nat.eq_zero_or_pos n with h4 | h4
          · subst h4
            have := hn1.2
            unfold leadAt at this
            rw [if_pos rfl] at this
            exact this.symm
          · exact h3 h4
      · rintro ⟨h1, h2, h3⟩ k hk
        rcases Nat.lt_or_ge k n with h4 | h4
        · exact (ih.2 ⟨fun k hk => h1 k (by omega), fun k hk => h2 k (by omega), fun h => h3 (by omega)⟩) k h4
        · obtain rfl : k = n := by omega
          unfold soundAt
          rw [h1 k (by omega)]
          simp only [Bool.true_and, beq_iff_eq]
          cases k with
          | zero => unfold leadAt; rw [if_pos rfl, h3 (by omega)]
          | succ k => rw [leadAt_succ]; exact h2 k (by omega)
  have hs : soundB l = true ↔ (∀ k, k < l.length → soundAt l k = true) ∧ leadAt l l.length = false := by
    have step : ∀ m k, l.length - k = m → k ≤ l.length → (soundF (leadAt l k) (l.drop k) = true ↔ (∀ j, k ≤ j → j < l.length → soundAt l j = true) ∧ leadAt l l.length = false) := by
      intro m
      induction m with
      | zero =>
        intro k hm hk
        obtain rfl : k = l.length := by omega
        rw [List.drop_length]
        unfold soundF
        constructor
        · intro h; exact ⟨fun j h1 h2 => by omega, by simpa using h⟩
        · rintro ⟨_, h⟩; simpa using h
      | succ m ih =>
        intro k hm hk
        rw [soundF_drop l k (by omega), Bool.and_eq_true, ih (k + 1) (by omega) (by omega)]
        constructor
        · rintro ⟨h1, h2, h3⟩
          refine ⟨fun j h4 h5 => ?_, h3⟩
          rcases Nat.eq_or_lt_of_le h4 with h6 | h6
          · subst h6; exact h1
          · exact h2 j h6 h5
        · rintro ⟨h1, h2⟩
          exact ⟨h1 k (Nat.le_refl _) (by omega), fun j h3 h4 => h1 j (by omega) h4, h2⟩
    have := step l.length 0 (by omega) (Nat.zero_le _)
    rw [show soundB l = soundF (leadAt l 0) (l.drop 0) from rfl, this]
    constructor
    · rintro ⟨h1, h2⟩; exact ⟨fun k hk => h1 k (Nat.zero_le _) hk, h2⟩
    · rintro ⟨h1, h2⟩; exact ⟨fun k _ hk => h1 k hk, h2⟩
  have hr : okTo l l.length = true ↔ ∀ k, k < l.length → okAt l k = true := by
    constructor
    · intro h k hk; exact okTo_at hk h
    · intro h
      unfold okTo
      rw [List.all_eq_true]
      intro k hk
      exact h k (List.mem_range.1 hk)
  have hk1 : ∀ k : Nat, kindAt l ((k : Int) + 1) = (l.getD (k + 1) zc).1 := fun k => by
    unfold kindAt
    rw [if_neg (by omega), show ((k : Int) + 1).toNat = k + 1 by omega]
  have hk2 : ∀ k : Nat, kindAt l ((k : Int) - 1) = if k = 0 then 0 else (l.getD (k - 1) zc).1 := fun k => by
    unfold kindAt
    by_cases h : k = 0
    · subst h; rfl
    · rw [if_neg (by omega), if_neg h, show ((k : Int) - 1).toNat = k - 1 by omega]
  rw [Bool.eq_iff_iff, hs, hr, ind l.length (Nat.le_refl _)]
  constructor
  · rintro ⟨⟨h1, h2, h3⟩, h4⟩ k hk
    unfold okAt
    rw [h1 k hk, hk1, hk2]
    simp only [Bool.true_and, Bool.and_eq_true, Bool.not_eq_true', Bool.and_eq_false_iff, bne_eq_false_iff_eq, beq_eq_false_iff_ne]
    refine ⟨?_, ?_⟩
    · by_cases h5 : (l.getD k zc).1 = 2
      · right
        rcases Nat.lt_or_ge (k + 1) l.length with h6 | h6
        · have := h2 k h6
          rw [h5] at this
          simpa using this.symm
        · exfalso
          have h7 : leadAt l (k + 1) = true := by rw [leadAt_succ, h5]; rfl
          rw [show k + 1 = l.length by omega, h4] at h7
          cases h7
      · exact .inl h5
    · by_cases h5 : (l.getD k zc).1 = 3
      · right
        cases k with
        | zero =>
          have := h3 hk
          rw [h5] at this
          cases this
        | succ k =>
          have := h2 k hk
          rw [h5] at this
          rw [if_neg (by omega)]
          simpa using this
      · exact .inl h5
  · intro h
    have hx : ∀ k, k < l.length → rightB (l.getD k zc) = true ∧ ((l.getD k zc).1 = 2 → (l.getD (k + 1) zc).1 = 3) ∧ ((l.getD k zc).1 = 3 → k ≠ 0 ∧ (l.getD (k - 1) zc).1 = 2) := by
      intro k hk
      have h1 := h k hk
      unfold okAt at h1
      rw [hk1, hk2] at h1
      simp only [Bool.and_eq_true, Bool.not_eq_true', Bool.and_eq_false_iff, bne_eq_false_iff_eq, beq_eq_false_iff_ne] at h1
      obtain ⟨⟨h1, h2⟩, h3⟩ := h1
      refine ⟨h1, fun h4 => ?_, fun h4 => ?_⟩
      · rcases h2 with h2 | h2
        · exact absurd h4 h2
        · exact h2
      · rcases h3 with h3 | h3
        · exact absurd h4 h3
        · split at h3
          · cases h3
          · exact ⟨by assumption, h3⟩
    refine ⟨⟨fun k hk => (hx k hk).1, fun k hk => ?_, fun h0 => ?_⟩, ?_⟩
    · rw [Bool.eq_iff_iff, beq_iff_eq, beq_iff_eq]
      exact ⟨(hx k (by omega)).2.1, fun h4 => ((hx (k + 1) hk).2.2 h4).2⟩
    · rw [beq_eq_false_iff_ne]
      intro h4
      exact ((hx 0 h0).2.2 h4).1 rfl
    · unfold leadAt
      split
      · rfl
      · rename_i hne
        rw [beq_eq_false_iff_ne]
        intro h4
        have h5 := (hx (l.length - 1) (by omega)).2.1 h4
        rw [show l.length - 1 + 1 = l.length by omega, getD_ge _ _ _ (Nat.le_refl _)] at h5
        cases h5
def textL (l : List Cl) : List Int := l.flatMap (·.2)
def sameC (a b : List Cl) : Bool := decide (a = b)
/-- The strip of a cluster. -/
def ofC (wide : Int) (text : List Int) : List Cl :=
  let t := (text.take 16).map repl
  if t.length = 0 then (if 2 ≤ wide then [zc, zc] else [zc]) else if 2 ≤ wide then [(2, t), (3, [])] else [(1, t)]
end Go.Proofs.YteinppjklhomnaaDoor
/- Cells in memory. -/
namespace Go.Proofs.YteinppjklhomnaaDoor
open Go.RowKit Go.ChangeShapes Go.WideShapes
def cellE : Elem Cl := prE (intE .i64) (slE (intE .i32))
abbrev cellsE : Elem (List Cl) := slE cellE
theorem cellE_size : cellE.size = 2 := rfl
theorem cell_rep {Z : Zone} {w : World} {C : List Value} {x : Cl} : cellE.rep Z w C x ↔ ∃ tv, C = [.int .i64 x.1, tv] ∧ HeldE (intE .i32) Z w tv x.2 := by
  constructor
  · rintro ⟨C1, C2, rfl, rfl, tv, rfl, h⟩
    exact ⟨tv, rfl, h⟩
  · rintro ⟨tv, rfl, h⟩
    exact ⟨[_], [tv], rfl, rfl, tv, rfl, h⟩
/-- What a walk asks of a list of cells. -/
theorem cells_at {Z : Zone} {w : World} {ao : Option Addr} {n cap : Nat} {L : List Cl} (h : HeldE cellE Z w (.slice ao n cap) L) : n = L.length ∧ n ≤ cap ∧ ∀ i, i < L.length → ∃ b off tv, ao = some ⟨b, off, none⟩ ∧ b < w.heap.size ∧ Z b ∧
    w.cell? ⟨b, off + i * 2, none⟩ = some (.int .i64 (L.getD i zc).1) ∧ w.cell? ⟨b, off + i * 2 + 1, none⟩ = some tv ∧ HeldE (intE .i32) Z w tv (L.getD i zc).2 := by
  obtain ⟨h1, h2, h3⟩ := h.spots
  refine ⟨h1, h2, fun i hi => ?_⟩
  obtain ⟨b, off, rfl, hb, hz, C, hC, hr⟩ := h3 i hi
  obtain ⟨tv, rfl, ht⟩ := cell_rep.1 hr
  exact ⟨b, off, tv, rfl, hb, hz, hC 0 (by decide), hC 1 (by decide), ht⟩
set_option maxRecDepth 100000 in
theorem cells_arg {H : Type} {enc : TypeId × Value → H} {W : World} {base : Nat} {v : Value} {d : DataW H} {p : List MemPlace} (hv : Value.okWide Tryd.prog W .any base 57 v) (h : DataW.Trod enc Tryd.prog W 0 (fun _ => true) true 57 v d p) :
    ∃ L, HeldE cellE (fun b => b < W.heap.size) W v L ∧ ∀ x ∈ L, (Lit.int .i64 x.1).wf = true ∧ ∀ n ∈ x.2, (Lit.int .i32 n).wf = true :=
  opens_arg Tryd.underlying57 (by kernel_rfl) (by decide) (opens_pair Tryd.underlying85 (by kernel_rfl) rfl rfl (opens_int Tryd.underlying3 (by kernel_rfl)) (opens_slice Tryd.underlying33 (by kernel_rfl) (by decide) (opens_int Tryd.underlying21 (by kernel_rfl)))) hv h
theorem info_cell : (Tryd.prog.info? 85).map (fun i => (i.zero, i.size, i.bytes)) = some (some (.agg #[.int .i64 0, .slice none 0 0]), cellE.size, 32) := by kernel_rfl
theorem info_rune : (Tryd.prog.info? 21).map (fun i => (i.zero, i.size, i.bytes)) = some (some (.int .i32 0), (intE .i32).size, 4) := by kernel_rfl
end Go.Proofs.YteinppjklhomnaaDoor
/- What painting leaves. -/
namespace Go.Proofs.YteinppjklhomnaaDoor
open Go.RowKit Go.ChangeShapes Go.WideShapes
theorem sound_prop (L : List Cl) : soundB L = true ↔ ∀ i, i < L.length → rightB (L.getD i zc) = true ∧ ((L.getD i zc).1 = 2 → (L.getD (i + 1) zc).1 = 3) ∧ ((L.getD i zc).1 = 3 → 0 < i ∧ (L.getD (i - 1) zc).1 = 2) := by
  have hk1 : ∀ k : Nat, kindAt L ((k : Int) + 1) = (L.getD (k + 1) zc).1 := fun k => by
    unfold kindAt
    rw [if_neg (by omega), show ((k : Int) + 1).toNat = k + 1 by omega]
  have hk2 : ∀ k : Nat, kindAt L ((k : Int) - 1) = if k = 0 then 0 else (L.getD (k - 1) zc).1 := fun k => by
    unfold kindAt
    by_cases h : k = 0
    · subst h; rfl
    · rw [if_neg (by omega), if_neg h, show ((k : Int) - 1).toNat = k - 1 by omega]
  have one : ∀ i, okAt L i = true ↔ rightB (L.getD i zc) = true ∧ ((L.getD i zc).1 = 2 → (L.getD (i + 1) zc).1 = 3) ∧ ((L.getD i zc).1 = 3 → 0 < i ∧ (L.getD (i - 1) zc).1 = 2) := by
    intro i
    unfold okAt
    rw [hk1, hk2]
    simp only [Bool.and_eq_true, Bool.not_eq_true', Bool.and_eq_false_iff, bne_eq_false_iff_eq, beq_eq_false_iff_ne]
    constructor
    · rintro ⟨⟨h1, h2⟩, h3⟩
      refine ⟨h1, fun h => ?_, fun h => ?_⟩
      · rcases h2 with h2 | h2
        · exact absurd h h2
        · exact h2
      · rcases h3 with h3 | h3
        · exact absurd h h3
        · split at h3
          · cases h3
          · exact ⟨by omega, h3⟩
    · rintro ⟨h1, h2, h3⟩
      refine ⟨⟨h1, ?_⟩, ?_⟩
      · by_cases h : (L.getD i zc).1 = 2
        · exact .inr (h2 h)
        · exact .inl h
      · by_cases h : (L.getD i zc).1 = 3
        · obtain ⟨h4, h5⟩ := h3 h
          rw [if_neg (by omega)]
          exact .inr h5
        · exact .inl h
  rw [sound_iff]
  constructor
  · intro h i hi
    exact (one i).1 (okTo_at hi h)
  · intro h
    unfold okTo
    rw [List.all_eq_true]
    intro i hi
    exact (one i).2 (h i (List.mem_range.1 hi))
def inP (a m i : Nat) : Prop := a ≤ i ∧ i < a + m
instance (a m i : Nat) : Decidable (inP a m i) := by unfold inP; infer_instance
def tornP (L : List Cl) (a m i : Nat) : Prop := ((L.getD i zc).1 = 2 ∧ inP a m (i + 1)) ∨ ((L.getD i zc).1 = 3 ∧ 0 < i ∧ inP a m (i - 1))
instance (L : List Cl) (a m i : Nat) : Decidable (tornP L a m i) := by unfold tornP; infer_instance
def paintAt (L p : List Cl) (a i : Nat) : Cl := if inP a p.length i then p.getD (i - a) zc else if tornP L a p.length i then zc else L.getD i zc
def paintL (L p : List Cl) (a : Nat) : List Cl := (List.range L.length).map (paintAt L p a)
/-- Has the last place turned? -/
def lastHit (L p : List Cl) (a : Nat) : Bool := decide (inP a p.length (L.length - 1)) || decide (tornP L a p.length (L.length - 1))
theorem paint_len (L p : List Cl) (a : Nat) : (paintL L p a).length = L.length := by simp [paintL]
theorem paint_get (L p : List Cl) (a i : Nat) (h : i < L.length) : (paintL L p a).getD i zc = paintAt L p a i := by simp [paintL, List.getD, h]
theorem paint_none (L : List Cl) (a : Nat) : paintL L [] a = L := by
  apply List.ext_getElem
  · simp [paintL]
  · intro i h1 h2
    simp only [paintL, List.getElem_map, List.getElem_range]
    unfold paintAt
    have n1 : ¬ inP a ([] : List Cl).length i := by unfold inP; simp only [List.length_nil]; omega
    have n2 : ¬ tornP L a ([] : List Cl).length i := by unfold tornP inP; simp only [List.length_nil]; omega
    rw [if_neg n1, if_neg n2]
    simp [List.getD, List.getElem?_eq_getElem h2]
theorem lastHit_none (L : List Cl) (a : Nat) : lastHit L [] a = false := by
  have n1 : ¬ inP a ([] : List Cl).length (L.length - 1) := by unfold inP; simp only [List.length_nil]; omega
  have n2 : ¬ tornP L a ([] : List Cl).length (L.length - 1) := by unfold tornP inP; simp only [List.length_nil]; omega
  unfold lastHit
  rw [decide_eq_false n1, decide_eq_false n2]
  rfl
theorem paint_sound {L p : List Cl} {a : Nat} (hL : soundB L = true) (hp : soundB p = true) (hle : a + p.length ≤ L.length) : soundB (paintL L p a) = true := by
  rw [sound_prop] at hL hp ⊢
  rw [paint_len]
  intro i hi
  have out : ∀ j, L.length ≤ j → (paintL L p a).getD j zc = zc := fun j hj => getD_ge _ _ _ (by rw [paint_len]; exact hj)
  have outL : ∀ j, L.length ≤ j → L.getD j zc = zc := fun j hj => getD_ge _ _ _ hj
  have outp : ∀ j, p.length ≤ j → p.getD j zc = zc := fun j hj => getD_ge _ _ _ hj
  rw [paint_get L p a i hi]
  unfold paintAt
  by_cases hin : inP a p.length i
  · rw [if_pos hin]
    obtain ⟨h1, h2⟩ := hin
    obtain ⟨r1, r2, r3⟩ := hp (i - a) (by omega)
    refine ⟨r1, fun h => ?_, fun h => ?_⟩
    · have h3 := r2 h
      have h4 : i - a + 1 < p.length := by
        rcases Nat.lt_or_ge (i - a + 1) p.length with h | h
        · exact h
        · rw [outp _ h] at h3; cases h3
      rw [paint_get L p a (i + 1) (by omega)]
      unfold paintAt
      rw [if_pos ⟨by omega, by omega⟩, show i + 1 - a = i - a + 1 by omega]
      exact h3
    · obtain ⟨h3, h4⟩ := r3 h
      refine ⟨by omega, ?_⟩
      rw [paint_get L p a (i - 1) (by omega)]
      unfold paintAt
      rw [if_pos ⟨by omega, by omega⟩, show i - 1 - a = i - a - 1 by omega]
      exact h4
  · rw [if_neg hin]
    by_cases ht : tornP L a p.length i
    · rw [if_pos ht]
      exact ⟨by decide, fun h => absurd h (by decide), fun h => absurd h (by decide)⟩
    · rw [if_neg ht]
      obtain ⟨r1, r2, r3⟩ := hL i hi
      refine ⟨r1, fun h => ?_, fun h => ?_⟩
      · have h3 := r2 h
        have h4 : i + 1 < L.length := by
          rcases Nat.lt_or_ge (i + 1) L.length with h | h
          · exact h
          · rw [outL _ h] at h3; cases h3
        rw [paint_get L p a (i + 1) h4]
        unfold paintAt
        have n1 : ¬ inP a p.length (i + 1) := fun k => ht (.inl ⟨h, k⟩)
        have n2 : ¬ tornP L a p.length (i + 1) := by
          rintro (⟨k, _⟩ | ⟨_, _, k⟩)
          · rw [h3] at k; cases k
          · exact hin (by simpa using k)
        rw [if_neg n1, if_neg n2]
        exact h3
      · obtain ⟨h3, h4⟩ := r3 h
        refine ⟨h3, ?_⟩
        rw [paint_get L p a (i - 1) (by omega)]
        unfold paintAt
        have n1 : ¬ inP a p.length (i - 1) := fun k => ht (.inr ⟨h, h3, k⟩)
        have n2 : ¬ tornP L a p.length (i - 1) := by
          rintro (⟨_, k⟩ | ⟨k, _, _⟩)
          · exact hin (by rwa [show i - 1 + 1 = i by omega] at k)
          · rw [h4] at k; cases k
        rw [if_neg n1, if_neg n2]
        exact h4
/- Step by step. -/
def leadB (L : List Cl) (a : Nat) : Bool := decide (0 < a) && (L.getD (a - 1) zc).1 == 2
def tailB (L : List Cl) (e : Nat) : Bool := decide (e < L.length) && (L.getD e zc).1 == 3
def step1 (L : List Cl) (a : Nat) : List Cl := if leadB L a = true then L.set (a - 1) zc else L
def step2 (L : List Cl) (a m : Nat) : List Cl := if tailB L (a + m) = true then (step1 L a).set (a + m) zc else step1 L a
def step3 (L p : List Cl) (a k : Nat) : List Cl := (List.range L.length).map fun i => if inP a k i then p.getD (i - a) zc else (step2 L a p.length).getD i zc
theorem step1_len (L : List Cl) (a : Nat) : (step1 L a).length = L.length := by unfold step1; split <;> simp
theorem step2_len (L : List Cl) (a m : Nat) : (step2 L a m).length = L.length := by unfold step2; split <;> simp [step1_len]
theorem step3_len (L p : List Cl) (a k : Nat) : (step3 L p a k).length = L.length := by simp [step3]
theorem getD_set {α : Type} (l : List α) (d x : α) (i j : Nat) : (l.set i x).getD j d = if i = j ∧ j < l.length then x else l.getD j d := by
  simp only [List.getD, List.getElem?_set]
  split
  · rename_i h
    subst h
    by_cases h2 : i < l.length
    · simp [h2]
    · simp [h2]
  · rename_i h
    rw [if_neg (fun k => h k.1)]
theorem step1_at (L : List Cl) (a i : Nat) : (step1 L a).getD i zc = if leadB L a = true ∧ i = a - 1 then zc else L.getD i zc := by
  unfold step1
  split
  · rename_i h
    rw [getD_set]
    by_cases e : a - 1 = i
    · by_cases hl : i < L.length
      · rw [if_pos ⟨e, hl⟩, if_pos ⟨h, e.symm⟩]
      · rw [if_neg (fun k => hl k.2), getD_ge _ _ _ (by omega)]
        split <;> rfl
    · rw [if_neg (fun k => e k.1), if_neg (fun k => e k.2.symm)]
  · rename_i h
    rw [if_neg (fun k => h k.1)]
theorem step2_at (L : List Cl) (a m i : Nat) : (step2 L a m).getD i zc = if tailB L (a + m) = true ∧ i = a + m then zc else (step1 L a).getD i zc := by
  unfold step2
  split
  · rename_i h
    rw [getD_set, step1_len]
    by_cases e : a + m = i
    · by_cases hl : i < L.length
      · rw [if_pos ⟨e, hl⟩, if_pos ⟨h, e.symm⟩]
      · rw [if_neg (fun k => hl k.2), getD_ge (step1 L a) _ _ (by rw [step1_len]; omega)]
        split <;> rfl
    · rw [if_neg (fun k => e k.1), if_neg (fun k => e k.2.symm)]
  · rename_i h
    rw [if_neg (fun k => h k.1)]
theorem step3_zero (L p : List Cl) (a : Nat) : step3 L p a 0 = step2 L a p.length := by
  apply List.ext_getElem
  · simp [step3, step2_len]
  · intro i h1 h2
    simp only [step3, List.getElem_map, List.getElem_range]
    rw [if_neg (by unfold inP; omega)]
    simp [List.getD, List.getElem?_eq_getElem h2]
theorem step3_succ (L p : List Cl) (a k : Nat) : step3 L p a (k + 1) = (step3 L p a k).set (a + k) (p.getD k zc) := by
  apply List.ext_getElem
  · simp [step3]
  · intro i h1 h2
    rw [List.getElem_set]
    simp only [step3, List.getElem_map, List.getElem_range]
    by_cases e : a + k = i
    · subst e
      rw [if_pos rfl, if_pos ⟨by omega, by omega⟩, show a + k - a = k by omega]
    · rw [if_neg e]
      by_cases h : inP a k i
      · rw [if_pos h, if_pos ⟨h.1, by have := h.2; omega⟩]
      · rw [if_neg h, if_neg (fun k2 => h ⟨k2.1, by have := k2.2; omega⟩)]
theorem step3_all {L p : List Cl} {a : Nat} (hm : 0 < p.length) (hle : a + p.length ≤ L.length) : step3 L p a p.length = paintL L p a := by
  unfold step3 paintL
  apply List.map_congr_left
  intro i hi
  have hi : i < L.length := List.mem_range.1 hi
  unfold paintAt
  by_cases h : inP a p.length i
  · rw [if_pos h, if_pos h]
  · rw [if_neg h, if_neg h, step2_at, step1_at]
    by_cases ht : tornP L a p.length i
    · rw [if_pos ht]
      rcases ht with ⟨h1, h2, h3⟩ | ⟨h1, h2, h3, h4⟩
      · have e : i + 1 = a := by
          have : ¬ (a ≤ i ∧ i < a + p.length) := h
          omega
        have hl : leadB L a = true := by
          unfold leadB
          rw [show a - 1 = i by omega, h1, decide_eq_true (show 0 < a by omega)]
          rfl
        split
        · rfl
        · rw [if_pos ⟨hl, by omega⟩]
      · have e : i = a + p.length := by
          have : ¬ (a ≤ i ∧ i < a + p.length) := h
          omega
        have hl : tailB L (a + p.length) = true := by
          unfold tailB
          rw [← e, h1, decide_eq_true hi]
          rfl
        rw [if_pos ⟨hl, e⟩]
    · rw [if_neg ht]
      rw [if_neg, if_neg]
      · rintro ⟨h1, rfl⟩
        unfold leadB at h1
        simp only [Bool.and_eq_true, decide_eq_true_eq, beq_iff_eq] at h1
        exact ht (.inl ⟨h1.2, by unfold inP; omega⟩)
      · rintro ⟨h1, rfl⟩
        unfold tailB at h1
        simp only [Bool.and_eq_true, decide_eq_true_eq, beq_iff_eq] at h1
        exact ht (.inr ⟨h1.2, by omega, by unfold inP; omega⟩)
/-- The kinds that the second test reads. -/
theorem tail_kind {L : List Cl} {a m : Nat} (hm : 0 < m) : ((step1 L a).getD (a + m) zc).1 = (L.getD (a + m) zc).1 := by
  rw [step1_at, if_neg]
  rintro ⟨_, h⟩
  omega
def endN (L : List Cl) (a m : Nat) : Nat := if tailB L (a + m) = true then a + m + 1 else a + m
theorem end_last {L p : List Cl} {a : Nat} (hm : 0 < p.length) (hle : a + p.length ≤ L.length) : (decide (endN L a p.length = L.length)) = lastHit L p a := by
  unfold endN lastHit
  rw [Bool.eq_iff_iff]
  simp only [Bool.or_eq_true, decide_eq_true_eq]
  constructor
  · intro h
    split at h
    · rename_i ht
      unfold tailB at ht
      simp only [Bool.and_eq_true, decide_eq_true_eq, beq_iff_eq] at ht
      right
      refine .inr ⟨by rw [show L.length - 1 = a + p.length by omega]; exact ht.2, by omega, by unfold inP; omega⟩
    · exact .inl ⟨by omega, by omega⟩
  · rintro (⟨h1, h2⟩ | h)
    · rw [if_neg (by unfold tailB; simp; omega)]
      omega
    · by_cases hin : inP a p.length (L.length - 1)
      · obtain ⟨h1, h2⟩ := hin
        rw [if_neg (by unfold tailB; simp; omega)]
        omega
      · have hin' : ¬ (a ≤ L.length - 1 ∧ L.length - 1 < a + p.length) := hin
        rcases h with ⟨h1, h2, h3⟩ | ⟨h1, h2, h3, h4⟩
        · omega
        · have e : L.length - 1 = a + p.length := by omega
          rw [if_pos (by unfold tailB; rw [← e, h1, decide_eq_true (show L.length - 1 < L.length by omega)]; rfl)]
          omega
end Go.Proofs.YteinppjklhomnaaDoor
/- Clusters in rows: what At, Add, Widen answer. -/
namespace Go.Proofs.YteinppjklhomnaaDoor
open Go.RowKit Go.ChangeShapes Go.WideShapes
theorem valid_repl (x : Int) : validB (repl x) = true := by
  unfold repl
  by_cases h : validB x = true
  · rw [if_pos h]; exact h
  · rw [if_neg h]; decide
theorem repl_valid {x : Int} (h : validB x = true) : repl x = x := by unfold repl; rw [if_pos h]
theorem repl_repl (x : Int) : repl (repl x) = repl x := repl_valid (valid_repl x)
theorem all_repl (xs : List Int) : allValid (xs.map repl) = true := by
  unfold allValid
  rw [List.all_eq_true]
  intro y hy
  obtain ⟨x, _, rfl⟩ := List.mem_map.1 hy
  exact valid_repl x
theorem map_valid {t : List Int} (h : allValid t = true) : t.map repl = t := by
  unfold allValid at h
  rw [List.all_eq_true] at h
  induction t with
  | nil => rfl
  | cons x t ih =>
    rw [List.map_cons, repl_valid (h x (by simp)), ih (fun y hy => h y (by simp [hy]))]
theorem ofC_len (wide : Int) (xs : List Int) : (ofC wide xs).length = if 2 ≤ wide then 2 else 1 := by
  unfold ofC
  simp only
  split <;> split <;> rfl
theorem ofC_sound (wide : Int) (xs : List Int) : soundB (ofC wide xs) = true := by
  have hv := all_repl (xs.take 16)
  have hl : ((xs.take 16).map repl).length ≤ 16 := by simp; omega
  unfold ofC
  generalize (xs.take 16).map repl = t at hv hl
  simp only
  by_cases h0 : t.length = 0
  · rw [if_pos h0]
    split <;> decide
  · rw [if_neg h0]
    have r1 : rightB (1, t) = true := by
      unfold rightB
      simp [hv]
      omega
    have r2 : rightB (2, t) = true := by
      unfold rightB
      simp [hv]
      omega
    split
    · unfold soundB
      simp [soundF, r2]
      decide
    · unfold soundB
      simp [soundF, r1]
theorem ofC_text {wide : Int} {t : List Int} (h0 : 0 < t.length) (h1 : t.length ≤ 16) : ofC wide t = if 2 ≤ wide then [(2, t.map repl), (3, [])] else [(1, t.map repl)] := by
  unfold ofC
  rw [List.take_of_length_le h1]
  simp only
  rw [if_neg (by simp; intro h; simp [h] at h0)]
theorem ofC_repl (wide : Int) (t : List Int) (x : Int) : ofC wide (t ++ [repl x]) = ofC wide (t ++ [x]) := by
  unfold ofC
  have e : ((t ++ [repl x]).take 16).map repl = ((t ++ [x]).take 16).map repl := by
    rw [List.map_take, List.map_take, List.map_append, List.map_append]
    simp [repl_repl]
  rw [e]
theorem right_kinds {c : Cl} (h : rightB c = true) : (c.1 = 0 ∨ c.1 = 3) ∧ c.2 = [] ∨ (c.1 = 1 ∨ c.1 = 2) ∧ 0 < c.2.length ∧ c.2.length ≤ 16 ∧ allValid c.2 = true := by
  unfold rightB at h
  by_cases h0 : (c.1 == 0 || c.1 == 3) = true
  · rw [if_pos h0] at h
    simp at h0 h
    exact .inl ⟨h0, h⟩
  · rw [if_neg h0] at h
    simp only [Bool.and_eq_true, Bool.or_eq_true, beq_iff_eq, decide_eq_true_eq] at h
    exact .inr ⟨h.1.1.1, h.1.1.2, h.1.2, h.2⟩
/-- Where the cluster at a column begins; -1: there is none. -/
def clAt (L : List Cl) (col : Int) : Int := if col < 0 ∨ (L.length : Int) ≤ col ∨ kindAt L col = 0 then -1 else if kindAt L col = 3 then col - 1 else col
theorem cl_none {L : List Cl} {col : Int} (h : col < 0 ∨ (L.length : Int) ≤ col ∨ kindAt L col = 0) : clAt L col = -1 := by unfold clAt; rw [if_pos h]
theorem kind_nat (L : List Cl) (k : Nat) : kindAt L (k : Int) = (L.getD k zc).1 := by
  unfold kindAt
  rw [if_neg (by omega)]
  simp
theorem cl_self {L : List Cl} {k : Nat} (hk : k < L.length) (h : (L.getD k zc).1 = 1 ∨ (L.getD k zc).1 = 2) : clAt L (k : Int) = k := by
  have e := kind_nat L k
  unfold clAt
  rw [if_neg (by rw [e]; omega), if_neg (by rw [e]; omega)]
theorem cl_back {L : List Cl} {k : Nat} (hk : k < L.length) (h : (L.getD k zc).1 = 3) : clAt L (k : Int) = (k : Int) - 1 := by
  have e := kind_nat L k
  unfold clAt
  rw [if_neg (by rw [e]; omega), if_pos (by rw [e]; omega)]
/-- A cluster: where it begins, which it is, and that it has room. -/
theorem cl_some {L : List Cl} (hs : soundB L = true) {col : Int} (h : 0 ≤ clAt L col) : ∃ k : Nat, clAt L col = k ∧ k < L.length ∧ (((L.getD k zc).1 = 1 ∧ col = k) ∨ ((L.getD k zc).1 = 2 ∧ k + 1 < L.length ∧ (col = k ∨ (col = k + 1 ∧ (L.getD (k + 1) zc).1 = 3)))) ∧ 0 < (L.getD k zc).2.length ∧ (L.getD k zc).2.length ≤ 16 ∧ allValid (L.getD k zc).2 = true := by
  have hp := (sound_prop L).1 hs
  by_cases hb : col < 0 ∨ (L.length : Int) ≤ col ∨ kindAt L col = 0
  · rw [cl_none hb] at h; omega
  obtain ⟨j, rfl⟩ := Int.eq_ofNat_of_zero_le (show 0 ≤ col by omega)
  rw [kind_nat] at hb
  have hj : j < L.length := by omega
  obtain ⟨hr, h2, h3⟩ := hp j hj
  have hr0 := right_kinds hr
  by_cases h33 : (L.getD j zc).1 = 3
  · obtain ⟨h4, h5⟩ := h3 h33
    obtain ⟨hr', _, _⟩ := hp (j - 1) (by omega)
    have hr1 := right_kinds hr'
    refine ⟨j - 1, ?_, by omega, ?_, ?_⟩
    · rw [cl_back hj h33]; omega
    · exact .inr ⟨h5, by omega, .inr ⟨by omega, by rw [show j - 1 + 1 = j by omega]; exact h33⟩⟩
    · rcases hr1 with hr1 | hr1
      · omega
      · exact hr1.2
  · rcases hr0 with hr0 | hr0
    · omega
    · refine ⟨j, cl_self hj hr0.1, hj, ?_, hr0.2⟩
      rcases hr0.1 with e | e
      · exact .inl ⟨e, rfl⟩
      · refine .inr ⟨e, ?_, .inl rfl⟩
        have := h2 e
        by_cases hlt : j + 1 < L.length
        · exact hlt
        · rw [getD_ge L zc (j + 1) (by omega)] at this
          cases this
/-- A row, whether it goes on, and the answer, when a cluster was made longer. -/
def addL (L : List Cl) (wrap : Bool) (col x : Int) : List Cl × Bool × Bool :=
  if clAt L col < 0 ∨ 15 < (L.getD (clAt L col).toNat zc).2.length then (L, wrap, false)
  else (paintL L (ofC (L.getD (clAt L col).toNat zc).1 ((L.getD (clAt L col).toNat zc).2 ++ [x])) (clAt L col).toNat, wrap && !lastHit L (ofC (L.getD (clAt L col).toNat zc).1 ((L.getD (clAt L col).toNat zc).2 ++ [x])) (clAt L col).toNat, true)
def widL (L : List Cl) (wrap : Bool) (col : Int) : List Cl × Bool × Bool :=
  if col < 0 ∨ (L.length : Int) - 1 ≤ col ∨ kindAt L col ≠ 1 then (L, wrap, false)
  else (paintL L (ofC 2 (L.getD col.toNat zc).2) col.toNat, wrap && !lastHit L (ofC 2 (L.getD col.toNat zc).2) col.toNat, true)
theorem add_len (L : List Cl) (wrap : Bool) (col x : Int) : (addL L wrap col x).1.length = L.length := by
  unfold addL
  split
  · rfl
  · exact paint_len _ _ _
theorem wid_len (L : List Cl) (wrap : Bool) (col : Int) : (widL L wrap col).1.length = L.length := by
  unfold widL
  split
  · rfl
  · exact paint_len _ _ _
/-- What is painted 2 wide over what was painted 1 wide is as what is painted 2 wide at once. -/
theorem paint_over (L : List Cl) (t : List Int) (c : Nat) : paintL (paintL L [(1, t)] c) [(2, t), (3, [])] c = paintL L [(2, t), (3, [])] c := by
  apply List.ext_getElem?
  intro i
  by_cases hi : i < L.length
  · have e1 : ((paintL (paintL L [(1, t)] c) [(2, t), (3, [])] c).getD i zc) = ((paintL L [(2, t), (3, [])] c).getD i zc) := by
      rw [paint_get _ _ _ _ (by rw [paint_len]; exact hi), paint_get _ _ _ _ hi]
      unfold paintAt
      by_cases h1 : inP c [((2 : Int), t), (3, [])].length i
      · rw [if_pos h1, if_pos h1]
      · rw [if_neg h1, if_neg h1]
        have hq : (paintL L [(1, t)] c).getD i zc = if tornP L c 1 i then zc else L.getD i zc := by
          rw [paint_get _ _ _ _ hi]
          unfold paintAt
          rw [if_neg (by unfold inP at h1 ⊢; simp only [List.length_cons, List.length_nil] at h1 ⊢; omega)]
          rfl
        have ht1 : tornP L c 1 i ↔ (L.getD i zc).1 = 2 ∧ i + 1 = c := by
          unfold inP at h1
          simp only [List.length_cons, List.length_nil] at h1
          unfold tornP inP
          constructor
          · rintro (h | h)
            · exact ⟨h.1, by omega⟩
            · omega
          · rintro ⟨h, h'⟩
            exact .inl ⟨h, by omega⟩
        have ht2 : ∀ M : List Cl, tornP M c [((2 : Int), t), (3, [])].length i ↔ ((M.getD i zc).1 = 2 ∧ i + 1 = c) ∨ ((M.getD i zc).1 = 3 ∧ i = c + 2) := by
          intro M
          unfold inP at h1
          simp only [List.length_cons, List.length_nil] at h1
          unfold tornP inP
          simp only [List.length_cons, List.length_nil]
          constructor
          · rintro (h | h)
            · exact .inl ⟨h.1, by omega⟩
            · exact .inr ⟨h.1, by omega⟩
          · rintro (h | h)
            · exact .inl ⟨h.1, by omega⟩
            · exact .inr ⟨h.1, by omega⟩
        by_cases ht : tornP L c 1 i
        · rw [if_pos ht] at hq
          have h3 := ht1.1 ht
          rw [if_pos ((ht2 L).2 (.inl h3)), hq]
          split <;> rfl
        · rw [if_neg ht] at hq
          have h3 : tornP (paintL L [(1, t)] c) c [((2 : Int), t), (3, [])].length i ↔ tornP L c [((2 : Int), t), (3, [])].length i := by rw [ht2, ht2, hq]
          by_cases h4 : tornP L c [((2 : Int), t), (3, [])].length i
          · rw [if_pos h4, if_pos (h3.2 h4)]
          · rw [if_neg h4, if_neg (fun h => h4 (h3.1 h)), hq]
    have l1 : i < (paintL (paintL L [(1, t)] c) [(2, t), (3, [])] c).length := by rw [paint_len, paint_len]; exact hi
    have l2 : i < (paintL L [(2, t), (3, [])] c).length := by rw [paint_len]; exact hi
    simp only [List.getD, List.getElem?_eq_getElem l1, List.getElem?_eq_getElem l2, Option.getD_some] at e1
    rw [List.getElem?_eq_getElem l1, List.getElem?_eq_getElem l2, e1]
  · rw [List.getElem?_eq_none (by rw [paint_len, paint_len]; omega), List.getElem?_eq_none (by rw [paint_len]; omega)]
theorem paint_one_at (L : List Cl) (x : Cl) (c : Nat) (hc : c < L.length) : (paintL L [x] c).getD c zc = x := by
  rw [paint_get _ _ _ _ hc]
  unfold paintAt
  rw [if_pos (by unfold inP; simp)]
  simp
end Go.Proofs.YteinppjklhomnaaDoor
/- Contracts of the functions of linotyperef01 that others lean on. -/
namespace Go.Proofs.YteinppjklhomnaaDoor
open Go.RowKit Go.ChangeShapes Go.WideShapes

theorem refvalid_any (r : Int) (w : World) : Calls Tryd.prog 66 #[.int .i32 r] w fun e w' => e = .returned (.bool (validB r)) ∧ w = w' := by
  have hv : (validB r = true ∧ 0 ≤ r ∧ r ≤ 1114111 ∧ r < 55296) ∨ (validB r = true ∧ 0 ≤ r ∧ r ≤ 1114111 ∧ ¬ r < 55296 ∧ 57343 < r) ∨ (validB r = false ∧ ¬ 0 ≤ r) ∨ (validB r = false ∧ 0 ≤ r ∧ ¬ r ≤ 1114111) ∨ (validB r = false ∧ 0 ≤ r ∧ r ≤ 1114111 ∧ ¬ r < 55296 ∧ ¬ 57343 < r) := by
    unfold validB; simp; omega
  rcases hv with ⟨hv, h1, h2, h3⟩ | ⟨hv, h1, h2, h3, h4⟩ | ⟨hv, h1⟩ | ⟨hv, h1, h2⟩ | ⟨hv, h1, h2, h3, h4⟩
  all_goals
    rw [hv]
    clear hv
    go_enter Tryd.func66, Tryd.ntmps66
    go_wp2
    go_ret
    exact ⟨rfl, rfl⟩

def sameB (xs ys : List Int) : Bool := decide (xs = ys)
theorem sameB_of {xs ys : List Int} (hl : ys.length = xs.length) (h : ∀ j, j < xs.length → xs.getD j 0 = ys.getD j 0) : sameB xs ys = true := by
  unfold sameB
  rw [decide_eq_true_eq]
  apply List.ext_getElem hl.symm
  intro i h1 h2
  have := h i h1
  simpa [List.getD, List.getElem?_eq_getElem h1, List.getElem?_eq_getElem h2] using this
theorem sameB_not {xs ys : List Int} (j : Nat) (h : xs.getD j 0 ≠ ys.getD j 0) : sameB xs ys = false := by
  unfold sameB
  rw [decide_eq_false_iff_not]
  rintro rfl
  exact h rfl
theorem sameB_len {xs ys : List Int} (h : ¬ ys.length = xs.length) : sameB xs ys = false := by
  unfold sameB
  rw [decide_eq_false_iff_not]
  rintro rfl
  exact h rfl
theorem sameB_self (xs : List Int) : sameB xs xs = true := by simp [sameB]
/-- What has been found alike so far. -/
def Alike0 (xs ys : List Int) (k : Nat) : Prop := ∀ j, j < k → xs.getD j 0 = ys.getD j 0
set_option maxRecDepth 100000 in
theorem same_any (v u : Value) (xs ys : List Int) (w : World) (hx : Held .i32 w v xs) (hy : Held .i32 w u ys) (hlen : xs.length ≤ 9223372036854775807) :
    Calls Tryd.prog 67 #[v, u] w (Gives w (.bool (sameB xs ys))) := by
  obtain ⟨ao, ca, rfl, hc⟩ := hx.view
  obtain ⟨bo, cb, rfl, hd⟩ := hy.view
  have HC := Lib.hid hc
  have HD := Lib.hid hd
  clear hc hd hx hy
  by_cases hl : ys.length = xs.length
  · have HL := Lib.hid hl
    rw [hl]
    clear hl
    go_enter Tryd.func67, Tryd.ntmps67
    go_wp2
    go_loopw [5] (fun i wr => ∃ k : Nat, k ≤ xs.length ∧ i = .int .i64 k ∧ Alike0 xs ys k ∧ Below w.heap.size w wr) (fun i _ => xs.length - (intOf i).toNat)
    case atStart => exact ⟨0, Nat.zero_le _, rfl, (fun j hj => by omega), Below.refl _ _⟩
    case round =>
      obtain ⟨k, hk, rfl, hal, hbw⟩ := hrel
      have HA := Lib.hid hal
      clear hal
      by_cases hlt : k < xs.length
      · obtain ⟨b1, o1, rfl, hb1, hcx⟩ := HC.out k hlt
        obtain ⟨b2, o2, rfl, hb2, hcy⟩ := HD.out k (by rw [HL.out]; exact hlt)
        have hcx := (hbw.cell (p := ⟨b1, o1 + k, none⟩) hb1).trans hcx
        have hcy := (hbw.cell (p := ⟨b2, o2 + k, none⟩) hb2).trans hcy
        by_cases he : xs.getD k 0 = ys.getD k 0
        · have HE : Alike0 xs ys (k + 1) := by
            intro j hj
            by_cases h : j = k
            · subst h; exact he
            · exact HA.out j (by omega)
          rw [← he] at hcy
          clear he
          generalize xs.getD k 0 = x at hcx hcy
          go_wp2
          go_quiet (fail)
          have hbw := hbw.drewN nq
          go_wp2
          go_roundw
          case rel => exact ⟨k + 1, by omega, by go_num, HE, hbw⟩
          case measure => simp [intOf]; omega
        · have E := Lib.hid (sameB_not k he)
          generalize xs.getD k 0 = x at hcx he
          generalize ys.getD k 0 = y at hcy he
          go_wp2
          go_quiet (fail)
          have hbw := hbw.drewN nq
          go_wp2
          go_ret
          exact ⟨ret_eq (by rw [E.out]; rfl), hbw⟩
      · have e : sameB xs ys = true := sameB_of HL.out (fun j hj => HA.out j (by omega))
        have E := Lib.hid e
        clear e
        go_wp2
        go_ret
        exact ⟨ret_eq (by rw [E.out]; rfl), hbw⟩
  · rw [sameB_len hl]
    go_enter Tryd.func67, Tryd.ntmps67
    go_wp2
    go_ret
    exact ⟨rfl, Below.refl _ _⟩
end Go.Proofs.YteinppjklhomnaaDoor
/- Blanks, Text, Of; the reference's Of. -/
namespace Go.Proofs.YteinppjklhomnaaDoor
open Go.RowKit Go.ChangeShapes Go.WideShapes
/-- What hands back a row of its own. -/
def MadeE {α : Type} (E : Elem α) (Z : Zone) (ty : TypeId) (w : World) (L : List α) (e : Ending) (w' : World) : Prop := ∃ v', e = .returned v' ∧ OwnE E Z w' w.heap.size ty v' L ∧ Below w.heap.size w w'
theorem made_flat (C : List Value) (h0 : 0 < C.length) (n : Nat) : (madeCells C.toArray (n * C.length)).toList = (List.replicate n C).flatten := by
  apply List.ext_getElem?
  intro i
  have hls : ∀ D ∈ List.replicate n C, D.length = C.length := fun D hD => by rw [(List.mem_replicate.1 hD).2]
  by_cases hi : i < n * C.length
  · have hd : i / C.length < n := (Nat.div_lt_iff_lt_mul h0).2 hi
    have hm : i % C.length < C.length := Nat.mod_lt _ h0
    have := flat_at hls (i / C.length) (i % C.length) (by simpa using hd) hm
    rw [show i / C.length * C.length + i % C.length = i by rw [Nat.mul_comm]; exact Nat.div_add_mod i C.length] at this
    rw [this]
    simp [madeCells, hi, List.getD, hd, List.getElem?_replicate, List.getElem?_eq_getElem hm]
  · rw [List.getElem?_eq_none (by simp [madeCells]; omega), List.getElem?_eq_none (by rw [flat_len hls]; simp; omega)]
theorem zero_rep (Z : Zone) (w : World) : cellE.rep Z w [.int .i64 0, .slice none 0 0] zc := cell_rep.2 ⟨_, rfl, HeldE.nil _ _ _⟩
theorem blank_own {Z : Zone} {w : World} {B n : Nat} {v : Value} (h : w.ownsRow B 85 2 v n (madeCells (Value.agg #[.int .i64 0, .slice none 0 0]).cells (n * 2)).toList) : OwnE cellE Z w B 85 v (List.replicate n zc) := by
  refine ⟨List.replicate n [.int .i64 0, .slice none 0 0], ?_, by simp, fun i hi => ?_⟩
  · rw [← made_flat _ (by decide), List.length_replicate]
    exact h
  · simp only [List.length_replicate] at hi
    simp only [List.getD, List.getElem?_replicate, hi, if_true, Option.getD_some]
    exact zero_rep _ _
def blankN (n : Int) : Nat := (min (max n 0) 1024).toNat
set_option maxRecDepth 100000 in
theorem blanks_any (Z : Zone) (n : Int) (w : World) : Calls Tryd.prog 90 #[.int .i64 n] w (MadeE cellE Z 85 w (List.replicate (blankN n) zc)) := by
  obtain ⟨i0, hi, hz0, hz1, hz2⟩ := info_parts info_cell
  have key : ∀ m : Nat, m ≤ 1024 → min (max n 0) 1024 = (m : Int) → Calls Tryd.prog 90 #[.int .i64 n] w (MadeE cellE Z 85 w (List.replicate m zc)) := by
    intro m hm he
    go_enter Tryd.func90, Tryd.ntmps90
    go_wp2_with (at_make; refine wpList_make_full w rfl (.tmp 5) (.tmp 5) 57 rfl w.heap.size 85 i0 (.agg #[.int .i64 0, .slice none 0 0]) 2 Tryd.underlying57 hi hz0 hz1 .i64 .i64 _ _ m rfl rfl rfl rfl (by rw [hz2]; omega) (by unfold maxLen; omega) (Nat.le_refl _) ?_)
    intro w1 hown1 hg1
    have hb1 : Below w.heap.size w w1 := (Below.refl _ _).grown hg1 (Nat.le_refl _) (by intro k hk; cases hk)
    have ho := blank_own (Z := Z) hown1
    clear hown1 hg1
    go_wp2
    go_ret
    exact ⟨_, rfl, ho, hb1⟩
  have := key (blankN n) (by unfold blankN; omega) (by unfold blankN; omega)
  exact this
end Go.Proofs.YteinppjklhomnaaDoor
/- cell.Same, and what it leans on. -/
namespace Go.Proofs.YteinppjklhomnaaDoor
open Go.RowKit Go.ChangeShapes Go.WideShapes
theorem sameC_of {a b : List Cl} (hl : b.length = a.length) (h : ∀ j, j < a.length → a.getD j zc = b.getD j zc) : sameC a b = true := by
  unfold sameC
  rw [decide_eq_true_eq]
  apply List.ext_getElem hl.symm
  intro i h1 h2
  have := h i h1
  simpa [List.getD, List.getElem?_eq_getElem h1, List.getElem?_eq_getElem h2] using this
theorem sameC_not {a b : List Cl} (j : Nat) (h : a.getD j zc ≠ b.getD j zc) : sameC a b = false := by
  unfold sameC
  rw [decide_eq_false_iff_not]
  rintro rfl
  exact h rfl
theorem sameC_len {a b : List Cl} (h : ¬ b.length = a.length) : sameC a b = false := by
  unfold sameC
  rw [decide_eq_false_iff_not]
  rintro rfl
  exact h rfl
theorem sameC_self (a : List Cl) : sameC a a = true := by simp [sameC]
def AlikeC (a b : List Cl) (k : Nat) : Prop := ∀ j, j < k → a.getD j zc = b.getD j zc
theorem AlikeC.next {a b : List Cl} {k : Nat} (h : AlikeC a b k) (e : a.getD k zc = b.getD k zc) : AlikeC a b (k + 1) := by
  intro j hj
  by_cases h2 : j = k
  · subst h2; exact e
  · exact h j (by omega)
theorem cell_eq {K K' : Int} {T T' : List Int} : (decide ((K, T) = (K', T'))) = ((K == K') && sameB T T') := by
  unfold sameB
  rw [Bool.eq_iff_iff]
  simp
end Go.Proofs.YteinppjklhomnaaDoor
/- sort.Search: with whatever closure that answers and turns nothing. -/
namespace Go.Proofs.YteinppjklhomnaaDoor
open Go.RowKit Go.ChangeShapes Go.WideShapes
def Found (w : World) (n : Nat) (p : Nat → Bool) (e : Ending) (w' : World) : Prop :=
  ∃ k : Nat, k ≤ n ∧ e = .returned (.int .i64 k) ∧ (∀ j, j < k → p j = false) ∧ (∀ j, k ≤ j → j < n → p j = true) ∧ Below w.heap.size w w'
end Go.Proofs.YteinppjklhomnaaDoor
/- A slice of properties that came in. -/
namespace Go.Proofs.YteinppjklhomnaaDoor
open Go.RowKit Go.ChangeShapes Go.WideShapes
open Go.Joins Go.Deep
/-- A property: class, picture, conjunct, east. -/
structure Pr where
  br : Int
  pc : Bool
  cv : Int
  ea : Int
/-- In the world w the slice value v holds the properties xs. -/
def HeldP (w : World) (v : Value) (xs : List Pr) : Prop :=
  ∃ ao cap, v = .slice ao xs.length cap ∧ ∀ i (h : i < xs.length), ∃ b off, ao = some ⟨b, off, none⟩ ∧ b < w.heap.size ∧ w.cell? ⟨b, off + i * 4, none⟩ = some (.int .i64 xs[i].br) ∧ w.cell? ⟨b, off + i * 4 + 1, none⟩ = some (.bool xs[i].pc) ∧
    w.cell? ⟨b, off + i * 4 + 2, none⟩ = some (.int .i64 xs[i].cv) ∧ w.cell? ⟨b, off + i * 4 + 3, none⟩ = some (.int .i64 xs[i].ea)
theorem cells_prop : Tryd.prog.cellsOf 64 = 4 := by kernel_rfl
theorem cells_int : Tryd.prog.cellsOf 3 = 1 := by kernel_rfl
theorem cells_bool : Tryd.prog.cellsOf 4 = 1 := by kernel_rfl
theorem four_cells {w : World} {base : Nat} {a : Addr} {cs : List Value} (h : w.cells? base a 4 = some cs) : ∃ c0 c1 c2 c3, cs = [c0, c1, c2, c3] ∧ w.cell? (a.add 0) = some c0 ∧ w.cell? (a.add 1) = some c1 ∧ w.cell? (a.add 2) = some c2 ∧ w.cell? (a.add 3) = some c3 := by
  unfold World.cells? at h
  split at h
  · rw [show List.range 4 = [0, 1, 2, 3] from rfl] at h
    simp only [List.mapM_cons, List.mapM_nil, Option.bind_eq_bind, Option.bind_eq_some_iff, Option.pure_def, Option.some.injEq] at h
    obtain ⟨c0, h0, l1, ⟨c1, h1, l2, ⟨c2, h2, l3, ⟨c3, h3, l4, rfl, rfl⟩, rfl⟩, rfl⟩, rfl⟩ := h
    exact ⟨c0, c1, c2, c3, rfl, h0, h1, h2, h3⟩
  · cases h
theorem HeldP.below {w w' : World} {v : Value} {xs : List Pr} (h : HeldP w v xs) (hb : Below w.heap.size w w') : HeldP w' v xs := by
  obtain ⟨ao, cap, rfl, hc⟩ := h
  refine ⟨ao, cap, rfl, fun i hi => ?_⟩
  obtain ⟨b, off, rfl, hlt, h1, h2, h3, h4⟩ := hc i hi
  exact ⟨b, off, rfl, by have := hb.size; omega, (hb.cell (p := ⟨b, _, none⟩) hlt).trans h1, (hb.cell (p := ⟨b, _, none⟩) hlt).trans h2, (hb.cell (p := ⟨b, _, none⟩) hlt).trans h3, (hb.cell (p := ⟨b, _, none⟩) hlt).trans h4⟩
theorem HeldP.view {w : World} {v : Value} {xs : List Pr} (h : HeldP w v xs) : ∃ ao cap, v = .slice ao xs.length cap ∧ ∀ i (h : i < xs.length), ∃ b off, ao = some ⟨b, off, none⟩ ∧ b < w.heap.size ∧ w.cell? ⟨b, off + i * 4, none⟩ = some (.int .i64 xs[i].br) ∧ w.cell? ⟨b, off + i * 4 + 1, none⟩ = some (.bool xs[i].pc) ∧
    w.cell? ⟨b, off + i * 4 + 2, none⟩ = some (.int .i64 xs[i].cv) ∧ w.cell? ⟨b, off + i * 4 + 3, none⟩ = some (.int .i64 xs[i].ea) := h
def Pr.none : Pr := ⟨0, false, 0, 0⟩
theorem HeldP.at {w : World} {ao : Option Addr} {n cap : Nat} {xs : List Pr} (h : HeldP w (.slice ao n cap) xs) : n = xs.length ∧ ∀ i, i < xs.length → ∃ b off, ao = some ⟨b, off, none⟩ ∧ b < w.heap.size ∧ w.cell? ⟨b, off + i * 4, none⟩ = some (.int .i64 (xs.getD i Pr.none).br) ∧ w.cell? ⟨b, off + i * 4 + 1, none⟩ = some (.bool (xs.getD i Pr.none).pc) ∧
    w.cell? ⟨b, off + i * 4 + 2, none⟩ = some (.int .i64 (xs.getD i Pr.none).cv) ∧ w.cell? ⟨b, off + i * 4 + 3, none⟩ = some (.int .i64 (xs.getD i Pr.none).ea) := by
  obtain ⟨ao', cap', e, hc⟩ := h
  cases e
  refine ⟨rfl, fun i hi => ?_⟩
  have := hc i hi
  rw [show xs[i] = xs.getD i Pr.none by simp [List.getD, List.getElem?_eq_getElem hi]] at this
  exact this
end Go.Proofs.YteinppjklhomnaaDoor
/- Lists of properties that the call itself makes: appended one by one; rows of structs. -/
namespace Go.Proofs.YteinppjklhomnaaDoor
open Go.RowKit Go.ChangeShapes Go.WideShapes
theorem wpList_append_newS {P : Program} (w0 : World) {ops : Array Oper} {rest : List Oper} {o : Oper} {a : Act} {Q : Exit → Act → World → Prop} (hgd : o.guard = none) (s x : Operand) (t : TypeId)
    (ho : o.op = .call { callee := .builtin .append, args := #[s, x], argTypes := #[t, t] })
    (base : Nat) (e : TypeId) (z : Value) (size bytes : Nat) (ht : P.underlying t = some (.slice e)) (hinfo : (P.info? e).map (fun i => (i.zero, i.size, i.bytes)) = some (some z, size, bytes)) (hzs : z.cells.size = size) (hsz : 0 < size)
    (v : Value) (n : Nat) (xs : List Value) (hs : a.eval s = v) (hown : w0.ownsRow base e size v n xs)
    (C : List Value) (m c : Nat) (hx : a.eval x = .slice (some ⟨w0.heap.size, 0, none⟩) m c) (hl : C.length = m * size) (h1 : ∀ u ∈ C, u.oneCell' = true)
    (hbytes : (n + m) * bytes ≤ 140737488355328) (hb0 : n + m ≤ 140737488355328) (hbase : base ≤ w0.heap.size)
    (h : ∀ v' w', w'.ownsRow base e size v' (n + m) (xs ++ C) → Below base w0 w' → wpList P ops Q rest (a.put o.dst v') w') :
    wpList P ops Q (o :: rest) a (w0.alloc (.cells C.toArray e)) := by
  obtain ⟨i0, hi, hz0, hz1, hz2⟩ := info_parts hinfo
  refine wpList_append_own _ hgd s x t ho base e i0 z size bytes ht hi hz0 hz1 hz2 hzs hsz v n xs hs (hown.alloc _) ⟨w0.heap.size, 0, none⟩ m c C hx (by omega) (new_cells w0 C e) h1 (by unfold maxLen; omega) hbytes (by simp; omega) ?_
  intro v' w' hown' hgrow _
  refine h v' w' hown' (((Below.refl base w0).alloc hbase _).grown hgrow (by simp; omega) fun k hk => ((hown.alloc (.cells C.toArray e)).lt k hk).1)
def prCells (q : Pr) : List Value := [.int .i64 q.br, .bool q.pc, .int .i64 q.cv, .int .i64 q.ea]
def prsCells (l : List Pr) : List Value := l.flatMap prCells
theorem prsCells_at : ∀ (l : List Pr) (i : Nat) (h : i < l.length), (prsCells l)[i * 4]? = some (.int .i64 l[i].br) ∧ (prsCells l)[i * 4 + 1]? = some (.bool l[i].pc) ∧ (prsCells l)[i * 4 + 2]? = some (.int .i64 l[i].cv) ∧ (prsCells l)[i * 4 + 3]? = some (.int .i64 l[i].ea)
  | [], i, h => absurd h (Nat.not_lt_zero _)
  | q :: l, 0, _ => ⟨rfl, rfl, rfl, rfl⟩
  | q :: l, i + 1, h => by
    have := prsCells_at l i (by simpa using h)
    rw [show (i + 1) * 4 = i * 4 + 4 by omega, show i * 4 + 4 + 1 = i * 4 + 1 + 4 by omega, show i * 4 + 4 + 2 = i * 4 + 2 + 4 by omega, show i * 4 + 4 + 3 = i * 4 + 3 + 4 by omega]
    simpa [prsCells, prCells] using this
theorem prsCells_len (l : List Pr) : (prsCells l).length = 4 * l.length := by
  induction l with
  | nil => rfl
  | cons q l ih => simp only [prsCells, List.flatMap_cons, List.length_append, prCells, List.length_cons, List.length_nil] at *; omega
theorem heldP_of_owns {w : World} {B e : Nat} {v : Value} {n : Nat} {l : List Pr} (h : w.ownsRow B e 4 v n (prsCells l)) : HeldP w v l := by
  have hl : l.length = n := by have := h.1; rw [prsCells_len] at this; omega
  subst hl
  rcases h.2 with ⟨rfl, hn⟩ | ⟨g, cap, cur, rfl, hb, hg, h1, h2, h3, h4⟩
  · have : l = [] := List.eq_nil_of_length_eq_zero hn
    subst this
    exact ⟨none, 0, rfl, fun i hi => by simp at hi⟩
  · refine ⟨some ⟨g, 0, none⟩, cap, rfl, fun i hi => ⟨g, 0, rfl, (Array.getElem?_eq_some_iff.1 hg).1, ?_⟩⟩
    obtain ⟨k0, k1, k2, k3⟩ := prsCells_at l i hi
    have c0 := h.cells (g := g) rfl _ _ k0
    have c1 := h.cells (g := g) rfl _ _ k1
    have c2 := h.cells (g := g) rfl _ _ k2
    have c3 := h.cells (g := g) rfl _ _ k3
    rw [Addr.add_lit] at c0 c1 c2 c3
    simp only [Nat.zero_add] at *
    exact ⟨c0, c1, c2, c3⟩
theorem prs_snoc (l : List Pr) (k : Nat) (h : k < l.length) : prsCells (l.take (k + 1)) = prsCells (l.take k) ++ prCells (l.getD k Pr.none) := by
  unfold prsCells
  rw [List.take_succ_eq_append_getElem h, List.flatMap_append, List.flatMap_cons, List.flatMap_nil, List.append_nil, show l.getD k Pr.none = l[k] by simp [List.getD, List.getElem?_eq_getElem h]]
end Go.Proofs.YteinppjklhomnaaDoor
/- Contracts of seg: a state's calls. -/
namespace Go.Proofs.YteinppjklhomnaaDoor
open Go.RowKit Go.ChangeShapes Go.WideShapes
def propV (br : Int) (pc : Bool) (cj ea : Int) : Value := .agg #[.int .i64 br, .bool pc, .int .i64 cj, .int .i64 ea]
def conjI (n cj : Int) : Int := if cj = 1 then 1 else if cj = 2 ∧ n ≠ 0 then 2 else if cj = 3 then n else 0
def picI (n br : Int) (pc : Bool) : Int := if pc = true then 1 else if n ≠ 1 then 0 else if br = 4 then 1 else if br = 5 then 2 else 0
theorem pbox (w : World) (br : Int) (pc : Bool) (cj ea : Int) : ∃ W, W = w.alloc (.cells #[Value.int .i64 br, .bool pc, .int .i64 cj, .int .i64 ea] 64) ∧ Has W w.heap.size [Value.int .i64 br, .bool pc, .int .i64 cj, .int .i64 ea] 64 ∧ Below w.heap.size w W :=
  ⟨_, rfl, Has.new w _ _, (Below.refl _ _).alloc (Nat.le_refl _) _⟩
theorem conj_cases (n cj : Int) : ((cj == 1) = true ∧ conjI n cj = 1) ∨ ((cj == 1) = false ∧ (cj == 2) = true ∧ (n == 0) = false ∧ conjI n cj = 2) ∨ ((cj == 1) = false ∧ (cj == 2) = true ∧ (n == 0) = true ∧ (cj == 3) = false ∧ conjI n cj = 0)
    ∨ ((cj == 1) = false ∧ (cj == 2) = false ∧ (cj == 3) = true ∧ conjI n cj = n) ∨ ((cj == 1) = false ∧ (cj == 2) = false ∧ (cj == 3) = false ∧ conjI n cj = 0) := by
  unfold conjI
  by_cases h1 : cj = 1
  · simp [h1]
  by_cases h2 : cj = 2
  · by_cases h3 : n = 0 <;> simp [h2, h3]
  by_cases h3 : cj = 3
  · simp [h3]
  · simp [h1, h2, h3]
theorem pic_cases (n br : Int) (pc : Bool) : (pc = true ∧ picI n br pc = 1) ∨ (pc = false ∧ (n == 1) = false ∧ picI n br pc = 0) ∨ (pc = false ∧ n = 1 ∧ (br == 4) = true ∧ picI n br pc = 1) ∨ (pc = false ∧ n = 1 ∧ (br == 4) = false ∧ (br == 5) = true ∧ picI n br pc = 2) ∨ (pc = false ∧ n = 1 ∧ (br == 4) = false ∧ (br == 5) = false ∧ picI n br pc = 0) := by
  unfold picI
  cases pc with
  | true => simp
  | false =>
    by_cases h1 : n = 1
    · by_cases h2 : br = 4
      · simp [h1, h2]
      · by_cases h3 : br = 5 <;> simp [h1, h2, h3]
    · simp [h1]
end Go.Proofs.YteinppjklhomnaaDoor
/- Contracts of seg.State's joins and Step. -/
namespace Go.Proofs.YteinppjklhomnaaDoor
open Go.RowKit Go.ChangeShapes Go.WideShapes
def joinsB (tl : Bool) (la cj pi : Int) (od : Bool) (br : Int) (pc : Bool) (cv : Int) : Bool :=
  if tl = false then false else if joinI la br = 1 then true else if cv = 1 ∧ cj = 2 then true else if pc = true ∧ pi = 2 then true else (br == 6 && od)
theorem joins_cases (tl : Bool) (la cj pi : Int) (od : Bool) (br : Int) (pc : Bool) (cv : Int) :
    (tl = false ∧ joinsB tl la cj pi od br pc cv = false) ∨ (tl = true ∧ (joinI la br == 1) = true ∧ joinsB tl la cj pi od br pc cv = true)
    ∨ (tl = true ∧ (joinI la br == 1) = false ∧ (cv == 1) = true ∧ (cj == 2) = true ∧ joinsB tl la cj pi od br pc cv = true)
    ∨ (tl = true ∧ (joinI la br == 1) = false ∧ ((cv == 1) = false ∨ (cv == 1) = true ∧ (cj == 2) = false) ∧ pc = true ∧ (pi == 2) = true ∧ joinsB tl la cj pi od br pc cv = true)
    ∨ (tl = true ∧ (joinI la br == 1) = false ∧ ((cv == 1) = false ∨ (cv == 1) = true ∧ (cj == 2) = false) ∧ (pc = false ∨ pc = true ∧ (pi == 2) = false) ∧ ((br == 6) = false ∧ joinsB tl la cj pi od br pc cv = false ∨ (br == 6) = true ∧ joinsB tl la cj pi od br pc cv = od)) := by
  unfold joinsB
  cases tl with
  | false => simp
  | true =>
    by_cases h1 : joinI la br = 1
    · simp [h1]
    by_cases h2 : cv = 1 ∧ cj = 2
    · simp [h1, h2]
    have h2' : ((cv == 1) = false ∨ (cv == 1) = true ∧ (cj == 2) = false) := by
      by_cases h : cv = 1
      · exact .inr ⟨by simpa using h, by simp; intro e; exact h2 ⟨h, e⟩⟩
      · exact .inl (by simpa using h)
    by_cases h3 : pc = true ∧ pi = 2
    · refine .inr (.inr (.inr (.inl ⟨rfl, by simpa using h1, h2', h3.1, by simpa using h3.2, ?_⟩)))
      rw [if_neg (by simp), if_neg h1, if_neg h2, if_pos h3]
    have h3' : (pc = false ∨ pc = true ∧ (pi == 2) = false) := by
      cases pc with
      | false => exact .inl rfl
      | true => exact .inr ⟨rfl, by simp; intro e; exact h3 ⟨rfl, e⟩⟩
    refine .inr (.inr (.inr (.inr ⟨rfl, by simpa using h1, h2', h3', ?_⟩)))
    rw [if_neg (by simp), if_neg h1, if_neg h2, if_neg h3]
    by_cases h4 : br = 6 <;> simp [h4]
end Go.Proofs.YteinppjklhomnaaDoor
/- Contracts of seg.State's Step and Reset. -/
namespace Go.Proofs.YteinppjklhomnaaDoor
open Go.RowKit Go.ChangeShapes Go.WideShapes
/-- The state of a row so far. -/
theorem conjI_bd (n cj : Int) (n0 : 0 ≤ n) (n1 : n ≤ 255) : 0 ≤ conjI n cj ∧ conjI n cj ≤ 255 := by unfold conjI; omega
theorem picI_bd (n br : Int) (pc : Bool) : 0 ≤ picI n br pc ∧ picI n br pc ≤ 255 := by unfold picI; omega
end Go.Proofs.YteinppjklhomnaaDoor
/- A row of properties: what the state is behind each of them, and what looking back from a place tells: they agree. -/
namespace Go.Proofs.YteinppjklhomnaaDoor
open Go.RowKit Go.ChangeShapes Go.WideShapes
/-- The state's parts behind the first k. -/
def cSt (xs : List Pr) : Nat → Int
  | 0 => 0
  | k + 1 => conjI (cSt xs k) (xs.getD k Pr.none).cv
def pSt (xs : List Pr) : Nat → Int
  | 0 => 0
  | k + 1 => picI (pSt xs k) (xs.getD k Pr.none).br (xs.getD k Pr.none).pc
def oSt (xs : List Pr) : Nat → Bool
  | 0 => false
  | k + 1 => (xs.getD k Pr.none).br == 6 && !oSt xs k
def lSt (xs : List Pr) : Nat → Int
  | 0 => 0
  | k + 1 => (xs.getD k Pr.none).br
/-- Looking back from k: for a consonant with a linker behind it; a picture; how many RI. -/
def cBack (xs : List Pr) : Nat → Nat → Bool
  | 0, _ => false
  | k + 1, n => if (xs.getD k Pr.none).cv = 1 then decide (0 < n) else if (xs.getD k Pr.none).cv = 2 then cBack xs k (n + 1) else if (xs.getD k Pr.none).cv = 3 then cBack xs k n else false
def pBack (xs : List Pr) : Nat → Bool
  | 0 => false
  | k + 1 => if (xs.getD k Pr.none).pc = true then true else if (xs.getD k Pr.none).br = 4 then pBack xs k else false
def nBack (xs : List Pr) : Nat → Nat
  | 0 => 0
  | k + 1 => if (xs.getD k Pr.none).br = 6 then nBack xs k + 1 else 0
theorem cSt_bd (xs : List Pr) (k : Nat) : cSt xs k = 0 ∨ cSt xs k = 1 ∨ cSt xs k = 2 := by
  induction k with
  | zero => exact .inl rfl
  | succ k ih => unfold cSt conjI; split <;> (try split) <;> (try split) <;> omega
theorem pSt_bd (xs : List Pr) (k : Nat) : pSt xs k = 0 ∨ pSt xs k = 1 ∨ pSt xs k = 2 := by
  cases k with
  | zero => exact .inl rfl
  | succ k => unfold pSt picI; split <;> (try split) <;> (try split) <;> (try split) <;> omega
theorem cBack_st (xs : List Pr) (k : Nat) : ∀ n, cBack xs k n = (if n = 0 then decide (cSt xs k = 2) else decide (cSt xs k ≠ 0)) := by
  induction k with
  | zero => intro n; simp [cBack, cSt]
  | succ k ih =>
    intro n
    have hb := cSt_bd xs k
    unfold cBack cSt conjI
    simp only [ih]
    generalize (xs.getD k Pr.none).cv = c
    generalize cSt xs k = s at *
    have h0 : n + 1 ≠ 0 := by omega
    by_cases h1 : c = 1
    · subst h1; by_cases hn : n = 0 <;> simp [hn]; omega
    by_cases h2 : c = 2
    · subst h2; rcases hb with rfl | rfl | rfl <;> by_cases hn : n = 0 <;> simp [hn]
    by_cases h3 : c = 3
    · subst h3; simp
    · simp [h1, h2, h3]
theorem pBack_st (xs : List Pr) (k : Nat) : pBack xs k = decide (pSt xs k = 1) := by
  induction k with
  | zero => simp [pBack, pSt]
  | succ k ih =>
    unfold pBack pSt picI
    simp only [ih]
    generalize (xs.getD k Pr.none).br = b
    generalize (xs.getD k Pr.none).pc = c
    generalize pSt xs k = s
    cases c with
    | true => simp
    | false =>
      by_cases h4 : b = 4
      · subst h4; by_cases h1 : s = 1 <;> simp [h1]
      · by_cases h1 : s = 1
        · by_cases h5 : b = 5 <;> simp [h1, h4, h5]
        · simp [h1, h4]
theorem nBack_st (xs : List Pr) (k : Nat) : decide (nBack xs k % 2 = 1) = oSt xs k := by
  induction k with
  | zero => simp [nBack, oSt]
  | succ k ih =>
    unfold nBack oSt
    rw [← ih]
    generalize (xs.getD k Pr.none).br = b
    generalize nBack xs k = m
    by_cases h : b = 6
    · subst h
      by_cases h2 : m % 2 = 1
      · have h3 : ¬ (m + 1) % 2 = 1 := by omega
        simp [h2, h3]
      · have h3 : (m + 1) % 2 = 1 := by omega
        simp [h2, h3]
    · simp [h]
theorem oSt_last (xs : List Pr) (k : Nat) (h : oSt xs k = true) : lSt xs k = 6 ∧ 0 < k := by
  cases k with
  | zero => simp [oSt] at h
  | succ k => simp [oSt] at h; exact ⟨h.1, by omega⟩
/-- The reference's word: does the picture rule join at place i? -/
def picR (xs : List Pr) (i : Nat) : Bool := (xs.getD i Pr.none).pc && (decide (2 ≤ i) && (decide ((xs.getD (i - 1) Pr.none).br = 5) && (!(xs.getD (i - 1) Pr.none).pc && pBack xs (i - 1))))
theorem picR_st (xs : List Pr) (i : Nat) : picR xs i = ((xs.getD i Pr.none).pc && decide (pSt xs i = 2)) := by
  unfold picR
  congr 1
  cases i with
  | zero => simp [pSt]
  | succ k =>
    rw [pBack_st]
    simp only [Nat.add_sub_cancel]
    have hb := pSt_bd xs k
    cases k with
    | zero => simp only [pSt, picI]; cases (xs.getD 0 Pr.none).pc <;> simp
    | succ m =>
      rw [decide_eq_true (by omega), Bool.true_and]
      show _ = decide (picI (pSt xs (m + 1)) (xs.getD (m + 1) Pr.none).br (xs.getD (m + 1) Pr.none).pc = 2)
      unfold picI
      generalize (xs.getD (m + 1) Pr.none).br = b
      generalize (xs.getD (m + 1) Pr.none).pc = c
      generalize pSt xs (m + 1) = s
      cases c with
      | true => simp
      | false =>
        by_cases h1 : s = 1
        · by_cases h4 : b = 4
          · simp [h1, h4]
          · by_cases h5 : b = 5 <;> simp [h1, h4, h5]
        · simp [h1]
def conR (xs : List Pr) (i : Nat) : Bool := (xs.getD i Pr.none).cv == 1 && cBack xs i 0
/-- The reference's word: does the one at place i join? -/
def jR (xs : List Pr) (i : Nat) : Bool :=
  if i = 0 then false else if joinI (xs.getD (i - 1) Pr.none).br (xs.getD i Pr.none).br = 1 then true else if conR xs i = true then true else if picR xs i = true then true
  else if joinI (xs.getD (i - 1) Pr.none).br (xs.getD i Pr.none).br ≠ 2 then false else if (xs.getD i Pr.none).br ≠ 6 then false else decide (nBack xs i % 2 = 1)
theorem jR_st (xs : List Pr) (i : Nat) : jR xs i = joinsB (decide (0 < i)) (lSt xs i) (cSt xs i) (pSt xs i) (oSt xs i) (xs.getD i Pr.none).br (xs.getD i Pr.none).pc (xs.getD i Pr.none).cv := by
  cases i with
  | zero => simp [jR, joinsB]
  | succ k =>
    have hl : (xs.getD (k + 1 - 1) Pr.none).br = lSt xs (k + 1) := rfl
    have ho := oSt_last xs (k + 1)
    unfold jR joinsB conR
    rw [hl, cBack_st, if_pos rfl, picR_st, nBack_st]
    rw [if_neg (show ¬ k + 1 = 0 by omega), if_neg (show ¬ decide (0 < k + 1) = false by simp)]
    generalize (xs.getD (k + 1) Pr.none).br = b
    generalize (xs.getD (k + 1) Pr.none).pc = c
    generalize (xs.getD (k + 1) Pr.none).cv = v
    generalize cSt xs (k + 1) = s1
    generalize pSt xs (k + 1) = s2
    generalize oSt xs (k + 1) = od at *
    generalize lSt xs (k + 1) = la at *
    by_cases h1 : joinI la b = 1
    · simp [h1]
    · rw [if_neg h1, if_neg h1]
      by_cases h2 : v = 1 ∧ s1 = 2
      · rw [if_pos h2, if_pos (by simp [h2.1, h2.2])]
      · rw [if_neg h2, if_neg (by simpa using h2)]
        by_cases h3 : c = true ∧ s2 = 2
        · rw [if_pos h3, if_pos (by simp [h3.1, h3.2])]
        · rw [if_neg h3, if_neg (by simpa using h3)]
          by_cases h6 : b = 6
          · subst h6
            cases od with
            | true =>
              rw [(ho rfl).1]
              rfl
            | false => simp
          · simp [h6]
end Go.Proofs.YteinppjklhomnaaDoor
/- Contracts of the reference's functions of layer 15. -/
namespace Go.Proofs.YteinppjklhomnaaDoor
open Go.RowKit Go.ChangeShapes Go.WideShapes
theorem cBack_cases (xs : List Pr) (k n : Nat) : ((xs.getD k Pr.none).cv = 1 ∧ cBack xs (k + 1) n = decide (0 < n)) ∨ (((xs.getD k Pr.none).cv == 1) = false ∧ (xs.getD k Pr.none).cv = 2 ∧ cBack xs (k + 1) n = cBack xs k (n + 1))
    ∨ (((xs.getD k Pr.none).cv == 1) = false ∧ ((xs.getD k Pr.none).cv == 2) = false ∧ (xs.getD k Pr.none).cv = 3 ∧ cBack xs (k + 1) n = cBack xs k n)
    ∨ (((xs.getD k Pr.none).cv == 1) = false ∧ ((xs.getD k Pr.none).cv == 2) = false ∧ ((xs.getD k Pr.none).cv == 3) = false ∧ cBack xs (k + 1) n = false) := by
  have hstep : cBack xs (k + 1) n = (if (xs.getD k Pr.none).cv = 1 then decide (0 < n) else if (xs.getD k Pr.none).cv = 2 then cBack xs k (n + 1) else if (xs.getD k Pr.none).cv = 3 then cBack xs k n else false) := rfl
  rw [hstep]
  generalize (xs.getD k Pr.none).cv = c
  by_cases h1 : c = 1
  · exact .inl ⟨h1, by rw [if_pos h1]⟩
  · have d1 : (c == 1) = false := by simpa using h1
    rw [if_neg h1]
    by_cases h2 : c = 2
    · exact .inr (.inl ⟨d1, h2, by rw [if_pos h2]⟩)
    · have d2 : (c == 2) = false := by simpa using h2
      rw [if_neg h2]
      by_cases h3 : c = 3
      · exact .inr (.inr (.inl ⟨d1, d2, h3, by rw [if_pos h3]⟩))
      · exact .inr (.inr (.inr ⟨d1, d2, by simpa using h3, by rw [if_neg h3]⟩))
theorem pBack_cases (xs : List Pr) (k : Nat) : ((xs.getD k Pr.none).pc = true ∧ pBack xs (k + 1) = true) ∨ ((xs.getD k Pr.none).pc = false ∧ (xs.getD k Pr.none).br = 4 ∧ pBack xs (k + 1) = pBack xs k) ∨ ((xs.getD k Pr.none).pc = false ∧ ((xs.getD k Pr.none).br == 4) = false ∧ pBack xs (k + 1) = false) := by
  have hstep : pBack xs (k + 1) = (if (xs.getD k Pr.none).pc = true then true else if (xs.getD k Pr.none).br = 4 then pBack xs k else false) := rfl
  rw [hstep]
  generalize (xs.getD k Pr.none).br = b
  generalize (xs.getD k Pr.none).pc = c
  cases c with
  | true => exact .inl ⟨rfl, rfl⟩
  | false =>
    by_cases h : b = 4
    · exact .inr (.inl ⟨rfl, h, by simp [h]⟩)
    · exact .inr (.inr ⟨rfl, by simpa using h, by simp [h]⟩)
theorem picR_cases (xs : List Pr) (i : Nat) : ((xs.getD i Pr.none).pc = false ∧ picR xs i = false) ∨ ((xs.getD i Pr.none).pc = true ∧ i < 2 ∧ picR xs i = false)
    ∨ ((xs.getD i Pr.none).pc = true ∧ 2 ≤ i ∧ ((xs.getD (i - 1) Pr.none).br == 5) = false ∧ picR xs i = false) ∨ ((xs.getD i Pr.none).pc = true ∧ 2 ≤ i ∧ (xs.getD (i - 1) Pr.none).br = 5 ∧ (xs.getD (i - 1) Pr.none).pc = true ∧ picR xs i = false)
    ∨ ((xs.getD i Pr.none).pc = true ∧ 2 ≤ i ∧ (xs.getD (i - 1) Pr.none).br = 5 ∧ (xs.getD (i - 1) Pr.none).pc = false ∧ picR xs i = pBack xs (i - 1)) := by
  unfold picR
  generalize (xs.getD i Pr.none).pc = a
  generalize (xs.getD (i - 1) Pr.none).br = b
  generalize (xs.getD (i - 1) Pr.none).pc = c
  cases a with
  | false => exact .inl ⟨rfl, rfl⟩
  | true =>
    by_cases h2 : 2 ≤ i
    · by_cases h5 : b = 5
      · cases c with
        | true => exact .inr (.inr (.inr (.inl ⟨rfl, h2, h5, rfl, by simp⟩)))
        | false => exact .inr (.inr (.inr (.inr ⟨rfl, h2, h5, rfl, by simp [h2, h5]⟩)))
      · exact .inr (.inr (.inl ⟨rfl, h2, by simpa using h5, by simp [h5]⟩))
    · exact .inr (.inl ⟨rfl, by omega, by simp [h2]⟩)
end Go.Proofs.YteinppjklhomnaaDoor
/- The reference's Joins of layer 15. -/
namespace Go.Proofs.YteinppjklhomnaaDoor
open Go.RowKit Go.ChangeShapes Go.WideShapes
theorem jR_cases (xs : List Pr) (m : Nat) (j : Int) (hj : joinI (xs.getD m Pr.none).br (xs.getD (m + 1) Pr.none).br = j) :
    ((j == 1) = true ∧ jR xs (m + 1) = true) ∨ ((j == 1) = false ∧ conR xs (m + 1) = true ∧ jR xs (m + 1) = true) ∨ ((j == 1) = false ∧ conR xs (m + 1) = false ∧ picR xs (m + 1) = true ∧ jR xs (m + 1) = true)
    ∨ ((j == 1) = false ∧ conR xs (m + 1) = false ∧ picR xs (m + 1) = false ∧ (j != 2) = true ∧ jR xs (m + 1) = false)
    ∨ ((j == 1) = false ∧ conR xs (m + 1) = false ∧ picR xs (m + 1) = false ∧ (j != 2) = false ∧ ((xs.getD (m + 1) Pr.none).br != 6) = true ∧ jR xs (m + 1) = false)
    ∨ ((j == 1) = false ∧ conR xs (m + 1) = false ∧ picR xs (m + 1) = false ∧ (j != 2) = false ∧ ((xs.getD (m + 1) Pr.none).br != 6) = false ∧ jR xs (m + 1) = decide (nBack xs (m + 1) % 2 = 1)) := by
  unfold jR
  rw [if_neg (show ¬ m + 1 = 0 by omega), show m + 1 - 1 = m by omega, hj]
  generalize (xs.getD (m + 1) Pr.none).br = b at *
  generalize conR xs (m + 1) = c
  generalize picR xs (m + 1) = p
  by_cases h1 : j = 1
  · exact .inl ⟨by simpa using h1, by rw [if_pos h1]⟩
  have d1 : (j == 1) = false := by simpa using h1
  rw [if_neg h1]
  cases c with
  | true => exact .inr (.inl ⟨d1, rfl, rfl⟩)
  | false =>
    cases p with
    | true => exact .inr (.inr (.inl ⟨d1, rfl, rfl, rfl⟩))
    | false =>
      by_cases h2 : j = 2
      · have d2 : (j != 2) = false := by simpa using h2
        by_cases h6 : b = 6
        · exact .inr (.inr (.inr (.inr (.inr ⟨d1, rfl, rfl, d2, by simpa using h6, by simp [h2, h6]⟩))))
        · exact .inr (.inr (.inr (.inr (.inl ⟨d1, rfl, rfl, d2, by simpa using h6, by simp [h6]⟩))))
      · exact .inr (.inr (.inr (.inl ⟨d1, rfl, rfl, by simpa using h2, by simp [h2]⟩)))
theorem nBack_cases (xs : List Pr) (k : Nat) : (((xs.getD k Pr.none).br == 6) = true ∧ nBack xs (k + 1) = nBack xs k + 1) ∨ (((xs.getD k Pr.none).br == 6) = false ∧ nBack xs (k + 1) = 0) := by
  have hstep : nBack xs (k + 1) = (if (xs.getD k Pr.none).br = 6 then nBack xs k + 1 else 0) := rfl
  rw [hstep]
  generalize (xs.getD k Pr.none).br = b
  by_cases h : b = 6
  · exact .inl ⟨by simpa using h, by rw [if_pos h]⟩
  · exact .inr ⟨by simpa using h, by rw [if_neg h]⟩
end Go.Proofs.YteinppjklhomnaaDoor
/- A state behind the first so many of a row of properties. -/
namespace Go.Proofs.YteinppjklhomnaaDoor
open Go.RowKit Go.ChangeShapes Go.WideShapes
theorem st_bd (xs : List Pr) (k : Nat) : 0 ≤ cSt xs k ∧ cSt xs k ≤ 255 ∧ 0 ≤ pSt xs k ∧ pSt xs k ≤ 255 := by
  have h1 := cSt_bd xs k
  have h2 := pSt_bd xs k
  omega
end Go.Proofs.YteinppjklhomnaaDoor
/- Tables of stretches of numbers: which number lies in one; the tables that chapters 9 to 12 give, and what is known of them. Of no program. -/
namespace Go.Proofs.YteinppjklhomnaaDoor
/-- Does r lie in a stretch? -/
def inTab (T : List (Int × Int)) (r : Int) : Bool := T.any fun p => decide (p.1 ≤ r) && decide (r ≤ p.2)
/-- Stretches that rise and don't meet. -/
def upTab : List (Int × Int) → Bool
  | [] => true
  | [p] => decide (p.1 ≤ p.2)
  | p :: q :: l => decide (p.1 ≤ p.2) && decide (p.2 < q.1) && upTab (q :: l)
theorem upTab_cons {p : Int × Int} {l : List (Int × Int)} (h : upTab (p :: l) = true) : p.1 ≤ p.2 ∧ upTab l = true ∧ ∀ q ∈ l, p.2 < q.1 := by
  induction l generalizing p with
  | nil => exact ⟨by simpa [upTab] using h, rfl, fun q hq => by cases hq⟩
  | cons q l ih =>
    simp only [upTab, Bool.and_eq_true, decide_eq_true_eq] at h
    obtain ⟨i1, _, i3⟩ := ih h.2
    refine ⟨h.1.1, h.2, fun x hx => ?_⟩
    rcases List.mem_cons.1 hx with rfl | hx
    · exact h.1.2
    · have := i3 x hx; omega
theorem up_le : ∀ {T : List (Int × Int)}, upTab T = true → ∀ i (h : i < T.length), T[i].1 ≤ T[i].2
  | [], _, i, h => absurd h (Nat.not_lt_zero _)
  | p :: l, hu, 0, _ => (upTab_cons hu).1
  | p :: l, hu, i + 1, h => up_le (T := l) (upTab_cons hu).2.1 i (by simpa using h)
theorem up_lt : ∀ {T : List (Int × Int)}, upTab T = true → ∀ i j (hi : i < j) (hj : j < T.length), (T[i]'(by omega)).2 < T[j].1
  | [], _, i, j, _, hj => absurd hj (Nat.not_lt_zero _)
  | p :: l, hu, 0, j + 1, _, hj => (upTab_cons hu).2.2 _ (List.getElem_mem (by simpa using hj))
  | p :: l, hu, i + 1, j + 1, hi, hj => up_lt (T := l) (upTab_cons hu).2.1 i j (by omega) (by simpa using hj)
theorem inTab_of {T : List (Int × Int)} {r : Int} (i : Nat) (h : i < T.length) (h1 : T[i].1 ≤ r) (h2 : r ≤ T[i].2) : inTab T r = true :=
  List.any_eq_true.2 ⟨T[i], List.getElem_mem h, by simp [h1, h2]⟩
theorem inTab_at {T : List (Int × Int)} {r : Int} (h : inTab T r = true) : ∃ i, ∃ h : i < T.length, T[i].1 ≤ r ∧ r ≤ T[i].2 := by
  obtain ⟨p, hp, hh⟩ := List.any_eq_true.1 h
  obtain ⟨i, hi, rfl⟩ := List.getElem_of_mem hp
  simp at hh
  exact ⟨i, hi, hh.1, hh.2⟩
theorem inTab_none {T : List (Int × Int)} {r : Int} (h : ∀ i (h : i < T.length), ¬ (T[i].1 ≤ r ∧ r ≤ T[i].2)) : inTab T r = false := by
  cases ht : inTab T r with
  | false => rfl
  | true =>
    obtain ⟨i, hi, hh⟩ := inTab_at ht
    exact absurd hh (h i hi)
/-- The first stretch that doesn't end below r holds r, or none does. -/
theorem inTab_search {T : List (Int × Int)} {r : Int} (hu : upTab T = true) (i : Nat) (hi : i < T.length) (hlo : ∀ j (hj : j < i), (T[j]'(by omega)).2 < r) (hhi : r ≤ T[i].2) : inTab T r = decide (T[i].1 ≤ r) := by
  by_cases h1 : T[i].1 ≤ r
  · rw [decide_eq_true h1]; exact inTab_of i hi h1 hhi
  · rw [decide_eq_false h1]
    refine inTab_none fun k hk hh => ?_
    rcases Nat.lt_trichotomy k i with h | h | h
    · have := hlo k h; omega
    · subst h; omega
    · have := up_lt hu i k h hk; have := up_le hu i hi; omega
theorem inTab_past {T : List (Int × Int)} {r : Int} (hlo : ∀ j (hj : j < T.length), (T[j]'(by omega)).2 < r) : inTab T r = false :=
  inTab_none fun k hk hh => by have := hlo k hk; omega
/-- Tables that don't meet. -/
def apart (T U : List (Int × Int)) : Bool := T.all fun p => U.all fun q => decide (p.2 < q.1) || decide (q.2 < p.1)
theorem apart_not {T U : List (Int × Int)} {r : Int} (h : apart T U = true) (ht : inTab T r = true) : inTab U r = false := by
  refine inTab_none fun k hk hh => ?_
  obtain ⟨i, hi, h1, h2⟩ := inTab_at ht
  have := List.all_eq_true.1 (List.all_eq_true.1 h _ (List.getElem_mem hi)) _ (List.getElem_mem hk)
  simp at this
  omega
/-- Each stretch of T lies in one of U. -/
def within (T U : List (Int × Int)) : Bool := T.all fun p => U.any fun q => decide (q.1 ≤ p.1) && decide (p.2 ≤ q.2)
theorem within_in {T U : List (Int × Int)} {r : Int} (h : within T U = true) (ht : inTab T r = true) : inTab U r = true := by
  obtain ⟨i, hi, h1, h2⟩ := inTab_at ht
  have := List.all_eq_true.1 h _ (List.getElem_mem hi)
  obtain ⟨q, hq, hh⟩ := List.any_eq_true.1 this
  simp at hh
  exact List.any_eq_true.2 ⟨q, hq, by simp; omega⟩
theorem inTab_one (a b r : Int) : inTab [(a, b)] r = (decide (a ≤ r) && decide (r ≤ b)) := by simp [inTab]
def tControl : List (Int × Int) := [
  (0, 9), (11, 12), (14, 31), (127, 159), (173, 173), (1564, 1564), (6158, 6158), (8203, 8203), (8206, 8207), (8232, 8238), (8288, 8303), 
  (65279, 65279), (65520, 65531), (917504, 917535), (917632, 917759), (918000, 921599)]
theorem tControl_up : upTab tControl = true := by decide +kernel
theorem tControl_len : tControl.length = 16 := by decide +kernel
def tExtend : List (Int × Int) := [
  (768, 879), (1155, 1161), (1425, 1469), (1471, 1471), (1473, 1474), (1476, 1477), (1479, 1479), (1552, 1562), (1611, 1631), (1648, 1648), 
  (1750, 1756), (1759, 1764), (1767, 1768), (1770, 1773), (1809, 1809), (1840, 1866), (1958, 1968), (2027, 2035), (2070, 2073), (2075, 2083), 
  (2259, 2273), (2275, 2306), (2362, 2362), (2364, 2364), (2369, 2376), (2381, 2381), (2385, 2391), (2402, 2403), (2433, 2433), (2492, 2492), 
  (2494, 2494), (2497, 2500), (2509, 2509), (2519, 2519), (2530, 2531), (2561, 2562), (2620, 2620), (2625, 2626), (2631, 2632), (2635, 2637), 
  (2748, 2748), (2753, 2757), (2765, 2765), (2876, 2876), (2878, 2879), (2881, 2884), (2893, 2893), (2902, 2903), (3132, 3132), (3134, 3136), 
  (3142, 3144), (3146, 3149), (3276, 3277), (3390, 3390), (3393, 3396), (3405, 3405), (3633, 3633), (3636, 3642), (3655, 3662), (3761, 3761), 
  (3764, 3772), (3864, 3865), (3953, 3966), (4957, 4959), (6832, 6862), (7616, 7679), (8204, 8204), (8400, 8432), (12330, 12335), (12441, 12442), 
  (42607, 42610), (64286, 64286), (65024, 65039), (65056, 65071), (127995, 127999), (917536, 917631), (917760, 917999)]
theorem tExtend_up : upTab tExtend = true := by decide +kernel
theorem tExtend_len : tExtend.length = 77 := by decide +kernel
def tPrepend : List (Int × Int) := [
  (1536, 1541), (1757, 1757), (1807, 1807), (2192, 2193), (2274, 2274), (3406, 3406), (69821, 69821), (69837, 69837)]
theorem tPrepend_up : upTab tPrepend = true := by decide +kernel
theorem tPrepend_len : tPrepend.length = 8 := by decide +kernel
def tSpacing : List (Int × Int) := [
  (2307, 2307), (2363, 2363), (2366, 2368), (2377, 2380), (2382, 2383), (2434, 2435), (2495, 2496), (2503, 2504), (2507, 2508), (2563, 2563), 
  (2622, 2624), (2691, 2691), (2750, 2752), (2761, 2761), (2818, 2819), (2880, 2880), (2887, 2888), (3073, 3075), (3137, 3140), (3330, 3331), 
  (3391, 3392), (3398, 3400), (3635, 3635), (3763, 3763), (3902, 3903), (4155, 4156)]
theorem tSpacing_up : upTab tSpacing = true := by decide +kernel
theorem tSpacing_len : tSpacing.length = 26 := by decide +kernel
def tPict : List (Int × Int) := [
  (169, 169), (174, 174), (8252, 8252), (8265, 8265), (8482, 8482), (8505, 8505), (8596, 8601), (8617, 8618), (8986, 8987), (9000, 9000), (9096, 9096), 
  (9167, 9167), (9193, 9203), (9208, 9210), (9410, 9410), (9642, 9643), (9654, 9654), (9664, 9664), (9723, 9726), (9728, 9733), (9735, 9746), 
  (9748, 9861), (9872, 9989), (9992, 10002), (10004, 10004), (10006, 10006), (10013, 10013), (10017, 10017), (10024, 10024), (10035, 10036), 
  (10052, 10052), (10055, 10055), (10060, 10060), (10062, 10062), (10067, 10069), (10071, 10071), (10083, 10087), (10133, 10135), (10145, 10145), 
  (10160, 10160), (10175, 10175), (10548, 10549), (11013, 11015), (11035, 11036), (11088, 11088), (11093, 11093), (12336, 12336), (12349, 12349), 
  (12951, 12951), (12953, 12953), (126976, 127231), (127245, 127247), (127279, 127279), (127340, 127345), (127358, 127359), (127374, 127374), 
  (127377, 127386), (127405, 127461), (127489, 127503), (127514, 127514), (127535, 127535), (127538, 127546), (127548, 127551), (127561, 127994), 
  (128000, 128317), (128326, 128591), (128640, 128767), (128884, 128895), (128981, 129023), (129036, 129039), (129096, 129103), (129114, 129119), 
  (129160, 129167), (129198, 129279), (129292, 129338), (129340, 129349), (129351, 129791), (130048, 131069)]
theorem tPict_up : upTab tPict = true := by decide +kernel
theorem tPict_len : tPict.length = 78 := by decide +kernel
def tCons : List (Int × Int) := [
  (2325, 2361), (2392, 2399), (2424, 2431), (2453, 2472), (2474, 2480), (2482, 2482), (2486, 2489), (2524, 2525), (2527, 2527), (2544, 2545), 
  (2709, 2728), (2730, 2736), (2738, 2739), (2741, 2745), (2809, 2809), (2837, 2856), (2858, 2864), (2866, 2867), (2869, 2873), (2908, 2909), 
  (2911, 2911), (2929, 2929), (3093, 3112), (3114, 3129), (3160, 3162), (3349, 3386)]
theorem tCons_up : upTab tCons = true := by decide +kernel
theorem tCons_len : tCons.length = 26 := by decide +kernel
def tLink : List (Int × Int) := [
  (2381, 2381), (2509, 2509), (2765, 2765), (2893, 2893), (3149, 3149), (3405, 3405)]
theorem tLink_up : upTab tLink = true := by decide +kernel
theorem tLink_len : tLink.length = 6 := by decide +kernel
def tJoin : List (Int × Int) := [
  (768, 879), (1155, 1159), (1425, 1469), (1552, 1562), (1611, 1631), (2364, 2364), (2385, 2388), (2492, 2492), (2748, 2748), (2876, 2876), 
  (3132, 3132), (6832, 6845), (7616, 7679), (8205, 8205), (8400, 8412), (12330, 12335), (12441, 12442), (65056, 65071)]
theorem tJoin_up : upTab tJoin = true := by decide +kernel
theorem tJoin_len : tJoin.length = 18 := by decide +kernel
def tWide : List (Int × Int) := [
  (4352, 4447), (8986, 8987), (9001, 9002), (9193, 9196), (9200, 9200), (9203, 9203), (9725, 9726), (9748, 9749), (9800, 9811), (9855, 9855), 
  (9875, 9875), (9889, 9889), (9898, 9899), (9917, 9918), (9924, 9925), (9934, 9934), (9940, 9940), (9962, 9962), (9970, 9971), (9973, 9973), 
  (9978, 9978), (9981, 9981), (9989, 9989), (9994, 9995), (10024, 10024), (10060, 10060), (10062, 10062), (10067, 10069), (10071, 10071), 
  (10133, 10135), (10160, 10160), (10175, 10175), (11035, 11036), (11088, 11088), (11093, 11093), (11904, 11929), (11931, 12019), (12032, 12245), 
  (12272, 12287), (12289, 12350), (12353, 12438), (12441, 12543), (12549, 12591), (12593, 12686), (12688, 12771), (12784, 12830), (12832, 12871), 
  (12880, 19903), (19968, 42124), (42128, 42182), (43360, 43388), (44032, 55203), (63744, 64255), (65040, 65049), (65072, 65106), (65108, 65126), 
  (65128, 65131), (94176, 94180), (94208, 100343), (100352, 101589), (110592, 110882), (126980, 126980), (127183, 127183), (127374, 127374), 
  (127377, 127386), (127488, 127490), (127504, 127547), (127552, 127560), (127568, 127569), (127584, 127589), (127744, 127776), (127789, 127797), 
  (127799, 127868), (127870, 127891), (127904, 127946), (127951, 127955), (127968, 127984), (127988, 127988), (127992, 128062), (128064, 128064), 
  (128066, 128252), (128255, 128317), (128331, 128334), (128336, 128359), (128378, 128378), (128405, 128406), (128420, 128420), (128507, 128591), 
  (128640, 128709), (128716, 128716), (128720, 128722), (128725, 128727), (128732, 128735), (128747, 128748), (128756, 128764), (128992, 129003), 
  (129008, 129008), (129292, 129338), (129340, 129349), (129351, 129535), (129648, 129660), (129664, 129672), (129680, 129725), (129727, 129733), 
  (129742, 129755), (129760, 129768), (129776, 129784), (131072, 196605), (196608, 262141)]
theorem tWide_up : upTab tWide = true := by decide +kernel
theorem tWide_len : tWide.length = 109 := by decide +kernel
def tFull : List (Int × Int) := [
  (12288, 12288), (65281, 65376), (65504, 65510)]
theorem tFull_up : upTab tFull = true := by decide +kernel
theorem tFull_len : tFull.length = 3 := by decide +kernel
def tHalf : List (Int × Int) := [
  (8361, 8361), (65377, 65470), (65474, 65479), (65482, 65487), (65490, 65495), (65498, 65500), (65512, 65518)]
theorem tHalf_up : upTab tHalf = true := by decide +kernel
theorem tHalf_len : tHalf.length = 7 := by decide +kernel

theorem a1 : apart tSpacing tPrepend = true := by decide +kernel
theorem a2 : apart tControl [(13, 13), (10, 10), (8205, 8205), (127462, 127487)] = true := by decide +kernel
theorem a3 : apart tExtend [(13, 13), (10, 10), (8205, 8205), (127462, 127487)] = true := by decide +kernel
end Go.Proofs.YteinppjklhomnaaDoor
/- A slice of stretches; contracts of pinned.Has and of the reference's In. -/
namespace Go.Proofs.YteinppjklhomnaaDoor
open Go.RowKit Go.ChangeShapes Go.WideShapes
/-- In the world w the slice value v holds the stretches T (numbers of kind k). -/
def HeldT (k : IntKind) (w : World) (v : Value) (T : List (Int × Int)) : Prop :=
  ∃ ao cap, v = .slice ao T.length cap ∧ ∀ i, i < T.length → ∃ b off, ao = some ⟨b, off, none⟩ ∧ b < w.heap.size ∧ w.cell? ⟨b, off + i * 2, none⟩ = some (.int k (T.getD i (0, 0)).1) ∧ w.cell? ⟨b, off + i * 2 + 1, none⟩ = some (.int k (T.getD i (0, 0)).2)
theorem HeldT.below {k : IntKind} {w w' : World} {v : Value} {T : List (Int × Int)} (h : HeldT k w v T) (hb : Below w.heap.size w w') : HeldT k w' v T := by
  obtain ⟨ao, cap, rfl, hc⟩ := h
  refine ⟨ao, cap, rfl, fun i hi => ?_⟩
  obtain ⟨b, off, rfl, hlt, h1, h2⟩ := hc i hi
  exact ⟨b, off, rfl, by have := hb.size; omega, (hb.cell (p := ⟨b, _, none⟩) hlt).trans h1, (hb.cell (p := ⟨b, _, none⟩) hlt).trans h2⟩
theorem HeldT.view {k : IntKind} {w : World} {v : Value} {T : List (Int × Int)} (h : HeldT k w v T) : ∃ ao cap, v = .slice ao T.length cap ∧ ∀ i, i < T.length → ∃ b off, ao = some ⟨b, off, none⟩ ∧ b < w.heap.size ∧ w.cell? ⟨b, off + i * 2, none⟩ = some (.int k (T.getD i (0, 0)).1) ∧ w.cell? ⟨b, off + i * 2 + 1, none⟩ = some (.int k (T.getD i (0, 0)).2) := h
/-- The cells of a list of stretches. -/
def tabCells (k : IntKind) (T : List (Int × Int)) : List Value := T.flatMap fun p => [.int k p.1, .int k p.2]
theorem tabCells_len (k : IntKind) (T : List (Int × Int)) : (tabCells k T).length = 2 * T.length := by
  induction T with
  | nil => rfl
  | cons p T ih => simp only [tabCells, List.flatMap_cons, List.length_append, List.length_cons, List.length_nil] at *; omega
theorem tabCells_at (k : IntKind) : ∀ (T : List (Int × Int)) (i : Nat), i < T.length → (tabCells k T)[i * 2]? = some (.int k (T.getD i (0, 0)).1) ∧ (tabCells k T)[i * 2 + 1]? = some (.int k (T.getD i (0, 0)).2)
  | [], i, h => absurd h (Nat.not_lt_zero _)
  | p :: T, 0, _ => ⟨rfl, rfl⟩
  | p :: T, i + 1, h => by
    have := tabCells_at k T i (by simpa using h)
    rw [show (i + 1) * 2 = i * 2 + 1 + 1 by omega]
    simpa [tabCells] using this
theorem heldT_has {k : IntKind} {w : World} {g : Nat} {T : List (Int × Int)} {t : TypeId} {cap : Nat} (h : Has w g (tabCells k T) t) : HeldT k w (.slice (some ⟨g, 0, none⟩) T.length cap) T := by
  refine ⟨_, _, rfl, fun i hi => ⟨g, 0, rfl, h.lt, ?_, ?_⟩⟩
  · rw [Nat.zero_add]; exact h.cell _ _ (tabCells_at k T i hi).1
  · rw [Nat.zero_add]; exact h.cell _ _ (tabCells_at k T i hi).2
def endsB (T : List (Int × Int)) (r : Int) (i : Nat) : Bool := decide (r ≤ (T.getD i (0, 0)).2)
theorem getD_tab {T : List (Int × Int)} {i : Nat} (h : i < T.length) : T.getD i (0, 0) = T[i] := by simp [List.getD, List.getElem?_eq_getElem h]
theorem ends_mono {T : List (Int × Int)} {r : Int} (hu : upTab T = true) : ∀ a b, a ≤ b → b < T.length → endsB T r a = true → endsB T r b = true := by
  intro a b hab hb h
  unfold endsB at *
  rw [getD_tab hb]
  rw [getD_tab (by omega)] at h
  rcases Nat.lt_or_ge a b with hlt | hge
  · have h1 := up_lt hu a b hlt hb
    have h2 := up_le hu b hb
    simp at h ⊢
    omega
  · obtain rfl : a = b := by omega
    exact h
end Go.Proofs.YteinppjklhomnaaDoor
