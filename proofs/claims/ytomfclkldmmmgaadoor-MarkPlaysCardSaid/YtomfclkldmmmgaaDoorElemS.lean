/- What may turn; stores into rows of the call's own, of whatever elements. Of no program. -/
import Derived.Test.YtomfclkldmmmgaaDoorElemA
import Derived.Test.YtomfclkldmmmgaaDoorRow
namespace Go.Proofs.YtomfclkldmmmgaaDoor
open Go.RowKit Go.ChangeShapes Go.WideShapes
/-- Nothing but the blocks of S has turned. -/
structure Upd (S : Zone) (w w' : World) : Prop where
  os : w'.os = w.os
  tape : w'.tape = w.tape
  output : w'.output = w.output
  size : w.heap.size ≤ w'.heap.size
  block : ∀ b, b < w.heap.size → ¬ S b → w'.heap[b]? = w.heap[b]?
theorem Upd.refl (S : Zone) (w : World) : Upd S w w := ⟨rfl, rfl, rfl, Nat.le_refl _, fun _ _ _ => rfl⟩
theorem Upd.trans {S : Zone} {a b c : World} (h : Upd S a b) (k : Upd S b c) : Upd S a c :=
  ⟨k.os.trans h.os, k.tape.trans h.tape, k.output.trans h.output, Nat.le_trans h.size k.size, fun i hi hs => (k.block i (Nat.lt_of_lt_of_le hi h.size) hs).trans (h.block i hi hs)⟩
theorem Upd.mono {S T : Zone} {w w' : World} (h : Upd S w w') (hs : ∀ b, b < w.heap.size → S b → T b) : Upd T w w' := ⟨h.os, h.tape, h.output, h.size, fun b hb ht => h.block b hb fun hs' => ht (hs b hb hs')⟩
theorem Upd.ofBelow {S : Zone} {w w' : World} (h : Below w.heap.size w w') : Upd S w w' := ⟨h.os, h.tape, h.output, h.size, fun b hb _ => h.block b hb⟩
theorem Upd.below {S : Zone} {B : Nat} {w w' : World} (h : Upd S w w') (hB : B ≤ w.heap.size) (hs : ∀ b, S b → B ≤ b) : Below B w w' :=
  ⟨h.os, h.tape, h.output, h.size, fun b hb => h.block b (by omega) fun k => by have := hs b k; omega⟩
theorem Upd.keep {S : Zone} {w w' : World} (h : Upd S w w') : KeepZ (fun b => ¬ S b) w w' := ⟨h.size, h.block⟩
theorem Upd.ofBut {g : Nat} {w w' : World} (h : But g w.heap.size w w') : Upd (fun b => b = g) w w' := ⟨h.os, h.tape, h.output, h.size, fun b hb hn => h.block b hb hn⟩
theorem Upd.setCell {S : Zone} {a w : World} (h : Upd S a w) {p : Addr} (hp : S p.block ∨ a.heap.size ≤ p.block) (u : Value) : Upd S a (w.setCell p u) :=
  ⟨h.os, h.tape, h.output, by rw [World.size_setCell]; exact h.size, fun b hb hn => by rw [heap_setCell_other w p b u (fun e => by subst e; rcases hp with hp | hp; exact hn hp; omega)]; exact h.block b hb hn⟩
theorem Upd.alloc {S : Zone} {a w : World} (h : Upd S a w) (o : Obj) : Upd S a (w.alloc o) := h.trans (.ofBelow ((Below.refl _ _).alloc (Nat.le_refl _) o))
theorem Upd.drew {S : Zone} {a w : World} (h : Upd S a w) : Upd S a w.drew := ⟨h.os, h.tape, h.output, h.size, h.block⟩
theorem _root_.Go.RowKit.Below.upd {S : Zone} {B : Nat} {a b c : World} (h : Below B a b) (k : Upd S b c) (hB : B ≤ b.heap.size) (hs : ∀ x, S x → B ≤ x) : Below B a c := h.trans (k.below hB hs)
section
variable {α : Type} {E : Elem α} {Z Y : Zone} {w w' : World} {v u : Value} {L M : List α} {B : Nat} {ty : TypeId}
theorem HeldE.upd {S : Zone} (h : HeldE E Z w v L) (hk : Upd S w w') (hs : ∀ b, Z b → ¬ S b) : HeldE E Z w' v L := h.kept (hk.keep.mono fun b _ hz => hs b hz)
theorem OwnE.upd {S : Zone} (h : OwnE E Z w B ty v L) (hk : Upd S w w') (hs : ∀ b, Z b ∨ v.ownBlock = some b → ¬ S b) : OwnE E Z w' B ty v L := h.keep (hk.keep.mono fun b _ hz => hs b hz) fun _ _ hz => hz
theorem own_lensI {Zi : Nat → Zone} {CS : List (List Value)} (hl : CS.length = L.length) (h : ∀ i, i < L.length → E.rep (Zi i) w (CS.getD i []) (L.getD i E.zero)) : ∀ C ∈ CS, C.length = E.size := by
  intro C hC
  obtain ⟨i, hi, rfl⟩ := List.getElem_of_mem hC
  have := E.len (h i (by omega))
  rwa [show CS.getD i [] = CS[i] from by simp [List.getD, List.getElem?_eq_getElem hi]] at this
/-- As OwnE; what the i-th element leads to lies in a zone of its own. -/
def OwnI (E : Elem α) (Zi : Nat → Zone) (w : World) (B : Nat) (ty : TypeId) (v : Value) (L : List α) : Prop :=
  ∃ CS : List (List Value), w.ownsRow B ty E.size v L.length CS.flatten ∧ CS.length = L.length ∧ ∀ i, i < L.length → E.rep (fun b => Zi i b ∧ v.ownBlock ≠ some b) w (CS.getD i []) (L.getD i E.zero)
theorem OwnE.each (h : OwnE E Z w B ty v L) : OwnI E (fun _ => Z) w B ty v L := h
theorem OwnI.all {Zi : Nat → Zone} (h : OwnI E Zi w B ty v L) (hz : ∀ i b, i < L.length → b < w.heap.size → Zi i b → Z b) : OwnE E Z w B ty v L := by
  obtain ⟨CS, h1, h2, h3⟩ := h
  exact ⟨CS, h1, h2, fun i hi => E.keep (.refl _ _) (fun b hb k => ⟨hz i b hi hb k.1, k.2⟩) (h3 i hi)⟩
theorem OwnI.keep {Zi Yi : Nat → Zone} (h : OwnI E Zi w B ty v L) (hk : KeepZ (fun b => (∃ i, i < L.length ∧ Zi i b) ∨ v.ownBlock = some b) w w') (hy : ∀ i b, i < L.length → b < w.heap.size → Zi i b → Yi i b) : OwnI E Yi w' B ty v L := by
  obtain ⟨CS, h1, h2, h3⟩ := h
  exact ⟨CS, hk.own h1 fun b hb => .inr hb, h2, fun i hi => E.keep (hk.mono fun b _ hz => .inl ⟨i, hi, hz.1⟩) (fun b hb hz => ⟨hy i b hi hb hz.1, hz.2⟩) (h3 i hi)⟩
theorem OwnI.below {Zi : Nat → Zone} (h : OwnI E Zi w B ty v L) (hb : Below w.heap.size w w') : OwnI E Zi w' B ty v L := h.keep (.all hb _) fun _ _ _ _ hz => hz
theorem OwnI.lt {Zi : Nat → Zone} (h : OwnI E Zi w B ty v L) : ∀ k, v.ownBlock = some k → B ≤ k ∧ k < w.heap.size := by
  obtain ⟨CS, h, _⟩ := h
  exact h.lt
/-- The cells of one element, as a walk reads them. -/
theorem OwnI.at {Zi : Nat → Zone} {g cap n : Nat} (h : OwnI E Zi w B ty (.slice (some ⟨g, 0, none⟩) n cap) L) {i : Nat} (hi : i < L.length) : ∃ C, (∀ j, j < E.size → w.cell? ⟨g, i * E.size + j, none⟩ = C[j]? ∧ w.frozen? ⟨g, i * E.size + j, none⟩ = false) ∧ E.rep (fun b => Zi i b ∧ b ≠ g) w C (L.getD i E.zero) := by
  obtain ⟨CS, h1, h2, h3⟩ := h
  have hn : n = L.length := by
    rcases h1.2 with ⟨h', _⟩ | ⟨g', cap', cur, h', _⟩
    · simp at h'
    · simp only [Value.slice.injEq] at h'
      exact h'.2.1
  subst hn
  have hls := own_lensI h2 (Zi := fun i b => Zi i b ∧ _) h3
  refine ⟨CS.getD i [], fun j hj => ⟨?_, h1.frozenAt _⟩, E.keep (.refl _ _) (fun b _ hz => ⟨hz.1, fun e => hz.2 (by subst e; rfl)⟩) (h3 i hi)⟩
  rw [h1.cellAt (i * E.size + j) (by have : i * E.size + E.size ≤ L.length * E.size := by rw [← Nat.succ_mul]; exact Nat.mul_le_mul_right _ hi
                                     omega)]
  exact flat_at hls i j (by omega) hj
theorem own_setCells {g n cap size : Nat} : ∀ (vs : List Value) (o : Nat) (xs : List Value) (w : World), w.ownsRow B ty size (.slice (some ⟨g, 0, none⟩) n cap) n xs → o + vs.length ≤ xs.length →
    (w.setCells g o vs).ownsRow B ty size (.slice (some ⟨g, 0, none⟩) n cap) n (xs.take o ++ vs ++ xs.drop (o + vs.length))
  | [], o, xs, w, h, _ => by simpa [World.setCells] using h
  | v :: vs, o, xs, w, h, hl => by
    simp only [List.length_cons] at hl
    have h1 := (h.stored o v).1
    have h2 := own_setCells vs (o + 1) (xs.set o v) (w.setCell ⟨g, o, none⟩ v) h1 (by simp; omega)
    have e : (xs.set o v).take (o + 1) ++ vs ++ (xs.set o v).drop (o + 1 + vs.length) = xs.take o ++ (v :: vs) ++ xs.drop (o + (v :: vs).length) := by
      rw [List.take_succ_eq_append_getElem (by simp; omega), List.take_set_of_le (Nat.le_refl _), List.drop_set_of_lt (by omega)]
      simp [List.length_cons, Nat.add_assoc, Nat.add_comm 1 vs.length]
    rw [e] at h2
    exact h2
theorem flat_put {s : Nat} : ∀ {CS : List (List Value)}, (∀ C ∈ CS, C.length = s) → ∀ (i : Nat) (C : List Value), i < CS.length → C.length = s → CS.flatten.take (i * s) ++ C ++ CS.flatten.drop (i * s + s) = (CS.set i C).flatten
  | [], _, i, _, hi, _ => absurd hi (Nat.not_lt_zero _)
  | D :: CS, h, 0, C, _, hC => by
    have hD := h D (by simp)
    simp only [List.flatten_cons, Nat.zero_mul, List.take_zero, List.nil_append, Nat.zero_add, List.set_cons_zero]
    rw [← hD, List.drop_left]
  | D :: CS, h, i + 1, C, hi, hC => by
    have hD := h D (by simp)
    have ih := flat_put (fun E hE => h E (List.mem_cons_of_mem _ hE)) i C (by simpa using hi) hC
    have e1 : (i + 1) * s = D.length + i * s := by rw [hD, Nat.add_mul]; omega
    simp only [List.flatten_cons, List.set_cons_succ]
    rw [e1, List.take_length_add_append, show D.length + i * s + s = D.length + (i * s + s) by omega, List.drop_length_add_append, ← ih]
    simp [List.append_assoc]
/-- An element stored whole. -/
theorem OwnI.put {Zi : Nat → Zone} {g n cap : Nat} (h : OwnI E Zi w B ty (.slice (some ⟨g, 0, none⟩) n cap) L) {i : Nat} (hi : i < L.length) (C : List Value) (x : α) (hr : E.rep (fun b => Y b ∧ b ≠ g) w C x) :
    OwnI E (fun j => if j = i then Y else Zi j) (w.setCells g (i * E.size) C) B ty (.slice (some ⟨g, 0, none⟩) n cap) (L.set i x) ∧ Upd (fun b => b = g) w (w.setCells g (i * E.size) C) := by
  have hu : Upd (fun b => b = g) w (w.setCells g (i * E.size) C) := .ofBut (but_setCells g w.heap.size w C _ w (But.refl _ _ _))
  refine ⟨?_, hu⟩
  obtain ⟨CS, h1, h2, h3⟩ := h
  have hn : n = L.length := by
    rcases h1.2 with ⟨h', _⟩ | ⟨g', cap', cur, h', _⟩
    · simp at h'
    · simp only [Value.slice.injEq] at h'
      exact h'.2.1
  subst hn
  have hls := own_lensI h2 (Zi := fun i b => Zi i b ∧ _) h3
  have hC := E.len hr
  have h4 := own_setCells C (i * E.size) CS.flatten w h1 (by rw [flat_len hls, h2, hC, ← Nat.succ_mul]; exact Nat.mul_le_mul_right _ hi)
  rw [hC, flat_put hls i C (by omega) hC] at h4
  refine ⟨CS.set i C, by rw [List.length_set]; exact h4, by simp [h2], fun j hj => ?_⟩
  simp only [List.length_set] at hj
  have hk : KeepZ (fun b => b ≠ g) w (w.setCells g (i * E.size) C) := hu.keep
  by_cases e : j = i
  · subst e
    rw [show (CS.set j C).getD j [] = C from by simp [List.getD, List.getElem?_set_self (show j < CS.length by omega)], show (L.set j x).getD j E.zero = x from by simp [List.getD, List.getElem?_set_self hi]]
    simp only [if_true]
    exact E.keep (hk.mono fun b _ hz => hz.2) (fun b _ hz => ⟨hz.1, fun e => hz.2 (by simpa [Value.ownBlock] using e.symm)⟩) hr
  · rw [show (CS.set i C).getD j [] = CS.getD j [] from by simp [List.getD, List.getElem?_set_ne (Ne.symm e)], show (L.set i x).getD j E.zero = L.getD j E.zero from by simp [List.getD, List.getElem?_set_ne (Ne.symm e)]]
    simp only [if_neg e]
    exact E.keep (hk.mono fun b _ hz => fun e => hz.2 (by subst e; rfl)) (fun b _ hz => hz) (h3 j hj)
theorem OwnI.there {Zi : Nat → Zone} {g n cap : Nat} (h : OwnI E Zi w B ty (.slice (some ⟨g, 0, none⟩) n cap) L) {i : Nat} (hi : i < L.length) : w.there g (i * E.size) E.size := by
  obtain ⟨C, h1, h2⟩ := h.at hi
  intro j hj
  obtain ⟨h3, h4⟩ := h1 j hj
  rw [h3]
  exact ⟨by rw [List.getElem?_eq_getElem (by rw [E.len h2]; exact hj)]; rfl, h4⟩
/-- 'l[i] = x', of a struct. -/
theorem wpList_put_e {P : Program} {ops : Array Oper} {rest : List Oper} {o : Oper} {a : Act} {Q : Exit → Act → World → Prop} (hgd : o.guard = none) (t : TypeId) (x y : Operand) (ho : o.op = .store t x y) {Zi : Nat → Zone} {g n cap i off : Nat}
    (hx : a.eval x = .pointer (some ⟨g, off, none⟩)) (hoff : off = i * E.size) (C : List Value) (hy : a.eval y = .agg C.toArray) (hi2 : (P.info? t).map (·.size) = some E.size)
    (h : OwnI E Zi w B ty (.slice (some ⟨g, 0, none⟩) n cap) L) (hi : i < L.length) (z : α) (hr : E.rep (fun b => Y b ∧ b ≠ g) w C z)
    (hk : ∀ w', OwnI E (fun j => if j = i then Y else Zi j) w' B ty (.slice (some ⟨g, 0, none⟩) n cap) (L.set i z) → Upd (fun b => b = g) w w' → wpList P ops Q rest (a.put o.dst undef) w') : wpList P ops Q (o :: rest) a w := by
  subst hoff
  have hC := E.len hr
  refine wpList_store_mid hgd t x y ho g (i * E.size) C.toArray hx hy (by simpa [hC] using h.there hi) (by rw [hi2]; simp [hC]) (all_oneCell_toArray (E.one hr)) ?_
  obtain ⟨h1, h2⟩ := h.put hi C z hr
  exact hk _ (by simpa using h1) (by simpa using h2)
end
end Go.Proofs.YtomfclkldmmmgaaDoor
