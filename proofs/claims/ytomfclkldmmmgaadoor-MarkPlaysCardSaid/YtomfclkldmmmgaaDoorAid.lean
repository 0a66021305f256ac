/- Small lemmas of no program: a slice value that holds a list of numbers, and what keeps it; bits; results. -/
import Derived.Handy
import Derived.Laws.BytesArg
import Derived.Laws.AppendOwnNone
import Derived.Lib.Hide
import Derived.Deep.QuietTactic
import Derived.BigQuiet
import Derived.OpenShut
import Derived.Deep.RegionWith
import Derived.WalkSpells
namespace Go.Proofs.YtomfclkldmmmgaaDoor
open Go.RowKit Go.ChangeShapes Go.WideShapes

theorem ret_eq {a b : Value} (h : a = b) : Ending.returned a = .returned b := by rw [h]

/-- In the world w the slice value v holds the numbers xs (of kind k). -/
def Held (k : IntKind) (w : World) (v : Value) (xs : List Int) : Prop :=
  ∃ ao cap, v = .slice ao xs.length cap ∧ (ao = none → xs = [] ∧ cap = 0) ∧ ∀ i, i < xs.length → ∃ b off, ao = some ⟨b, off, none⟩ ∧ b < w.heap.size ∧ w.cell? ⟨b, off + i, none⟩ = some (.int k (xs.getD i 0))

theorem Held.nil (k : IntKind) (w : World) : Held k w (.slice none 0 0) [] := ⟨none, 0, rfl, fun _ => ⟨rfl, rfl⟩, fun i hi => by simp at hi⟩
theorem held_at {k : IntKind} {w : World} {b off cap : Nat} {xs : List Int} (hlt : b < w.heap.size) (hc : ∀ i, i < xs.length → w.cell? ⟨b, off + i, none⟩ = some (.int k (xs.getD i 0))) : Held k w (.slice (some ⟨b, off, none⟩) xs.length cap) xs :=
  ⟨_, cap, rfl, (fun h => by cases h), fun i hi => ⟨b, off, rfl, hlt, hc i hi⟩⟩
theorem Held.below {k : IntKind} {w w' : World} {v : Value} {xs : List Int} (h : Held k w v xs) (hb : Below w.heap.size w w') : Held k w' v xs := by
  obtain ⟨ao, cap, rfl, hn, hc⟩ := h
  refine ⟨ao, cap, rfl, hn, fun i hi => ?_⟩
  obtain ⟨b, off, rfl, hlt, hcell⟩ := hc i hi
  exact ⟨b, off, rfl, by have := hb.size; omega, (hb.cell (p := ⟨b, off + i, none⟩) hlt).trans hcell⟩
theorem Held.len {k : IntKind} {w : World} {v : Value} {xs : List Int} (h : Held k w v xs) : ∃ ao cap, v = .slice ao xs.length cap := by
  obtain ⟨ao, cap, rfl, _⟩ := h
  exact ⟨ao, cap, rfl⟩
/-- What a walk asks of a slice that it goes through: its shape, and, where there is an element, where it lies. -/
theorem Held.view {k : IntKind} {w : World} {v : Value} {xs : List Int} (h : Held k w v xs) :
    ∃ ao cap, v = .slice ao xs.length cap ∧ ∀ i, i < xs.length → ∃ b off, ao = some ⟨b, off, none⟩ ∧ b < w.heap.size ∧ w.cell? ⟨b, off + i, none⟩ = some (.int k (xs.getD i 0)) := by
  obtain ⟨ao, cap, rfl, _, hc⟩ := h
  exact ⟨ao, cap, rfl, hc⟩
theorem Held.spots {k : IntKind} {w : World} {ao : Option Addr} {n cap : Nat} {xs : List Int} (h : Held k w (.slice ao n cap) xs) :
    ∀ i, i < xs.length → ∃ b off, ao = some ⟨b, off, none⟩ ∧ b < w.heap.size ∧ w.cell? ⟨b, off + i, none⟩ = some (.int k (xs.getD i 0)) := by
  obtain ⟨ao', cap', he, _, hc⟩ := h
  cases he
  exact hc
/-- What the call owns it holds. -/
theorem held_of_owns {k : IntKind} {w : World} {B e : Nat} {v : Value} {n : Nat} {xs : List Int} (h : w.ownsRow B e 1 v n (xs.map (Value.int k))) : Held k w v xs := by
  have hl : xs.length = n := by have := h.1; simpa using this
  subst hl
  rcases h.2 with ⟨rfl, hn⟩ | ⟨g, cap, cur, rfl, hb, hg, h1, h2, h3, h4⟩
  · have : xs = [] := List.eq_nil_of_length_eq_zero hn
    subst this
    exact Held.nil k w
  · refine held_at (Array.getElem?_eq_some_iff.1 hg).1 fun i hi => ?_
    have := h.cells (g := g) rfl i (.int k (xs.getD i 0)) (by simp [List.getElem?_eq_getElem hi])
    rw [Addr.add_lit] at this
    simpa using this
theorem ownsRow_below {w w' : World} {B e size : Nat} {v : Value} {n : Nat} {xs : List Value} (h : w.ownsRow B e size v n xs) (hb : Below w.heap.size w w') : w'.ownsRow B e size v n xs := by
  refine ⟨h.1, ?_⟩
  rcases h.2 with hn | ⟨g, cap, cur, rfl, hB, hg, rest⟩
  · exact .inl hn
  · exact .inr ⟨g, cap, cur, rfl, hB, (hb.block g (Array.getElem?_eq_some_iff.1 hg).1).trans hg, rest⟩
/-- An argument that is a slice of integers. -/
theorem held_arg {H : Type} {enc : TypeId × Value → H} {P : Program} {w : World} {base : Nat} {t e : TypeId} {k : IntKind} {v : Value} {d : DataW H} {p : List MemPlace} (ht : P.underlying t = some (.slice e)) (he : P.underlying e = some (.int k)) (hc : P.cellsOf e = 1)
    (hv : Value.okWide P w .any base t v) (h : DataW.Trod enc P w 0 (fun _ => true) true t v d p) : ∃ xs, Held k w v xs ∧ ∀ n ∈ xs, (Lit.int k n).wf = true := by
  obtain ⟨a0, len, cap, rfl⟩ := okWide_slice ht hv
  obtain ⟨fuel, hf⟩ := h
  rcases open_ints ht he hc hf with ⟨hcs, _⟩ | ⟨a, len', cap', zs, hcs, _, hl, hm, hz, hx, hcell, hwz⟩
  · simp [Value.cells] at hcs
    obtain ⟨rfl, rfl, rfl⟩ := hcs
    exact ⟨[], Held.nil k w, fun n hn => by simp at hn⟩
  · simp [Value.cells] at hcs
    obtain ⟨rfl, rfl, rfl⟩ := hcs
    simp at hz
    have hlen : (zs.take len).length = len := by simp; omega
    refine ⟨zs.take len, ⟨some a, cap, by rw [hlen], (fun h => by cases h), fun i hi => ?_⟩, fun n hn => hwz n (List.mem_of_mem_take hn)⟩
    have hi' : i < zs.length := by simp at hi; omega
    have h1 := hcell i hi'
    have hadd : ∃ b off, a = ⟨b, off, none⟩ := by
      obtain ⟨b, off, rfl, _⟩ := ints_at hcell (by omega)
      exact ⟨b, off, rfl⟩
    obtain ⟨b, off, rfl⟩ := hadd
    rw [Addr.add_lit] at h1
    refine ⟨b, off, rfl, World.block_lt_of_cell? w ⟨b, off + i, none⟩ h1, ?_⟩
    rw [h1]
    simp [List.getD, List.getElem?_take, show i < len by simp at hi; omega]

theorem i32_and63 (n : Int) (h0 : 0 ≤ n) : bits .and .i32 n 63 = n % 64 := by
  have h127 : (BitVec.ofInt 32 63).toNat = 2 ^ 6 - 1 := by decide
  have key : (BitVec.ofInt 32 n &&& BitVec.ofInt 32 63).toNat = (n % ((2 ^ 32 : Nat) : Int)).toNat % 2 ^ 6 := by
    rw [BitVec.toNat_and, BitVec.toNat_ofInt, h127, Nat.and_two_pow_sub_one_eq_mod]
  show IntKind.i32.wrap ((BitVec.ofInt 32 n &&& BitVec.ofInt 32 63).toNat : Nat) = n % 64
  rw [key, IntKind.wrap_i32]
  omega
/-- 'c | x' where c is a multiple of 2^i, x below it: their sum. -/
theorem u8_join (c x : Int) (i : Nat) (hc : c.toNat % 2 ^ i = 0) (h0 : 0 ≤ c) (h1 : c < 256) (h2 : 0 ≤ x) (h3 : x < 256) (hx : x.toNat < 2 ^ i) : bits .or .u8 c x = c + x := by
  rw [u8_or c x h0 h1 h2 h3, nat_join i _ _ hc hx]
  omega

/-- The cells of a block that was just laid. -/
theorem new_cells (w : World) (C : List Value) (t : TypeId) : ∀ j u, C[j]? = some u → (w.alloc (.cells C.toArray t)).cell? ((⟨w.heap.size, 0, none⟩ : Addr).add j) = some u := by
  intro j u hj
  rw [Addr.add_lit, cell_of_row (w.alloc (.cells C.toArray t)) w.heap.size (0 + j) C.toArray t (0, 0) (heap_alloc_new w _)]
  simpa using hj

/-- 'append(out, a, b, ..)' onto a row of the call's own (or nil): the new elements lie in a block that was just laid. -/
theorem wpList_append_new {P : Program} (w0 : World) {ops : Array Oper} {rest : List Oper} {o : Oper} {a : Act} {Q : Exit → Act → World → Prop} (hgd : o.guard = none) (s x : Operand) (t : TypeId)
    (ho : o.op = .call { callee := .builtin .append, args := #[s, x], argTypes := #[t, t] })
    (base : Nat) (e : TypeId) (z : Value) (bytes : Nat) (ht : P.underlying t = some (.slice e)) (hinfo : (P.info? e).map (fun i => (i.zero, i.size, i.bytes)) = some (some z, 1, bytes)) (hzs : z.cells.size = 1)
    (v : Value) (n : Nat) (xs : List Value) (hs : a.eval s = v) (hown : w0.ownsRow base e 1 v n xs)
    (C : List Value) (m c : Nat) (hx : a.eval x = .slice (some ⟨w0.heap.size, 0, none⟩) m c) (hl : C.length = m) (h1 : ∀ u ∈ C, u.oneCell' = true)
    (hbytes : (n + m) * bytes ≤ 140737488355328) (hb0 : n + m ≤ 140737488355328) (hbase : base ≤ w0.heap.size)
    (h : ∀ v' w', w'.ownsRow base e 1 v' (n + m) (xs ++ C) → Below base w0 w' → wpList P ops Q rest (a.put o.dst v') w') :
    wpList P ops Q (o :: rest) a (w0.alloc (.cells C.toArray e)) := by
  obtain ⟨i0, hi, hz0, hz1, hz2⟩ := info_parts hinfo
  refine wpList_append_own _ hgd s x t ho base e i0 z 1 bytes ht hi hz0 hz1 hz2 hzs (by decide) v n xs hs (hown.alloc _) ⟨w0.heap.size, 0, none⟩ m c C hx (by omega) (new_cells w0 C e) h1 (by unfold maxLen; omega) hbytes (by simp; omega) ?_
  intro v' w' hown' hgrow _
  refine h v' w' hown' (((Below.refl base w0).alloc hbase _).grown hgrow (by simp; omega) fun k hk => ((hown.alloc (.cells C.toArray e)).lt k hk).1)
theorem oneCell_ints (k : IntKind) (C : List Int) : ∀ u ∈ C.map (Value.int k), u.oneCell' = true := ints_oneCell k C

/-- A block that was just laid holds its numbers. -/
theorem held_new (k : IntKind) (w : World) (C : List Value) (t : TypeId) (n cap : Nat) (xs : List Int) (hC : C = xs.map (Value.int k)) (hn : xs.length = n) : Held k (w.alloc (.cells C.toArray t)) (.slice (some ⟨w.heap.size, 0, none⟩) n cap) xs := by
  subst hC hn
  refine held_at (by simp) fun i hi => ?_
  have := new_cells w (xs.map (Value.int k)) t i (.int k (xs.getD i 0)) (by simp [List.getElem?_eq_getElem hi])
  rw [Addr.add_lit] at this
  exact this
/-- The text of a slice of bytes. -/
theorem held_text {P : Program} {w : World} {v : Value} {xs : List Int} (h : Held .u8 w v xs) (src e dst : TypeId) (hs : P.underlying src = some (.slice e)) (he : P.underlying e = some (.int .u8)) (hd : P.underlying dst = some .string) :
    (convert src dst v).run P w = .ok (.string (strOfNums xs)) w := by
  obtain ⟨ao, cap, rfl, hn, hc⟩ := h
  cases xs with
  | nil =>
    cases ao with
    | none => exact run_convert_bytes_nil w src e hs he 0 cap dst hd
    | some a =>
      have := run_bytesToString (P := P) w a 0 cap [] (by simp [loadCells, loadCellsFrom])
      rw [List.length_nil, run_convert_bytes_string w src dst e _ 0 cap hs he hd, this]
      rfl
  | cons x xs =>
    obtain ⟨b, off, rfl, _, _⟩ := hc 0 (by simp)
    refine run_convert_bytes_arg w src e hs he b off (x :: xs).length cap (x :: xs) rfl (fun i hi => ?_) dst hd
    obtain ⟨b', off', e1, _, h1⟩ := hc i hi
    cases e1
    exact h1
theorem undrew {B : Nat} {w w' : World} (h : Below B w.drew w') : Below B w w' := ⟨h.os, h.tape, h.output, h.size, h.block⟩

/-- 'append(out, u...)' onto a row of the call's own (or nil), u a slice that holds the numbers ys. -/
theorem wpList_append_held {P : Program} (w : World) {ops : Array Oper} {rest : List Oper} {o : Oper} {a : Act} {Q : Exit → Act → World → Prop} (hgd : o.guard = none) (s x : Operand) (t : TypeId)
    (ho : o.op = .call { callee := .builtin .append, args := #[s, x], argTypes := #[t, t] })
    (base : Nat) (e : TypeId) (z : Value) (bytes : Nat) (ht : P.underlying t = some (.slice e)) (hinfo : (P.info? e).map (fun i => (i.zero, i.size, i.bytes)) = some (some z, 1, bytes)) (hzs : z.cells.size = 1)
    (k : IntKind) (v : Value) (n : Nat) (xs : List Int) (hs : a.eval s = v) (hown : w.ownsRow base e 1 v n (xs.map (Value.int k)))
    (u : Value) (ys : List Int) (hx : a.eval x = u) (hu : Held k w u ys)
    (hbytes : (n + ys.length) * bytes ≤ 140737488355328) (hb0 : n + ys.length ≤ 140737488355328) (hbase : base ≤ w.heap.size)
    (h : ∀ v' w', w'.ownsRow base e 1 v' (n + ys.length) ((xs ++ ys).map (Value.int k)) → Below base w w' → wpList P ops Q rest (a.put o.dst v') w') :
    wpList P ops Q (o :: rest) a w := by
  obtain ⟨i0, hi, hz0, hz1, hz2⟩ := info_parts hinfo
  obtain ⟨ao, cap, rfl, hn, hc⟩ := hu
  cases ao with
  | none =>
    obtain ⟨rfl, rfl⟩ := hn rfl
    exact wpList_append_own_none hgd s x t ho base e i0 1 ht hi v n _ hs hown hx (h v w (by simpa using hown) (Below.refl _ _))
  | some ad =>
    refine wpList_append_own _ hgd s x t ho base e i0 z 1 bytes ht hi hz0 hz1 hz2 hzs (by decide) v n _ hs hown ad ys.length cap (ys.map (Value.int k)) hx (by simp) ?_ (ints_oneCell k ys) (by unfold maxLen; omega) hbytes hbase ?_
    · intro j y hj
      have hjl : j < ys.length := by
        rcases Nat.lt_or_ge j ys.length with h | h
        · exact h
        · simp [List.getElem?_eq_none (show (ys.map (Value.int k)).length ≤ j by simpa using h)] at hj
      obtain ⟨b, off, e1, _, h1⟩ := hc j hjl
      cases e1
      rw [Addr.add_lit, h1]
      simp [List.getElem?_eq_getElem hjl] at hj
      subst hj
      simp [List.getD, List.getElem?_eq_getElem hjl]
    · intro v' w' hown' hgrow _
      exact h v' w' (by simpa using hown') ((Below.refl base w).grown hgrow hbase fun j hj => (hown.lt j hj).1)
/-- What hands back a slice of bytes that it made. -/
def Made (k : IntKind) (w : World) (xs : List Int) (e : Ending) (w' : World) : Prop := ∃ v', e = .returned v' ∧ Held k w' v' xs ∧ Below w.heap.size w w'

/-- What answers a value and turns nothing that was there. -/
def Gives (w : World) (v : Value) (e : Ending) (w' : World) : Prop := e = .returned v ∧ Below w.heap.size w w'
theorem _root_.Go.RowKit.Below.drewN {B : Nat} {w w' : World} (h : Below B w w') (n : Nat) : Below B w (w'.drewN n) := ⟨h.os, h.tape, h.output, h.size, h.block⟩
/-- A contract 'w = w'' inside a region that reads alone. -/
theorem callq {P : Program} {f : FuncId} {args : Array Value} {w : World} {n : Nat} {v : Value}
    (h : Calls P f args (w.drewN n) fun e w' => e = .returned v ∧ w.drewN n = w') : Calls P f args (w.drewN n) fun e w'' => e = .returned v ∧ ∃ m, w'' = w.drewN m :=
  h.mono fun _ _ ⟨he, hm⟩ => ⟨he, n, hm.symm⟩
theorem held_newAt (k : IntKind) (w : World) (g : Nat) (C : List Value) (t : TypeId) (n cap : Nat) (xs : List Int) (hg : g = w.heap.size) (hC : C = xs.map (Value.int k)) (hn : xs.length = n) : Held k (w.alloc (.cells C.toArray t)) (.slice (some ⟨g, 0, none⟩) n cap) xs := by
  subst hg
  exact held_new k w C t n cap xs hC hn
theorem ofInt_i32 (a : Nat) (h : a < 4294967296) : (BitVec.ofInt 32 (a : Int)).toNat = a := by
  rw [BitVec.toNat_ofInt]
  omega
theorem i32_join (a x : Int) (h0 : 0 ≤ a) (h1 : a < 1073741824) (ha : a % 64 = 0) (x0 : 0 ≤ x) (x1 : x < 64) : bits .or .i32 a x = a + x := by
  obtain ⟨A, rfl⟩ := Int.eq_ofNat_of_zero_le h0
  obtain ⟨X, rfl⟩ := Int.eq_ofNat_of_zero_le x0
  show IntKind.i32.wrap ((BitVec.ofInt 32 (A : Int) ||| BitVec.ofInt 32 (X : Int)).toNat : Int) = _
  rw [BitVec.toNat_or, ofInt_i32 A (by omega), ofInt_i32 X (by omega), nat_join 6 A X (by omega) (by omega), IntKind.wrap_i32]
  omega
theorem u8_and63 (x : Int) (x0 : 0 ≤ x) (x1 : x ≤ 255) : bits .and .u8 x 63 = x % 64 := by
  rw [u8_and x 63 x0 (by omega) (by decide) (by decide)]
  have : x.toNat &&& (63 : Int).toNat = x.toNat % 2 ^ 6 := Nat.and_two_pow_sub_one_eq_mod x.toNat 6
  rw [this]
  omega
/-- A slice that does not lie below block B. -/
def Fresh (B : Nat) (v : Value) : Prop := ∀ a n c, v = .slice (some a) n c → B ≤ a.block
theorem Fresh.nil (B : Nat) (n c : Nat) : Fresh B (.slice none n c) := fun a _ _ h => by cases h
theorem Fresh.at_ (B g off n c : Nat) (h : B ≤ g) : Fresh B (.slice (some ⟨g, off, none⟩) n c) := fun a _ _ e => by cases e; exact h
theorem Fresh.mono {B B' : Nat} {v : Value} (h : Fresh B v) (hb : B' ≤ B) : Fresh B' v := fun a n c e => Nat.le_trans hb (h a n c e)
theorem Fresh.ofOwn {w : World} {B e size : Nat} {v : Value} {n : Nat} {xs : List Value} (h : w.ownsRow B e size v n xs) : Fresh B v := by
  rcases h.2 with ⟨rfl, _⟩ | ⟨g, cap, cur, rfl, hB, _⟩
  · exact Fresh.nil _ _ _
  · exact Fresh.at_ _ _ _ _ _ hB
def MadeNew (k : IntKind) (w : World) (xs : List Int) (e : Ending) (w' : World) : Prop := ∃ v', e = .returned v' ∧ Held k w' v' xs ∧ Below w.heap.size w w' ∧ Fresh w.heap.size v'
end Go.Proofs.YtomfclkldmmmgaaDoor
