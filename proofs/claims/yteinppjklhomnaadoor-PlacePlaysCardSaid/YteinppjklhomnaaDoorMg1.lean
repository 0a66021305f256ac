/- Texts put together: Aid, BordM, BoundC, ClonR, Frame, GraM, Grow, HgC, Lit, Mix, Obj, AppK, Elem, ElemA, IntC, Open, OpenB, FrameU, OpenM, PairsC, PairsJ, PairsR, Reg, RegC, RegI, RegX, RegJ, Row. -/
import Derived.Handy
import Derived.Laws.BytesArg
import Derived.Laws.AppendOwnNone
import Derived.Lib.Hide
import Derived.Deep.QuietTactic
import Derived.BigQuiet
import Derived.OpenShut
import Derived.Deep.RegionWith
import Derived.WalkSpells
import Derived.Test.YteinppjklhomnaaDoorProg
import Derived.Lib.LazyBuf
import Derived.Carry
import Derived.LaidMore
import Derived.LaidHandle
import Derived.Stop.Joined
import Derived.StillTail
import Derived.Below
import Derived.Laws.Tables
import Derived.Laws.Rows
import Derived.Deep.WholeRow
import Derived.Laws.AppendOwn
import Derived.OneCell
import Derived.Laws.OwnMore
import Derived.Deep.Slices
import Derived.Deep.Strs
import Derived.Test.YteinppjklhomnaaDoorRows
import Derived.JoinedCond
import Derived.OwnWalkIn
import Derived.OrdersIn
import Derived.RangeFuncCalls
import Derived.Deep.MidRow
/- Small lemmas of no program: a slice value that holds a list of numbers, and what keeps it; bits; results. -/
namespace Go.Proofs.YteinppjklhomnaaDoor
open Go.RowKit Go.ChangeShapes Go.WideShapes

theorem ret_eq {a b : Value} (h : a = b) : Ending.returned a = .returned b := by rw [h]

/-- In the world w the slice value v holds the numbers xs (of kind k). -/
def Held (k : IntKind) (w : World) (v : Value) (xs : List Int) : Prop :=
  ∃ ao cap, v = .slice ao xs.length cap ∧ (ao = none → xs = [] ∧ cap = 0) ∧ ∀ i, i < xs.length → ∃ b off, ao = some ⟨b, off, none⟩ ∧ b < w.heap.size ∧ w.cell? ⟨b, off + i, none⟩ = some (.int k (xs.getD i 0))

theorem Held.nil (k : IntKind) (w : World) : Held k w (.slice none 0 0) [] := ⟨none, 0, rfl, fun _ => ⟨rfl, rfl⟩, fun i hi => by simp at hi⟩
theorem held_at {k : IntKind} {w : World} {b off cap : Nat} {xs : List Int} (hlt : b < w.heap.size) (hc : ∀ i, i < xs.length → w.cell? ⟨b, off + i, none⟩ = some (.int k (xs.getD i 0))) : Held k w (.slice (some ⟨b, off, none⟩) xs.length cap) xs :=
  ⟨_, cap, rfl, (fun h => by cases h), fun i hi => ⟨b, off, rfl, hlt, hc i hi⟩⟩
theorem Held.below {k : IntKind} {w w' : World} {v : Value} {xs : List Int} (h : Held k w v xs) (hb : Below w.heap.size w w') : Held k w' v xs := by
  obtain ⟨ao, cap, rfl, hn, hc⟩ := h
  refine ⟨ao, cap, rfl, hn, fun i hi => ?_⟩
  obtain ⟨b, off, rfl, hlt, hcell⟩ := hc i hi
  exact ⟨b, off, rfl, by have := hb.size; omega, (hb.cell (p := ⟨b, off + i, none⟩) hlt).trans hcell⟩
theorem Held.len {k : IntKind} {w : World} {v : Value} {xs : List Int} (h : Held k w v xs) : ∃ ao cap, v = .slice ao xs.length cap := by
  obtain ⟨ao, cap, rfl, _⟩ := h
  exact ⟨ao, cap, rfl⟩
/-- What a walk asks of a slice that it goes through: its shape, and, where there is an element, where it lies. -/
theorem Held.view {k : IntKind} {w : World} {v : Value} {xs : List Int} (h : Held k w v xs) :
    ∃ ao cap, v = .slice ao xs.length cap ∧ ∀ i, i < xs.length → ∃ b off, ao = some ⟨b, off, none⟩ ∧ b < w.heap.size ∧ w.cell? ⟨b, off + i, none⟩ = some (.int k (xs.getD i 0)) := by
  obtain ⟨ao, cap, rfl, _, hc⟩ := h
  exact ⟨ao, cap, rfl, hc⟩
theorem Held.spots {k : IntKind} {w : World} {ao : Option Addr} {n cap : Nat} {xs : List Int} (h : Held k w (.slice ao n cap) xs) :
    ∀ i, i < xs.length → ∃ b off, ao = some ⟨b, off, none⟩ ∧ b < w.heap.size ∧ w.cell? ⟨b, off + i, none⟩ = some (.int k (xs.getD i 0)) := by
  obtain ⟨ao', cap', he, _, hc⟩ := h
  cases he
  exact hc
/-- What the call owns it holds. -/
theorem held_of_owns {k : IntKind} {w : World} {B e : Nat} {v : Value} {n : Nat} {xs : List Int} (h : w.ownsRow B e 1 v n (xs.map (Value.int k))) : Held k w v xs := by
  have hl : xs.length = n := by have := h.1; simpa using this
  subst hl
  rcases h.2 with ⟨rfl, hn⟩ | ⟨g, cap, cur, rfl, hb, hg, h1, h2, h3, h4⟩
  · have : xs = [] := List.eq_nil_of_length_eq_zero hn
    subst this
    exact Held.nil k w
  · refine held_at (Array.getElem?_eq_some_iff.1 hg).1 fun i hi => ?_
    have := h.cells (g := g) rfl i (.int k (xs.getD i 0)) (by simp [List.getElem?_eq_getElem hi])
    rw [Addr.add_lit] at this
    simpa using this
theorem ownsRow_below {w w' : World} {B e size : Nat} {v : Value} {n : Nat} {xs : List Value} (h : w.ownsRow B e size v n xs) (hb : Below w.heap.size w w') : w'.ownsRow B e size v n xs := by
  refine ⟨h.1, ?_⟩
  rcases h.2 with hn | ⟨g, cap, cur, rfl, hB, hg, rest⟩
  · exact .inl hn
  · exact .inr ⟨g, cap, cur, rfl, hB, (hb.block g (Array.getElem?_eq_some_iff.1 hg).1).trans hg, rest⟩
/-- An argument that is a slice of integers. -/
theorem held_arg {H : Type} {enc : TypeId × Value → H} {P : Program} {w : World} {base : Nat} {t e : TypeId} {k : IntKind} {v : Value} {d : DataW H} {p : List MemPlace} (ht : P.underlying t = some (.slice e)) (he : P.underlying e = some (.int k)) (hc : P.cellsOf e = 1)
    (hv : Value.okWide P w .any base t v) (h : DataW.Trod enc P w 0 (fun _ => true) true t v d p) : ∃ xs, Held k w v xs ∧ ∀ n ∈ xs, (Lit.int k n).wf = true := by
  obtain ⟨a0, len, cap, rfl⟩ := okWide_slice ht hv
  obtain ⟨fuel, hf⟩ := h
  rcases open_ints ht he hc hf with ⟨hcs, _⟩ | ⟨a, len', cap', zs, hcs, _, hl, hm, hz, hx, hcell, hwz⟩
  · simp [Value.cells] at hcs
    obtain ⟨rfl, rfl, rfl⟩ := hcs
    exact ⟨[], Held.nil k w, fun n hn => by simp at hn⟩
  · simp [Value.cells] at hcs
    obtain ⟨rfl, rfl, rfl⟩ := hcs
    simp at hz
    have hlen : (zs.take len).length = len := by simp; omega
    refine ⟨zs.take len, ⟨some a, cap, by rw [hlen], (fun h => by cases h), fun i hi => ?_⟩, fun n hn => hwz n (List.mem_of_mem_take hn)⟩
    have hi' : i < zs.length := by simp at hi; omega
    have h1 := hcell i hi'
    have hadd : ∃ b off, a = ⟨b, off, none⟩ := by
      obtain ⟨b, off, rfl, _⟩ := ints_at hcell (by omega)
      exact ⟨b, off, rfl⟩
    obtain ⟨b, off, rfl⟩ := hadd
    rw [Addr.add_lit] at h1
    refine ⟨b, off, rfl, World.block_lt_of_cell? w ⟨b, off + i, none⟩ h1, ?_⟩
    rw [h1]
    simp [List.getD, List.getElem?_take, show i < len by simp at hi; omega]

theorem i32_and63 (n : Int) (h0 : 0 ≤ n) : bits .and .i32 n 63 = n % 64 := by
  have h127 : (BitVec.ofInt 32 63).toNat = 2 ^ 6 - 1 := by decide
  have key : (BitVec.ofInt 32 n &&& BitVec.ofInt 32 63).toNat = (n % ((2 ^ 32 : Nat) : Int)).toNat % 2 ^ 6 := by
    rw [BitVec.toNat_and, BitVec.toNat_ofInt, h127, Nat.and_two_pow_sub_one_eq_mod]
  show IntKind.i32.wrap ((BitVec.ofInt 32 n &&& BitVec.ofInt 32 63).toNat : Nat) = n % 64
  rw [key, IntKind.wrap_i32]
  omega
/-- 'c | x' where c is a multiple of 2^i, x below it: their sum. -/
theorem u8_join (c x : Int) (i : Nat) (hc : c.toNat % 2 ^ i = 0) (h0 : 0 ≤ c) (h1 : c < 256) (h2 : 0 ≤ x) (h3 : x < 256) (hx : x.toNat < 2 ^ i) : bits .or .u8 c x = c + x := by
  rw [u8_or c x h0 h1 h2 h3, nat_join i _ _ hc hx]
  omega

/-- The cells of a block that was just laid. -/
theorem new_cells (w : World) (C : List Value) (t : TypeId) : ∀ j u, C[j]? = some u → (w.alloc (.cells C.toArray t)).cell? ((⟨w.heap.size, 0, none⟩ : Addr).add j) = some u := by
  intro j u hj
  rw [Addr.add_lit, cell_of_row (w.alloc (.cells C.toArray t)) w.heap.size (0 + j) C.toArray t (0, 0) (heap_alloc_new w _)]
  simpa using hj

/-- 'append(out, a, b, ..)' onto a row of the call's own (or nil): the new elements lie in a block that was just laid. -/
theorem wpList_append_new {P : Program} (w0 : World) {ops : Array Oper} {rest : List Oper} {o : Oper} {a : Act} {Q : Exit → Act → World → Prop} (hgd : o.guard = none) (s x : Operand) (t : TypeId)
    (ho : o.op = .call { callee := .builtin .append, args := #[s, x], argTypes := #[t, t] })
    (base : Nat) (e : TypeId) (z : Value) (bytes : Nat) (ht : P.underlying t = some (.slice e)) (hinfo : (P.info? e).map (fun i => (i.zero, i.size, i.bytes)) = some (some z, 1, bytes)) (hzs : z.cells.size = 1)
    (v : Value) (n : Nat) (xs : List Value) (hs : a.eval s = v) (hown : w0.ownsRow base e 1 v n xs)
    (C : List Value) (m c : Nat) (hx : a.eval x = .slice (some ⟨w0.heap.size, 0, none⟩) m c) (hl : C.length = m) (h1 : ∀ u ∈ C, u.oneCell' = true)
    (hbytes : (n + m) * bytes ≤ 140737488355328) (hb0 : n + m ≤ 140737488355328) (hbase : base ≤ w0.heap.size)
    (h : ∀ v' w', w'.ownsRow base e 1 v' (n + m) (xs ++ C) → Below base w0 w' → wpList P ops Q rest (a.put o.dst v') w') :
    wpList P ops Q (o :: rest) a (w0.alloc (.cells C.toArray e)) := by
  obtain ⟨i0, hi, hz0, hz1, hz2⟩ := info_parts hinfo
  refine wpList_append_own _ hgd s x t ho base e i0 z 1 bytes ht hi hz0 hz1 hz2 hzs (by decide) v n xs hs (hown.alloc _) ⟨w0.heap.size, 0, none⟩ m c C hx (by omega) (new_cells w0 C e) h1 (by unfold maxLen; omega) hbytes (by simp; omega) ?_
  intro v' w' hown' hgrow _
  refine h v' w' hown' (((Below.refl base w0).alloc hbase _).grown hgrow (by simp; omega) fun k hk => ((hown.alloc (.cells C.toArray e)).lt k hk).1)
theorem oneCell_ints (k : IntKind) (C : List Int) : ∀ u ∈ C.map (Value.int k), u.oneCell' = true := ints_oneCell k C

/-- A block that was just laid holds its numbers. -/
theorem held_new (k : IntKind) (w : World) (C : List Value) (t : TypeId) (n cap : Nat) (xs : List Int) (hC : C = xs.map (Value.int k)) (hn : xs.length = n) : Held k (w.alloc (.cells C.toArray t)) (.slice (some ⟨w.heap.size, 0, none⟩) n cap) xs := by
  subst hC hn
  refine held_at (by simp) fun i hi => ?_
  have := new_cells w (xs.map (Value.int k)) t i (.int k (xs.getD i 0)) (by simp [List.getElem?_eq_getElem hi])
  rw [Addr.add_lit] at this
  exact this
/-- The text of a slice of bytes. -/
theorem held_text {P : Program} {w : World} {v : Value} {xs : List Int} (h : Held .u8 w v xs) (src e dst : TypeId) (hs : P.underlying src = some (.slice e)) (he : P.underlying e = some (.int .u8)) (hd : P.underlying dst = some .string) :
    (convert src dst v).run P w = .ok (.string (strOfNums xs)) w := by
  obtain ⟨ao, cap, rfl, hn, hc⟩ := h
  cases xs with
  | nil =>
    cases ao with
    | none => exact run_convert_bytes_nil w src e hs he 0 cap dst hd
    | some a =>
      have := run_bytesToString (P := P) w a 0 cap [] (by simp [loadCells, loadCellsFrom])
      rw [List.length_nil, run_convert_bytes_string w src dst e _ 0 cap hs he hd, this]
      rfl
  | cons x xs =>
    obtain ⟨b, off, rfl, _, _⟩ := hc 0 (by simp)
    refine run_convert_bytes_arg w src e hs he b off (x :: xs).length cap (x :: xs) rfl (fun i hi => ?_) dst hd
    obtain ⟨b', off', e1, _, h1⟩ := hc i hi
    cases e1
    exact h1
theorem undrew {B : Nat} {w w' : World} (h : Below B w.drew w') : Below B w w' := ⟨h.os, h.tape, h.output, h.size, h.block⟩

/-- 'append(out, u...)' onto a row of the call's own (or nil), u a slice that holds the numbers ys. -/
theorem wpList_append_held {P : Program} (w : World) {ops : Array Oper} {rest : List Oper} {o : Oper} {a : Act} {Q : Exit → Act → World → Prop} (hgd : o.guard = none) (s x : Operand) (t : TypeId)
    (ho : o.op = .call { callee := .builtin .append, args := #[s, x], argTypes := #[t, t] })
    (base : Nat) (e : TypeId) (z : Value) (bytes : Nat) (ht : P.underlying t = some (.slice e)) (hinfo : (P.info? e).map (fun i => (i.zero, i.size, i.bytes)) = some (some z, 1, bytes)) (hzs : z.cells.size = 1)
    (k : IntKind) (v : Value) (n : Nat) (xs : List Int) (hs : a.eval s = v) (hown : w.ownsRow base e 1 v n (xs.map (Value.int k)))
    (u : Value) (ys : List Int) (hx : a.eval x = u) (hu : Held k w u ys)
    (hbytes : (n + ys.length) * bytes ≤ 140737488355328) (hb0 : n + ys.length ≤ 140737488355328) (hbase : base ≤ w.heap.size)
    (h : ∀ v' w', w'.ownsRow base e 1 v' (n + ys.length) ((xs ++ ys).map (Value.int k)) → Below base w w' → wpList P ops Q rest (a.put o.dst v') w') :
    wpList P ops Q (o :: rest) a w := by
  obtain ⟨i0, hi, hz0, hz1, hz2⟩ := info_parts hinfo
  obtain ⟨ao, cap, rfl, hn, hc⟩ := hu
  cases ao with
  | none =>
    obtain ⟨rfl, rfl⟩ := hn rfl
    exact wpList_append_own_none hgd s x t ho base e i0 1 ht hi v n _ hs hown hx (h v w (by simpa using hown) (Below.refl _ _))
  | some ad =>
    refine wpList_append_own _ hgd s x t ho base e i0 z 1 bytes ht hi hz0 hz1 hz2 hzs (by decide) v n _ hs hown ad ys.length cap (ys.map (Value.int k)) hx (by simp) ?_ (ints_oneCell k ys) (by unfold maxLen; omega) hbytes hbase ?_
    · intro j y hj
      have hjl : j < ys.length := by
        rcases Nat.lt_or_ge j ys.length with h | h
        · exact h
        · simp [List.getElem?_eq_none (show (ys.map (Value.int k)).length ≤ j by simpa using h)] at hj
      obtain ⟨b, off, e1, _, h1⟩ := hc j hjl
      cases e1
      rw [Addr.add_lit, h1]
      simp [List.getElem?_eq_getElem hjl] at hj
      subst hj
      simp [List.getD, List.getElem?_eq_getElem hjl]
    · intro v' w' hown' hgrow _
      exact h v' w' (by simpa using hown') ((Below.refl base w).grown hgrow hbase fun j hj => (hown.lt j hj).1)
/-- What hands back a slice of bytes that it made. -/
def Made (k : IntKind) (w : World) (xs : List Int) (e : Ending) (w' : World) : Prop := ∃ v', e = .returned v' ∧ Held k w' v' xs ∧ Below w.heap.size w w'

/-- What answers a value and turns nothing that was there. -/
def Gives (w : World) (v : Value) (e : Ending) (w' : World) : Prop := e = .returned v ∧ Below w.heap.size w w'
theorem _root_.Go.RowKit.Below.drewN {B : Nat} {w w' : World} (h : Below B w w') (n : Nat) : Below B w (w'.drewN n) := ⟨h.os, h.tape, h.output, h.size, h.block⟩
/-- A contract 'w = w'' inside a region that reads alone. -/
theorem callq {P : Program} {f : FuncId} {args : Array Value} {w : World} {n : Nat} {v : Value}
    (h : Calls P f args (w.drewN n) fun e w' => e = .returned v ∧ w.drewN n = w') : Calls P f args (w.drewN n) fun e w'' => e = .returned v ∧ ∃ m, w'' = w.drewN m :=
  h.mono fun _ _ ⟨he, hm⟩ => ⟨he, n, hm.symm⟩
theorem held_newAt (k : IntKind) (w : World) (g : Nat) (C : List Value) (t : TypeId) (n cap : Nat) (xs : List Int) (hg : g = w.heap.size) (hC : C = xs.map (Value.int k)) (hn : xs.length = n) : Held k (w.alloc (.cells C.toArray t)) (.slice (some ⟨g, 0, none⟩) n cap) xs := by
  subst hg
  exact held_new k w C t n cap xs hC hn
theorem ofInt_i32 (a : Nat) (h : a < 4294967296) : (BitVec.ofInt 32 (a : Int)).toNat = a := by
  rw [BitVec.toNat_ofInt]
  omega
theorem i32_join (a x : Int) (h0 : 0 ≤ a) (h1 : a < 1073741824) (ha : a % 64 = 0) (x0 : 0 ≤ x) (x1 : x < 64) : bits .or .i32 a x = a + x := by
  obtain ⟨A, rfl⟩ := Int.eq_ofNat_of_zero_le h0
  obtain ⟨X, rfl⟩ := Int.eq_ofNat_of_zero_le x0
  show IntKind.i32.wrap ((BitVec.ofInt 32 (A : Int) ||| BitVec.ofInt 32 (X : Int)).toNat : Int) = _
  rw [BitVec.toNat_or, ofInt_i32 A (by omega), ofInt_i32 X (by omega), nat_join 6 A X (by omega) (by omega), IntKind.wrap_i32]
  omega
theorem u8_and63 (x : Int) (x0 : 0 ≤ x) (x1 : x ≤ 255) : bits .and .u8 x 63 = x % 64 := by
  rw [u8_and x 63 x0 (by omega) (by decide) (by decide)]
  have : x.toNat &&& (63 : Int).toNat = x.toNat % 2 ^ 6 := Nat.and_two_pow_sub_one_eq_mod x.toNat 6
  rw [this]
  omega
/-- A slice that does not lie below block B. -/
def Fresh (B : Nat) (v : Value) : Prop := ∀ a n c, v = .slice (some a) n c → B ≤ a.block
theorem Fresh.nil (B : Nat) (n c : Nat) : Fresh B (.slice none n c) := fun a _ _ h => by cases h
theorem Fresh.at_ (B g off n c : Nat) (h : B ≤ g) : Fresh B (.slice (some ⟨g, off, none⟩) n c) := fun a _ _ e => by cases e; exact h
theorem Fresh.mono {B B' : Nat} {v : Value} (h : Fresh B v) (hb : B' ≤ B) : Fresh B' v := fun a n c e => Nat.le_trans hb (h a n c e)
theorem Fresh.ofOwn {w : World} {B e size : Nat} {v : Value} {n : Nat} {xs : List Value} (h : w.ownsRow B e size v n xs) : Fresh B v := by
  rcases h.2 with ⟨rfl, _⟩ | ⟨g, cap, cur, rfl, hB, _⟩
  · exact Fresh.nil _ _ _
  · exact Fresh.at_ _ _ _ _ _ hB
def MadeNew (k : IntKind) (w : World) (xs : List Int) (e : Ending) (w' : World) : Prop := ∃ v', e = .returned v' ∧ Held k w' v' xs ∧ Below w.heap.size w w' ∧ Fresh w.heap.size v'
end Go.Proofs.YteinppjklhomnaaDoor
/- Borders of a row, by numbers alone: the next one, the one ahead, the one at a place or ahead of it. Of no program. -/
namespace Go.Proofs.YteinppjklhomnaaDoor
/-- Looking up from 0 to n: the first that is asked for and a border; n if there is none (d places are left). -/
def upB (B p : Nat → Bool) (n : Nat) : Nat → Nat
  | 0 => n
  | d + 1 => if p (n - (d + 1) + 1 - 1) && B (n - (d + 1) + 1 - 1) then n - (d + 1) + 1 - 1 else upB B p n d
/-- Looking down from k: the first that is asked for and a border; 0 if there is none. -/
def downB (B p : Nat → Bool) : Nat → Nat
  | 0 => 0
  | k + 1 => if p (k + 1) && B (k + 1) then k + 1 else downB B p k
theorem up_unique (B p : Nat → Bool) (n r : Nat) (hr : r ≤ n) (h1 : ∀ k, k < r → B k = true → p k = false) (h2 : r = n ∨ (p r = true ∧ B r = true)) : ∀ d, n - d ≤ r → d ≤ n → upB B p n d = r := by
  intro d
  induction d with
  | zero => intro h _; show n = r; omega
  | succ d ih =>
    intro h hd
    unfold upB
    rw [show n - (d + 1) + 1 - 1 = n - (d + 1) by omega]
    by_cases e : n - (d + 1) = r
    · rw [e]
      rcases h2 with h2 | ⟨h2, h3⟩
      · omega
      · rw [h2, h3]; rfl
    · have hb : (p (n - (d + 1)) && B (n - (d + 1))) = false := by
        cases hB : B (n - (d + 1)) with
        | false => simp
        | true => rw [h1 _ (by omega) hB]; rfl
      rw [hb, if_neg (by decide)]
      exact ih (by omega) (by omega)
theorem down_unique (B p : Nat → Bool) (r : Nat) (h2 : r = 0 ∨ (p r = true ∧ B r = true)) : ∀ n, r ≤ n → (∀ k, r < k → k ≤ n → B k = true → p k = false) → downB B p n = r := by
  intro n
  induction n with
  | zero => intro h _; show 0 = r; omega
  | succ n ih =>
    intro h h1
    unfold downB
    by_cases e : n + 1 = r
    · rw [e]
      rcases h2 with h2 | ⟨h2, h3⟩
      · omega
      · rw [h2, h3]; rfl
    · have hb : (p (n + 1) && B (n + 1)) = false := by
        cases hB : B (n + 1) with
        | false => simp
        | true => rw [h1 _ (by omega) (Nat.le_refl _) hB]; rfl
      rw [hb, if_neg (by decide)]
      exact ih (by omega) (fun k hk hkn => h1 k hk (by omega))
/-- The list of all borders. -/
def allB (B : Nat → Bool) (n : Nat) : List Nat := (List.range (n + 1)).filter B
theorem allB_mem {B : Nat → Bool} {n k : Nat} : k ∈ allB B n ↔ k ≤ n ∧ B k = true := by
  simp [allB, List.mem_filter, List.mem_range]; omega
theorem allB_lt {B : Nat → Bool} {n : Nat} : ∀ i j (hi : i < j) (hj : j < (allB B n).length), (allB B n)[i]'(by omega) < (allB B n)[j] := by
  have h : (allB B n).Pairwise (· < ·) := List.Pairwise.filter _ List.pairwise_lt_range
  intro i j hi hj
  exact List.pairwise_iff_getElem.1 h i j (by omega) hj hi
theorem allB_pos {B : Nat → Bool} {n : Nat} (hn : B n = true) : 0 < (allB B n).length := List.length_pos_of_mem (allB_mem.2 ⟨Nat.le_refl _, hn⟩)
theorem allB_last {B : Nat → Bool} {n : Nat} (hn : B n = true) : (allB B n)[(allB B n).length - 1]'(by have := allB_pos hn; omega) = n := by
  obtain ⟨i, hi, e⟩ := List.getElem_of_mem (allB_mem.2 ⟨Nat.le_refl n, hn⟩)
  have hm := allB_mem.1 (List.getElem_mem (l := allB B n) (n := (allB B n).length - 1) (by omega))
  by_cases h : i = (allB B n).length - 1
  · subst h; exact e
  · have := allB_lt (B := B) (n := n) i ((allB B n).length - 1) (by omega) (by omega)
    omega
/-- The one that a search finds, or the last one: what looking up finds. -/
theorem search_up {B p : Nat → Bool} {n : Nat} (hn : B n = true) (i : Nat) (hi : i ≤ (allB B n).length) (hlo : ∀ j (h : j < (allB B n).length), j < i → p ((allB B n)[j]) = false) (hhi : ∀ j (h : j < (allB B n).length), i ≤ j → p ((allB B n)[j]) = true) :
    upB B p n n = (allB B n)[min i ((allB B n).length - 1)]'(by have := allB_pos hn; omega) := by
  have hp := allB_pos hn
  have hm := fun m (h : m < (allB B n).length) => allB_mem.1 (List.getElem_mem (l := allB B n) (n := m) h)
  refine up_unique B p n _ (hm _ (by omega)).1 ?_ ?_ n (by omega) (Nat.le_refl _)
  · intro k hk hB
    obtain ⟨m, hml, rfl⟩ := List.getElem_of_mem (allB_mem.2 ⟨show k ≤ n by have := (hm _ (show min i ((allB B n).length - 1) < (allB B n).length by omega)).1; omega, hB⟩)
    by_cases hmi : m < i
    · exact hlo m hml hmi
    · by_cases hmm : m = min i ((allB B n).length - 1)
      · subst hmm; omega
      · have := allB_lt (B := B) (n := n) (min i ((allB B n).length - 1)) m (by omega) hml
        omega
  · by_cases h : i < (allB B n).length
    · right
      have e : min i ((allB B n).length - 1) = i := by omega
      simp only [e]
      exact ⟨hhi i h (Nat.le_refl _), (hm i h).2⟩
    · left
      have e : min i ((allB B n).length - 1) = (allB B n).length - 1 := by omega
      simp only [e]
      exact allB_last hn
/-- The one ahead of what a search finds, or 0: what looking down finds. -/
theorem search_down {B p : Nat → Bool} {n : Nat} (i : Nat) (hi : i ≤ (allB B n).length) (hlo : ∀ j (h : j < (allB B n).length), j < i → p ((allB B n)[j]) = true) (hhi : ∀ j (h : j < (allB B n).length), i ≤ j → p ((allB B n)[j]) = false) :
    (∀ h : 0 < i, downB B p n = (allB B n)[i - 1]'(by omega)) ∧ (i = 0 → downB B p n = 0) := by
  have hm := fun m (h : m < (allB B n).length) => allB_mem.1 (List.getElem_mem (l := allB B n) (n := m) h)
  refine ⟨fun h0 => ?_, fun h0 => ?_⟩
  · refine down_unique B p _ (.inr ⟨hlo _ (by omega) (by omega), (hm _ (by omega)).2⟩) n (hm _ (by omega)).1 ?_
    intro k hk hkn hB
    obtain ⟨m, hml, rfl⟩ := List.getElem_of_mem (allB_mem.2 ⟨hkn, hB⟩)
    by_cases hmi : m < i
    · by_cases e : m = i - 1
      · subst e; omega
      · have := allB_lt (B := B) (n := n) m (i - 1) (by omega) (by omega)
        omega
    · exact hhi m hml (by omega)
  · refine down_unique B p 0 (.inl rfl) n (Nat.zero_le _) ?_
    intro k hk hkn hB
    obtain ⟨m, hml, rfl⟩ := List.getElem_of_mem (allB_mem.2 ⟨hkn, hB⟩)
    exact hhi m hml (by omega)
def startB (j : Nat → Bool) (n : Nat) : List Nat := (List.range n).filter fun k => !j k
def isB (j : Nat → Bool) (n : Nat) (k : Nat) : Bool := k == n || (decide (k < n) && !j k)
theorem isB_last (j : Nat → Bool) (n : Nat) : isB j n n = true := by simp [isB]
theorem allB_starts (j : Nat → Bool) (n : Nat) : allB (isB j n) n = startB j n ++ [n] := by
  unfold allB startB
  rw [List.range_succ, List.filter_append]
  congr 1
  · apply List.filter_congr
    intro k hk
    have := List.mem_range.1 hk
    unfold isB
    rw [decide_eq_true this, show (k == n) = false by simp; omega]
    simp
  · simp [isB]
theorem startB_succ (j : Nat → Bool) (k : Nat) : startB j (k + 1) = startB j k ++ (if j k = true then [] else [k]) := by
  unfold startB
  rw [List.range_succ, List.filter_append]
  congr 1
  cases h : j k <;> simp [h]
theorem startB_mem {j : Nat → Bool} {n k : Nat} : k ∈ startB j n ↔ k < n ∧ j k = false := by simp [startB]
theorem startB_len (j : Nat → Bool) (n : Nat) : (startB j n).length ≤ n := by
  have := List.length_filter_le (fun k => !j k) (List.range n)
  simpa [startB] using this
end Go.Proofs.YteinppjklhomnaaDoor
/- Contracts of bound's functions, of the reference's Side. -/
namespace Go.Proofs.YteinppjklhomnaaDoor
open Go.RowKit Go.ChangeShapes Go.WideShapes
def sideI (n : Int) : Int := if n < 1 then 1 else if 1024 < n then 1024 else n
theorem sideI_cases (n : Int) : (n < 1 ∧ sideI n = 1) ∨ (1 ≤ n ∧ n ≤ 1024 ∧ sideI n = n) ∨ (1024 < n ∧ sideI n = 1024) := by unfold sideI; omega
theorem sideI_bd (n : Int) : 1 ≤ sideI n ∧ sideI n ≤ 1024 := by unfold sideI; omega
def heldI (n : Int) : Int := if n < 0 then 0 else if 1073741824 < n then 1073741824 else n
theorem heldI_cases (n : Int) : (n < 0 ∧ heldI n = 0) ∨ (0 ≤ n ∧ n ≤ 1073741824 ∧ heldI n = n) ∨ (1073741824 < n ∧ heldI n = 1073741824) := by unfold heldI; omega
theorem heldI_bd (n : Int) : 0 ≤ heldI n ∧ heldI n ≤ 1073741824 := by unfold heldI; omega
theorem refside_any (n : Int) (w : World) : Calls Tryd.prog 80 #[.int .i64 n] w fun e w' => e = .returned (.int .i64 (sideI n)) ∧ w = w' := by
  rcases sideI_cases n with ⟨h2, hs⟩ | ⟨h2, h3, hs⟩ | ⟨h2, hs⟩
  all_goals
    rw [hs]; clear hs
    go_enter Tryd.func80, Tryd.ntmps80
    go_wp2
    go_ret
    exact ⟨(ret_eq (by first | rfl | (simp <;> omega))), rfl⟩
theorem mul_bd (a b m n : Int) (h0 : 0 ≤ a) (h1 : a ≤ m) (k0 : 0 ≤ b) (k1 : b ≤ n) : 0 ≤ a * b ∧ a * b ≤ m * n := by
  refine ⟨Int.mul_nonneg h0 k0, ?_⟩
  exact Int.mul_le_mul h1 k1 k0 (by omega)
theorem wrap_id (x : Int) (h0 : -9223372036854775808 ≤ x) (h1 : x ≤ 9223372036854775807) : wrap64 x = x := by unfold wrap64; omega
def rowsI (n w : Int) : Int := if heldI n = 0 then 1 else if sideI w = 1 then heldI n else (2 * heldI n + sideI w - 2) / (sideI w - 1)
end Go.Proofs.YteinppjklhomnaaDoor
/- slices.Clone of scalar values. -/
namespace Go.Proofs.YteinppjklhomnaaDoor
open Go.RowKit Go.ChangeShapes Go.WideShapes
theorem heldAlloc {k : IntKind} {w : World} {v : Value} {xs : List Int} (h : Held k w v xs) (o : Obj) : Held k (w.alloc o) v xs := h.below ((Below.refl _ _).alloc (Nat.le_refl _) _)
theorem own_newK (w : World) (t : TypeId) (k : IntKind) (B : Nat) (hB : B ≤ w.heap.size) : (w.alloc (.cells #[] t)).ownsRow B t 1 (.slice (some ⟨w.heap.size, 0, none⟩) 0 0) 0 (([] : List Int).map (Value.int k)) :=
  ⟨rfl, .inr ⟨w.heap.size, 0, #[], rfl, hB, heap_alloc_new w _, Nat.le_refl _, by unfold maxLen; omega, rfl, rfl⟩⟩
theorem Tryd.info_r : (Tryd.prog.info? 21).map (fun i => (i.zero, i.size, i.bytes)) = some (some (.int .i32 0), 1, 4) := by kernel_rfl
/-- What hands back a slice of its own that holds these. -/
def Cloned (t : TypeId) (k : IntKind) (w : World) (xs : List Int) (e : Ending) (w' : World) : Prop := ∃ v', e = .returned v' ∧ w'.ownsRow w.heap.size t 1 v' xs.length (xs.map (Value.int k)) ∧ Below w.heap.size w w'
set_option maxRecDepth 100000 in
theorem rclone_any (v : Value) (xs : List Int) (w : World) (hv : Held .i32 w v xs) (hl : xs.length ≤ 1000000000) : Calls Tryd.prog 101 #[v] w (Cloned 21 .i32 w xs) := by
  obtain ⟨ao, cap, rfl, hn, _⟩ := id hv
  cases ao with
  | none =>
    obtain ⟨rfl, rfl⟩ := hn rfl
    clear hv hn
    have q := fun w => run_eql_slice_nil (P := Tryd.prog) w 33 21 none 0 0 Tryd.underlying33
    go_enter Tryd.func101, Tryd.ntmps101
    go_wp2
    go_ret
    exact ⟨_, rfl, World.ownsRow_nil _ _ _ _, Below.refl _ _⟩
  | some a =>
    have hv' := heldAlloc hv (.cells #[] 21)
    clear hv hn
    have q := fun w => run_eql_slice_nil (P := Tryd.prog) w 33 21 (some a) xs.length cap Tryd.underlying33
    go_enter Tryd.func101, Tryd.ntmps101
    go_wp2_with (at_builtin; refine wpList_append_held (w.alloc (.cells #[] 21)) rfl (.tmp 5) (.tmp 6) 33 rfl w.heap.size 21 (.int .i32 0) 4 Tryd.underlying33 Tryd.info_r rfl .i32 _ 0 [] rfl (own_newK w 21 .i32 _ (Nat.le_refl _)) _ xs rfl hv' (by omega) (by omega) (by simp) ?_)
    intro v5 w5 ho5 hb5
    have ho6 : w5.ownsRow w.heap.size 21 1 v5 xs.length (xs.map (Value.int .i32)) := by simpa using ho5
    clear ho5
    go_wp2
    go_ret
    exact ⟨_, rfl, ho6, ((Below.refl _ _).alloc (Nat.le_refl _) _).trans hb5⟩
end Go.Proofs.YteinppjklhomnaaDoor
/- A law's frame, of whatever program: from a walk that answers true and turns nothing that was there to the row's statement. -/
namespace Go.Proofs.YteinppjklhomnaaDoor
open Go.ChangeShapes Go.WideShapes Go.ChangeAt Go.RowKit

/-- What answers true, and turns nothing that was there. -/
def Yes (w : World) (e : Ending) (w' : World) : Prop := e = .returned (.bool true) ∧ Below w.heap.size w w'

section
variable {H : Type} {enc : TypeId × Value → H} {P : Program}
theorem trodAll_below {W W' : World} (hl : laidOutB P = true) (hb : Below W.heap.size W W') : ∀ (ts : List TypeId) (vs : List Value) (ds : List (DataW H)) (ps : List MemPlace),
    (∀ t ∈ ts, P.readableRec t = true ∧ t < P.types.size) → (∀ x ∈ ps, x.block < W.heap.size) → DataW.TrodAll enc P W 0 (fun _ => true) true ts vs ds ps → DataW.TrodAll enc P W' 0 (fun b => decide (b < W.heap.size)) true ts vs ds ps := by
  intro ts
  induction ts with
  | nil =>
    intro vs ds ps _ _ h
    obtain ⟨rfl, rfl, rfl⟩ := trodAll_nil h
    exact trodAll_mk0
  | cons t ts ih =>
    intro vs ds ps hr hlt h
    obtain ⟨v, vs', d, ds', p, q, rfl, rfl, rfl, h0, h1⟩ := trodAll_cons h
    exact trodAll_cons_mk (Below.trod hl (hr t (by simp)).1 (hr t (by simp)).2 h0 hb (fun x hx => hlt x (by simp [hx])))
      (ih vs' ds' q (fun u hu => hr u (by simp [hu])) (fun x hx => hlt x (by simp [hx])) h1)
theorem trodAll_length {w : World} {b : Nat} {sp : Nat → Bool} {hd : Bool} : ∀ (ts : List TypeId) (vs : List Value) (ds : List (DataW H)) (ps : List MemPlace), DataW.TrodAll enc P w b sp hd ts vs ds ps → ds.length = ts.length := by
  intro ts
  induction ts with
  | nil =>
    intro vs ds ps h
    obtain ⟨rfl, rfl, rfl⟩ := trodAll_nil h
    rfl
  | cons t ts ih =>
    intro vs ds ps h
    obtain ⟨v, vs', d, ds', p, q, rfl, rfl, rfl, _, h1⟩ := trodAll_cons h
    simp [ih vs' ds' q h1]
end

theorem law_frame {H : Type} {enc : TypeId × Value → H} {C : Checked} {os : Os} {f : FuncId} {fn : Func} {s : ChangeSpec} {laid : List (String × DataW Unit)} {tb : TypeId}
    (own : ownKnob C.prog.godebug = none) (started : os.Started) (noInit : C.prog.inits.idxOf? f = none) (hfn : C.prog.funcs[f]? = some fn)
    (hl : laidOutB C.prog = true) (hres : fn.resultTypes = #[tb]) (hbool : C.prog.underlying tb = some .bool) (hvars : s.vars = [])
    (hread : ∀ t ∈ fn.params.toList, C.prog.readableRec t = true ∧ t < C.prog.types.size)
    (hspec : ∀ ds : List (DataW H), ds.length = fn.params.size → s.fn H ds = { results := [.lit (.bool true)], args := ds })
    (witness : ∃ (w : World) (tape : Tape) (i : Input), w.os = os ∧ (w.forCall tape i).Shaped C.prog ∧ i.vars = [] ∧ Input.okWide C.prog (w.forCall tape i) .any w.heap.size f i ∧
      ((s.pre enc C.prog fn [] false (w.forCall tape i).memory i.args ∧ laidMetH C.prog laid (w.forCall tape i).memory) ∧ sizedMet enc C.prog fn (OpenSpec.ofChange s) false (w.forCall tape i).memory i.args) ∧ ({} : Assume).holds C.prog (lone (Frame.enter C.prog f i.args .normal) [] (w.forCall tape i)))
    (walk : ∀ (W : World) (base : Nat) (args : Array Value) (ds : List (DataW H)) (before : List MemPlace),
      (∀ (j : Nat) t v, fn.params[j]? = some t → args[j]? = some v → Value.okWide C.prog W .any base t v) →
      DataW.TrodAll enc C.prog W 0 (fun _ => true) true fn.params.toList args.toList ds before →
      (DataW.weightsEach C.prog (fn.params.toList ++ s.plain.varTypes C.prog) (ds ++ [])).all (· ≤ reachBytes) = true → laidMetH C.prog laid W → Calls C.prog f args W (Yes W)) :
    ReturnsInHanded {} C os f .any (fun w args => (s.pre enc C.prog fn [] false w args ∧ laidMetH C.prog laid w) ∧ sizedMet enc C.prog fn (OpenSpec.ofChange s) false w args) (s.post enc C.prog fn false true false false) := by
  refine returnsInHanded_of_change_and (C := C) (X := fun w _ => laidMetH C.prog laid w) (fun _ _ _ hh h => h.of_heap hh) own started noInit hfn witness ?_
  intro W base args ds gs before hval hW _ hsz hL _
  have hW' := hW
  obtain ⟨p, q, hA, hV, rfl, hfz, hnd⟩ := hW
  rw [hvars] at hV
  obtain ⟨rfl, rfl⟩ := trodVars_none hV
  refine (walk W base args ds p hval hA hsz hL).mono fun e W' he => ?_
  obtain ⟨rfl, hb⟩ := he
  have hlt : ∀ x ∈ p, x.block < W.heap.size := fun x hx => hW'.lt x (by simpa using hx)
  have e1 : s.fn H (ds ++ []) = { results := [.lit (.bool true)], args := ds } := by
    rw [List.append_nil]
    exact hspec ds (by simpa using trodAll_length _ _ _ _ hA)
  refine ⟨_, rfl, ds, [], p ++ [], [], p, [], hW', ?_, ?_, ?_, hb.frame _, fun h => by cases h⟩
  · rw [e1, hres]
    exact trodAll_mk1 (shut_bool hbool true)
  · rw [e1]
    exact trodAll_below hl hb _ _ _ _ hread hlt hA
  · rw [e1, hvars]
    rfl
theorem law_frame_plain {H : Type} {enc : TypeId × Value → H} {C : Checked} {os : Os} {f : FuncId} {fn : Func} {s : ChangeSpec} {tb : TypeId}
    (own : ownKnob C.prog.godebug = none) (started : os.Started) (noInit : C.prog.inits.idxOf? f = none) (hfn : C.prog.funcs[f]? = some fn)
    (hl : laidOutB C.prog = true) (hres : fn.resultTypes = #[tb]) (hbool : C.prog.underlying tb = some .bool) (hvars : s.vars = [])
    (hread : ∀ t ∈ fn.params.toList, C.prog.readableRec t = true ∧ t < C.prog.types.size)
    (hspec : ∀ ds : List (DataW H), ds.length = fn.params.size → s.fn H ds = { results := [.lit (.bool true)], args := ds })
    (witness : ∃ (w : World) (tape : Tape) (i : Input), w.os = os ∧ (w.forCall tape i).Shaped C.prog ∧ i.vars = [] ∧ Input.okWide C.prog (w.forCall tape i) .any w.heap.size f i ∧
      s.pre6 enc C.prog fn [] false (w.forCall tape i).memory i.args ∧ ({} : Assume).holds C.prog (lone (Frame.enter C.prog f i.args .normal) [] (w.forCall tape i)))
    (walk : ∀ (W : World) (base : Nat) (args : Array Value) (ds : List (DataW H)) (before : List MemPlace),
      (∀ (j : Nat) t v, fn.params[j]? = some t → args[j]? = some v → Value.okWide C.prog W .any base t v) →
      DataW.TrodAll enc C.prog W 0 (fun _ => true) true fn.params.toList args.toList ds before → Calls C.prog f args W (Yes W)) :
    ReturnsInHanded {} C os f .any (s.pre6 enc C.prog fn [] false) (s.post enc C.prog fn false true false false) := by
  refine returnsInHanded_of_change (C := C) own started noInit hfn witness ?_
  intro W base args ds gs before hval hW _ _
  have hW' := hW
  obtain ⟨p, q, hA, hV, rfl, hfz, hnd⟩ := hW
  rw [hvars] at hV
  obtain ⟨rfl, rfl⟩ := trodVars_none hV
  refine (walk W base args ds p hval hA).mono fun e W' he => ?_
  obtain ⟨rfl, hb⟩ := he
  have hlt : ∀ x ∈ p, x.block < W.heap.size := fun x hx => hW'.lt x (by simpa using hx)
  have e1 : s.fn H (ds ++ []) = { results := [.lit (.bool true)], args := ds } := by
    rw [List.append_nil]
    exact hspec ds (by simpa using trodAll_length _ _ _ _ hA)
  refine ⟨_, rfl, ds, [], p ++ [], [], p, [], hW', ?_, ?_, ?_, hb.frame _, fun h => by cases h⟩
  · rw [e1, hres]
    exact trodAll_mk1 (shut_bool hbool true)
  · rw [e1]
    exact trodAll_below hl hb _ _ _ _ hread hlt hA
  · rw [e1, hvars]
    rfl
end Go.Proofs.YteinppjklhomnaaDoor
/- Clusters of a row, by where they begin and end: numbers alone. -/
namespace Go.Proofs.YteinppjklhomnaaDoor
open Go.RowKit Go.ChangeShapes Go.WideShapes
/-- Where the last one begins, k numbers having come; the spans that are over then. -/
def lastS (j : Nat → Bool) : Nat → Nat
  | 0 => 0
  | k + 1 => if j k = true ∨ k = 0 then lastS j k else k
def doneS (j : Nat → Bool) : Nat → List (Nat × Nat)
  | 0 => []
  | k + 1 => if j k = true ∨ k = 0 then doneS j k else doneS j k ++ [(lastS j k, k)]
def spansB (j : Nat → Bool) (n : Nat) : List (Nat × Nat) := if n = 0 then [] else doneS j n ++ [(lastS j n, n)]
theorem lastS_succ (j : Nat → Bool) (k : Nat) : lastS j (k + 1) = if j k = true ∨ k = 0 then lastS j k else k := rfl
theorem doneS_succ (j : Nat → Bool) (k : Nat) : doneS j (k + 1) = if j k = true ∨ k = 0 then doneS j k else doneS j k ++ [(lastS j k, k)] := rfl
theorem lastS_lt (j : Nat → Bool) : ∀ k, 0 < k → lastS j k < k
  | 0, h => absurd h (Nat.lt_irrefl _)
  | k + 1, _ => by
    rw [lastS_succ]
    split
    · rcases Nat.eq_zero_or_pos k with e | e
      · subst e; exact Nat.zero_lt_one
      · have := lastS_lt j k e; omega
    · omega
theorem lastS_le (j : Nat → Bool) (k : Nat) : lastS j k ≤ k := by
  rcases Nat.eq_zero_or_pos k with e | e
  · subst e; exact Nat.le_refl _
  · exact Nat.le_of_lt (lastS_lt j k e)
theorem spans_starts (j : Nat → Bool) (h0 : j 0 = false) : ∀ k, 0 < k → (doneS j k).map Prod.fst ++ [lastS j k] = startB j k ∧ (doneS j k).map Prod.snd = (startB j k).tail
  | 0, h => absurd h (Nat.lt_irrefl _)
  | 1, _ => by
    have e : startB j 1 = [0] := by rw [startB_succ, h0]; rfl
    rw [e]
    exact ⟨by simp [doneS, lastS], by simp [doneS]⟩
  | k + 2, _ => by
    obtain ⟨h1, h2⟩ := spans_starts j h0 (k + 1) (Nat.succ_pos _)
    rw [startB_succ j (k + 1)]
    rw [lastS_succ, doneS_succ]
    cases hj : j (k + 1) with
    | true =>
      rw [if_pos (.inl rfl), if_pos (.inl rfl), if_pos rfl, List.append_nil]
      exact ⟨h1, h2⟩
    | false =>
      rw [if_neg (by simp), if_neg (by simp), if_neg (by decide)]
      refine ⟨by rw [List.map_append, List.map_cons, List.map_nil, h1], ?_⟩
      rw [List.map_append, h2, List.map_cons, List.map_nil]
      have hne : startB j (k + 1) ≠ [] := by rw [← h1]; simp
      cases hs : startB j (k + 1) with
      | nil => exact absurd hs hne
      | cons a l => rfl
theorem spansB_fst (j : Nat → Bool) (h0 : j 0 = false) (n : Nat) : (spansB j n).map Prod.fst = startB j n := by
  unfold spansB
  by_cases h : n = 0
  · subst h; rw [if_pos rfl]; rfl
  · rw [if_neg h, List.map_append]
    exact (spans_starts j h0 n (Nat.pos_of_ne_zero h)).1
theorem spansB_snd (j : Nat → Bool) (h0 : j 0 = false) (n : Nat) (h : 0 < n) : (spansB j n).map Prod.snd = (startB j n ++ [n]).tail := by
  unfold spansB
  rw [if_neg (by omega), List.map_append, (spans_starts j h0 n h).2]
  have hne : startB j n ≠ [] := by rw [← (spans_starts j h0 n h).1]; simp
  cases hs : startB j n with
  | nil => exact absurd hs hne
  | cons a l => rfl
theorem spansB_len (j : Nat → Bool) (h0 : j 0 = false) (n : Nat) : (spansB j n).length = (startB j n).length := by rw [← spansB_fst j h0 n, List.length_map]
theorem spansB_at (j : Nat → Bool) (h0 : j 0 = false) (n i : Nat) (hi : i < (startB j n).length) : (spansB j n).getD i (0, 0) = ((startB j n ++ [n]).getD i 0, (startB j n ++ [n]).getD (i + 1) 0) := by
  have hn : 0 < n := by
    rcases Nat.eq_zero_or_pos n with e | e
    · subst e; simp [startB] at hi
    · exact e
  have hl := spansB_len j h0 n
  have e1 := congrArg (fun l : List Nat => l.getD i 0) (spansB_fst j h0 n)
  have e2 := congrArg (fun l : List Nat => l.getD i 0) (spansB_snd j h0 n hn)
  have hs : i < (spansB j n).length := by omega
  have e3 : (startB j n ++ [n]).tail.getD i 0 = (startB j n ++ [n]).getD (i + 1) 0 := by
    cases startB j n with
    | nil => rfl
    | cons a l => rfl
  have e4 : (startB j n ++ [n]).getD i 0 = (startB j n).getD i 0 := by simp [List.getD, List.getElem?_append_left hi]
  rw [e4]
  simp only [e3] at e2
  simp [List.getD, List.getElem?_eq_getElem hs] at e1 e2 ⊢
  exact Prod.ext (by simpa [List.getD] using e1) (by simpa [List.getD] using e2)
/-- All that come: none is empty, each begins where the one ahead ends. -/
theorem doneS_ok (j : Nat → Bool) : ∀ k p, p ∈ doneS j k → p.1 < p.2 ∧ p.2 < k
  | 0, p, h => by simp [doneS] at h
  | k + 1, p, h => by
    rw [doneS_succ] at h
    split at h
    · have := doneS_ok j k p h; omega
    · rename_i hk
      rcases List.mem_append.1 h with h | h
      · have := doneS_ok j k p h; omega
      · simp at h
        subst h
        have : k ≠ 0 := fun e => hk (.inr e)
        have := lastS_lt j k (by omega)
        exact ⟨this, by simp⟩
theorem spansB_ok (j : Nat → Bool) (n : Nat) (p : Nat × Nat) (h : p ∈ spansB j n) : p.1 < p.2 ∧ p.2 ≤ n := by
  unfold spansB at h
  split at h
  · simp at h
  · rcases List.mem_append.1 h with h | h
    · have := doneS_ok j n p h; omega
    · simp at h
      subst h
      exact ⟨lastS_lt j n (by omega), Nat.le_refl _⟩
theorem doneS_grow (j : Nat → Bool) (k : Nat) : doneS j k <+: doneS j (k + 1) := by
  rw [doneS_succ]
  split
  · exact List.prefix_refl _
  · exact List.prefix_append _ _
theorem doneS_le (j : Nat → Bool) (k : Nat) : ∀ d, doneS j k <+: doneS j (k + d)
  | 0 => List.prefix_refl _
  | d + 1 => (doneS_le j k d).trans (doneS_grow j (k + d))
theorem doneS_in (j : Nat → Bool) (k n : Nat) (hk : k ≤ n) (hn : 0 < n) : doneS j k <+: spansB j n := by
  obtain ⟨d, rfl⟩ : ∃ d, n = k + d := ⟨n - k, by omega⟩
  unfold spansB
  rw [if_neg (by omega)]
  exact (doneS_le j k d).trans (List.prefix_append _ _)
/-- The part of a list from one place to another. -/
def sliceL {α : Type} (T : List α) (p : Nat × Nat) : List α := (T.drop p.1).take (p.2 - p.1)
theorem sliceL_len {α : Type} (T : List α) (p : Nat × Nat) (h1 : p.1 ≤ p.2) (h2 : p.2 ≤ T.length) : (sliceL T p).length = p.2 - p.1 := by unfold sliceL; rw [List.length_take, List.length_drop]; omega
theorem sliceL_next {α : Type} (T : List α) (a b : Nat) (h : a ≤ b) : T.take a ++ sliceL T (a, b) = T.take b := by
  unfold sliceL
  have := List.take_add (l := T) (i := a) (j := b - a)
  rw [show a + (b - a) = b by omega] at this
  exact this.symm
theorem done_flat {α : Type} (T : List α) (j : Nat → Bool) : ∀ k, ((doneS j k).map (sliceL T)).flatten = T.take (lastS j k)
  | 0 => by simp [doneS, lastS]
  | k + 1 => by
    rw [lastS_succ, doneS_succ]
    split
    · exact done_flat T j k
    · rw [List.map_append, List.flatten_append, done_flat T j k]
      simp only [List.map_cons, List.map_nil, List.flatten_cons, List.flatten_nil, List.append_nil]
      exact sliceL_next T _ _ (lastS_le j k)
theorem spans_flat {α : Type} (T : List α) (j : Nat → Bool) (n : Nat) : ((spansB j n).map (sliceL T)).flatten = T.take n := by
  unfold spansB
  split
  · rename_i h; subst h; simp
  · rw [List.map_append, List.flatten_append, done_flat]
    simp only [List.map_cons, List.map_nil, List.flatten_cons, List.flatten_nil, List.append_nil]
    exact sliceL_next T _ _ (lastS_le j n)
theorem doneS_congr (j j' : Nat → Bool) : ∀ k, (∀ i, i < k → j i = j' i) → doneS j k = doneS j' k ∧ lastS j k = lastS j' k
  | 0, _ => ⟨rfl, rfl⟩
  | k + 1, h => by
    obtain ⟨h1, h2⟩ := doneS_congr j j' k fun i hi => h i (by omega)
    rw [lastS_succ, doneS_succ, lastS_succ, doneS_succ, h1, h2, h k (by omega)]
    exact ⟨rfl, rfl⟩
theorem spansB_congr (j j' : Nat → Bool) (n : Nat) (h : ∀ i, i < n → j i = j' i) : spansB j n = spansB j' n := by
  obtain ⟨h1, h2⟩ := doneS_congr j j' n h
  unfold spansB
  rw [h1, h2]
/-- Spans at a place where none is joined fall in two. -/
theorem doneS_cut (j : Nat → Bool) (a : Nat) (ha : 0 < a) (hj : j a = false) : ∀ b, doneS j (a + b + 1) = spansB j a ++ (doneS (fun i => j (a + i)) (b + 1)).map (fun p => (a + p.1, a + p.2)) ∧ lastS j (a + b + 1) = a + lastS (fun i => j (a + i)) (b + 1)
  | 0 => by
    have e1 : doneS j (a + 0 + 1) = doneS j a ++ [(lastS j a, a)] := by
      show (if j (a + 0) = true ∨ a + 0 = 0 then doneS j (a + 0) else doneS j (a + 0) ++ [(lastS j (a + 0), a + 0)]) = _
      rw [Nat.add_zero, hj, if_neg (by simp; omega)]
    have e2 : lastS j (a + 0 + 1) = a := by
      show (if j (a + 0) = true ∨ a + 0 = 0 then lastS j (a + 0) else a + 0) = _
      rw [Nat.add_zero, hj, if_neg (by simp; omega)]
    rw [e1, e2]
    unfold spansB
    rw [if_neg (by omega)]
    exact ⟨by simp [doneS], by simp [lastS]⟩
  | b + 1 => by
    obtain ⟨h1, h2⟩ := doneS_cut j a ha hj b
    have e1 : doneS j (a + (b + 1) + 1) = if j (a + b + 1) = true ∨ a + b + 1 = 0 then doneS j (a + b + 1) else doneS j (a + b + 1) ++ [(lastS j (a + b + 1), a + b + 1)] := rfl
    have e2 : lastS j (a + (b + 1) + 1) = if j (a + b + 1) = true ∨ a + b + 1 = 0 then lastS j (a + b + 1) else a + b + 1 := rfl
    have e3 : doneS (fun i => j (a + i)) (b + 1 + 1) = if j (a + b + 1) = true ∨ b + 1 = 0 then doneS (fun i => j (a + i)) (b + 1) else doneS (fun i => j (a + i)) (b + 1) ++ [(lastS (fun i => j (a + i)) (b + 1), b + 1)] := rfl
    have e4 : lastS (fun i => j (a + i)) (b + 1 + 1) = if j (a + b + 1) = true ∨ b + 1 = 0 then lastS (fun i => j (a + i)) (b + 1) else b + 1 := rfl
    rw [e1, e2, e3, e4]
    cases j (a + b + 1) with
    | true => rw [if_pos (.inl rfl), if_pos (.inl rfl), if_pos (.inl rfl), if_pos (.inl rfl)]; exact ⟨h1, h2⟩
    | false =>
      rw [if_neg (by simp), if_neg (by simp), if_neg (by simp), if_neg (by simp), h1, h2]
      exact ⟨by simp [Nat.add_assoc], by omega⟩
theorem spansB_cut (j : Nat → Bool) (a b : Nat) (hj : j a = false) : spansB j (a + (b + 1)) = spansB j a ++ (spansB (fun i => j (a + i)) (b + 1)).map (fun p => (a + p.1, a + p.2)) := by
  rcases Nat.eq_zero_or_pos a with e | e
  · subst e
    have : spansB j 0 = [] := rfl
    rw [this, List.nil_append]
    simp only [Nat.zero_add]
    rw [show ((fun p : Nat × Nat => (p.1, p.2))) = id from rfl, List.map_id]
  · obtain ⟨h1, h2⟩ := doneS_cut j a e hj b
    show (if a + (b + 1) = 0 then [] else doneS j (a + b + 1) ++ [(lastS j (a + b + 1), a + (b + 1))]) = _
    rw [if_neg (by omega), h1, h2, List.append_assoc]
    congr 1
    show _ = List.map _ (if b + 1 = 0 then [] else _)
    rw [if_neg (by omega), List.map_append]
    rfl
end Go.Proofs.YteinppjklhomnaaDoor
/- Regions that draw their order, whose operations but the last ones read, or call what makes memory and turns nothing: one walk of the order of the text serves all orders. Of no program. -/
namespace Go.Proofs.YteinppjklhomnaaDoor
open Go Go.RowKit

/-- The first n of a region's operations wait for, and are guarded by, operations ahead of them. -/
def lowB (l : List Oper) (n : Nat) : Bool :=
  (List.range n).all fun i => match l[i]? with
    | some o => (o.after.all fun e => !Region.binds .any e || decide (e.on < i)) && (match o.guard with
      | none => true
      | some (j, _) => decide (j < n))
    | none => false
theorem low_at {l : List Oper} {n i : Nat} {o : Oper} (h : lowB l n = true) (hi : i < n) (ho : l[i]? = some o) :
    (∀ e ∈ o.after, Region.binds .any e = true → e.on < i) ∧ ∀ j b, o.guard = some (j, b) → j < n := by
  have h1 := List.all_eq_true.1 h i (List.mem_range.2 hi)
  rw [ho] at h1
  simp only [Bool.and_eq_true] at h1
  refine ⟨fun e he hb => ?_, fun j b hg => ?_⟩
  · have := Array.all_eq_true'.1 h1.1 e he
    simpa [hb] using this
  · have := h1.2
    rw [hg] at this
    simpa using this
theorem take_at {l : List Oper} {n i : Nat} (hi : i < n) : (l.take n)[i]? = l[i]? := by
  rw [List.getElem?_take, if_pos hi]
theorem wanted_take {l : List Oper} {n i : Nat} {o : Oper} (h : lowB l n = true) (hi : i < n) (ho : l[i]? = some o) (tmps : Array Value) :
    Region.wanted o (yielded (l.take n).toArray tmps) = Region.wanted o (yielded l.toArray tmps) := by
  unfold Region.wanted
  cases hg : o.guard with
  | none => rfl
  | some jb =>
    obtain ⟨j, b⟩ := jb
    have hj := (low_at h hi ho).2 j b hg
    have e : yielded (l.take n).toArray tmps j = yielded l.toArray tmps j := by
      unfold yielded
      simp only [List.getElem?_toArray]
      rw [take_at hj]
    simp only [e]
def unlisted (n : Nat) (listed : Array Bool) : Nat := ((List.range n).filter fun i => !listed.getD i true).length
theorem unlisted_zero {n : Nat} {listed : Array Bool} (h : unlisted n listed = 0) : ∀ i, i < n → listed.getD i true = true := by
  intro i hi
  cases hl : listed.getD i true with
  | true => rfl
  | false =>
    have : i ∈ (List.range n).filter fun i => !listed.getD i true := List.mem_filter.2 ⟨List.mem_range.2 hi, by simp [hl]⟩
    rw [List.length_eq_zero_iff.1 h] at this
    cases this
theorem unlisted_pos {n : Nat} {listed : Array Bool} (h : 0 < unlisted n listed) : ∃ i, i < n ∧ listed.getD i true = false ∧ ∀ j, j < i → listed.getD j true = true := by
  obtain ⟨i, hi⟩ := List.exists_mem_of_length_pos h
  obtain ⟨h1, h2⟩ := List.mem_filter.1 hi
  have h3 : i < n ∧ listed.getD i true = false := ⟨List.mem_range.1 h1, by simpa using h2⟩
  clear hi h1 h2 h
  induction i using Nat.strongRecOn with
  | _ i ih =>
    by_cases hex : ∃ j, j < i ∧ listed.getD j true = false
    · obtain ⟨j, hj, hf⟩ := hex
      exact ih j hj ⟨by omega, hf⟩
    · refine ⟨i, h3.1, h3.2, fun j hj => ?_⟩
      cases hl : listed.getD j true with
      | true => rfl
      | false => exact absurd ⟨j, hj, hl⟩ hex
theorem filter_one_less {α : Type} (p q : α → Bool) (x : α) : ∀ (l : List α), l.Nodup → x ∈ l → p x = true → q x = false → (∀ y, y ≠ x → q y = p y) → (l.filter q).length + 1 = (l.filter p).length
  | [], _, hx, _, _, _ => by cases hx
  | y :: l, hnd, hx, hp, hq, hs => by
    obtain ⟨hy, hnd'⟩ := List.nodup_cons.1 hnd
    by_cases he : y = x
    · subst he
      have : l.filter q = l.filter p := List.filter_congr fun z hz => hs z (fun e => hy (e ▸ hz))
      rw [List.filter_cons_of_neg (by simp [hq]), List.filter_cons_of_pos hp, this]
      simp
    · have hx' : x ∈ l := by
        rcases List.mem_cons.1 hx with h | h
        · exact absurd h.symm he
        · exact h
      have := filter_one_less p q x l hnd' hx' hp hq hs
      rw [List.filter_cons, List.filter_cons, hs y he]
      split
      · rw [List.length_cons, List.length_cons]; omega
      · exact this
theorem unlisted_set {n i : Nat} {listed : Array Bool} (hsz : listed.size = n) (hi : i < n) (hu : listed.getD i true = false) : unlisted n (listed.setIfInBounds i true) + 1 = unlisted n listed := by
  unfold unlisted
  refine filter_one_less _ _ i _ List.nodup_range (List.mem_range.2 hi) (by simp [hu]) ?_ ?_
  · have : (listed.setIfInBounds i true).getD i true = true := by
      rw [Array.getD_eq_getD_getElem?, Array.getElem?_setIfInBounds_self_of_lt (by omega)]
      rfl
    rw [this]; rfl
  · intro y hy
    rw [getD_set_ne true (by omega)]
theorem getD_any {listed : Array Bool} {i : Nat} (h : i < listed.size) : listed.getD i false = listed.getD i true := by
  rw [Array.getD_eq_getD_getElem?, Array.getD_eq_getD_getElem?, Array.getElem?_eq_getElem h]
  rfl
section
variable {P : Program} {l : List Oper} {n : Nat} {C : World → Prop}
theorem ready_take (hlow : lowB l n = true) {listed₀ listed : Array Bool} (hsame : ∀ i, i < n → listed.getD i true = listed₀.getD i true) (hs0 : listed₀.size = n) (hs : listed.size = l.length) (hn : n < l.length) {i : Nat} (hi : i < n)
    (hr : i ∈ Region.ready .any l.toArray listed) : i ∈ Region.ready .any (l.take n).toArray listed₀ := by
  obtain ⟨h1, o, ho, hall⟩ := mem_ready.1 hr
  have ho' : l[i]? = some o := by simpa using ho
  refine mem_ready.2 ⟨(hsame i hi).symm.trans h1, o, by simpa [take_at hi] using ho', fun e he hb => ?_⟩
  have hlt := (low_at hlow hi ho').1 e he hb
  have h2 := hall e he hb
  have h3 := hsame e.on (by omega)
  rw [getD_any (by omega)] at h2 ⊢
  rw [← h3]; exact h2
theorem some_ready (hlow : lowB l n = true) {listed : Array Bool} (hs : listed.size = l.length) (hn : n < l.length) {i : Nat} (hi : i < n) (hu : listed.getD i true = false) (hb : ∀ j, j < i → listed.getD j true = true) :
    i ∈ Region.ready .any l.toArray listed := by
  have hl : l[i]? = some l[i] := List.getElem?_eq_getElem (by omega)
  refine mem_ready.2 ⟨hu, l[i], by simp, fun e he hbi => ?_⟩
  have hlt := (low_at hlow hi hl).1 e he hbi
  have := hb e.on hlt
  rw [Array.getD_eq_getD_getElem?, Array.getElem?_eq_getElem (by omega)] at this ⊢
  exact this
theorem qOp_take (hlow : lowB l n = true) {i : Nat} (hi : i < n) {K : Act → Prop} {a : Act} (h : qOp P (l.take n).toArray C i K a) : qOp P l.toArray C i K a := by
  unfold qOp at *
  simp only [List.getElem?_toArray] at *
  rw [take_at hi] at h
  cases ho : l[i]? with
  | none => rw [ho] at h; exact h
  | some o =>
    rw [ho] at h
    simp only at h ⊢
    rw [wanted_take hlow hi ho] at h
    exact h
def headDone (l : List Oper) (n : Nat) : Array Bool := ((List.range l.length).map fun i => decide (i < n)).toArray
theorem headDone_of {listed : Array Bool} (hs : listed.size = l.length) (hd : ∀ i, i < n → listed.getD i true = true) (inv : HeadInv .any l.toArray n listed) : listed = headDone l n := by
  apply Array.ext
  · simp [headDone, hs]
  · intro i h1 h2
    have h3 : (headDone l n)[i] = decide (i < n) := by simp [headDone]
    rw [h3]
    by_cases hi : i < n
    · have := hd i hi
      rw [Array.getD_eq_getD_getElem?, Array.getElem?_eq_getElem h1] at this
      rw [decide_eq_true hi]; exact this
    · have := inv.tail i (by omega) (by simp; omega)
      rw [Array.getD_eq_getD_getElem?, Array.getElem?_eq_getElem h1] at this
      rw [decide_eq_false hi]; exact this
theorem any_of_head {g : Nat} {Q' : Exit → Act → World → Prop} {T : Act → Prop} (hn : n < l.length) (hlow : lowB l n = true) (hs : Region.sinkB .any l.toArray n = true) (hc : Region.chainB .any l.toArray n = true)
    (hT : ∀ a w, C w → T a → wpAny P .any l.toArray Q' g (headDone l n) a w) :
    ∀ (f : Nat) (listed₀ listed : Array Bool) (a : Act) (w : World), C w → HeadInv .any l.toArray n listed → listed₀.size = n → (∀ i, i < n → listed.getD i true = listed₀.getD i true) → unlisted n listed₀ = f →
      wpAnyQ P .any (l.take n).toArray C T f listed₀ a → wpAny P .any l.toArray Q' (f + g) listed a w := by
  intro f
  induction f with
  | zero =>
    intro listed₀ listed a w hw inv hs0 hsame hu h
    have hsz : listed.size = l.length := by simpa using inv.size
    rw [Nat.zero_add, headDone_of hsz (fun i hi => (hsame i hi).trans (unlisted_zero hu i hi)) inv]
    exact hT a w hw h.2
  | succ f ih =>
    intro listed₀ listed a w hw inv hs0 hsame hu h
    have hsz : listed.size = l.length := by simpa using inv.size
    obtain ⟨m, hm, hmu, hmb⟩ := unlisted_pos (n := n) (listed := listed₀) (by omega)
    have hmr := some_ready hlow hsz hn hm ((hsame m hm).trans hmu) (fun j hj => (hsame j (by omega)).trans (hmb j hj))
    rw [show f + 1 + g = (f + g) + 1 by omega]
    refine ⟨(fun h0 => by rw [h0] at hmr; cases hmr), fun i hi => ?_⟩
    have hin : i < n := by
      rcases Nat.lt_or_ge i n with h' | h'
      · exact h'
      · exact absurd hi (tail_waits hs hc (by simpa using hn) inv _ m rfl hm ((hsame m hm).trans hmu) i h')
    have hi0 := ready_take hlow hsame hs0 hsz hn hin hi
    have hq := qOp_take hlow hin (h.2 i hi0)
    refine wpOp_of_qOp hw (fun a' w' hw' hK => ih _ _ a' w' hw' (inv.set hi hin) (by simpa using hs0) (fun j hj => ?_) ?_ hK) hq
    · by_cases hji : i = j
      · subst hji
        rw [Array.getD_eq_getD_getElem?, Array.getD_eq_getD_getElem?, Array.getElem?_setIfInBounds_self_of_lt (by omega), Array.getElem?_setIfInBounds_self_of_lt (by omega)]
      · rw [getD_set_ne true hji, getD_set_ne true hji]; exact hsame j hj
    · have := unlisted_set hs0 hin ((hsame i hin).symm.trans (mem_ready.1 hi).1)
      omega
/-- A REGION WHOSE FIRST n OPERATIONS ARE QUIET IN A CLASS OF WORLDS, AND WHOSE LAST ONES COME IN ONE ORDER, BEHIND THEM. -/
theorem wp_region_tail {id : Nat} {Q : Exit → Act → World → Prop} {a : Act} {w : World} (n : Nat) (hm : P.follows .mixedOrders = true) (hn : n < l.length) (hB : Region.lexB .any (l.take n).toArray = true) (hlow : lowB l n = true)
    (hs : Region.sinkB .any l.toArray n = true) (hc : Region.chainB .any l.toArray n = true) (hseq : Region.seqB .any l.toArray (l.length - n) n (headDone l n) = true) (hC : C { w with drawn := w.drawn + 1 })
    (h : wpQuiet P (l.take n).toArray C (fun a' => ∀ w', C w' → wpList P l.toArray Q (l.drop n) a' w') (l.take n) a) : (Code.region id l.toArray true).wp P Q a w := by
  simp only [Region.lexB, Bool.and_eq_true] at hB
  have htl : (l.take n).length = n := by simp; omega
  have hdl : (l.drop n).length = l.length - n := by simp
  have H := wpAnyQ_lex (C := C) (md := .any) hB.1 (l.take n) 0 (Array.replicate (l.take n).toArray.size false) a (by simp) (by simpa using hB.2) h
  have inv0 : HeadInv .any l.toArray n (Array.replicate l.toArray.size false) :=
    ⟨by simp, fun j oj _ hl => (by rw [getD_replicate_false] at hl; cases hl), fun t _ ht => getD_in (by simpa using ht) (getD_replicate_false _ _)⟩
  refine wp_region_any hm ?_
  have := any_of_head (C := C) (Q' := Q) (g := l.length - n) hn hlow hs hc (fun a' w' hw' hT => by
    have := wpAny_of_seq (md := .any) (Q' := Q) (l.drop n) n (headDone l n) a' w' (fun j => by simp [List.getElem?_drop]) (by rw [hdl]; exact hseq) (hT w' hw')
    rwa [hdl] at this) (l.take n).length (Array.replicate (l.take n).toArray.size false) (Array.replicate l.toArray.size false) a _ hC inv0 (by simp; omega) (fun i hi => by
      rw [getD_in (by simpa using (by omega : i < l.length)) (getD_replicate_false _ _), getD_in (by simp; omega) (getD_replicate_false _ _)]) (by
      unfold unlisted
      rw [List.filter_eq_self.2 (fun i hi => by
        have := List.mem_range.1 hi
        rw [getD_in (by simp; omega) (getD_replicate_false _ _)]; rfl), List.length_range]
      omega) H
  rw [htl, show n + (l.length - n) = l.toArray.size by simp; omega] at this
  exact this
end
/-- New memory, and nothing else. -/
structure Growth (w : World) where
  tz9 : World
  ok : Below w.heap.size w tz9
instance (w : World) : Nonempty (Growth w) := ⟨⟨w, Below.refl _ _⟩⟩
/-- A world that is w but for new memory. -/
def ext (w : World) (u : Growth w) : World := u.tz9
theorem ext_cell {w : World} {a : Addr} {v : Value} (h : w.cell? a = some v) (u : Growth w) : (ext w u).cell? a = some v :=
  (u.ok.cell (World.block_lt_of_cell? w a h)).trans h
theorem ext_free {w : World} {a : Addr} {b : Bool} (hl : a.block < w.heap.size) (h : w.frozen? a = b) (u : Growth w) : (ext w u).frozen? a = b :=
  (u.ok.frozen (p := a) hl).trans h
theorem callx {P : Program} {f : FuncId} {args : Array Value} {w : World} {u : Growth w} {v : Value}
    (h : Calls P f args (ext w u) fun e w' => e = .returned v ∧ Below (ext w u).heap.size (ext w u) w') : Calls P f args (ext w u) fun e w'' => e = .returned v ∧ ∃ u', w'' = ext w u' :=
  h.mono fun _ w' ⟨he, hb⟩ => ⟨he, ⟨w', u.ok.trans (hb.mono u.ok.size)⟩, rfl⟩
theorem callx_same {P : Program} {f : FuncId} {args : Array Value} {w : World} {u : Growth w} {v : Value}
    (h : Calls P f args (ext w u) fun e w' => e = .returned v ∧ ext w u = w') : Calls P f args (ext w u) fun e w'' => e = .returned v ∧ ∃ u', w'' = ext w u' :=
  h.mono fun _ w' ⟨he, hb⟩ => ⟨he, u, hb.symm⟩
def drew1 (w : World) : Growth w := ⟨{ w with drawn := w.drawn + 1 }, ⟨rfl, rfl, rfl, Nat.le_refl _, fun _ _ => rfl⟩⟩
theorem wp_region_ext {P : Program} {id : Nat} {Q : Exit → Act → World → Prop} {a : Act} {w : World} {l : List Oper} (hm : P.follows .mixedOrders = true) (hB : Region.lexB .any l.toArray = true)
    (h : wpQuiet P l.toArray (fun w' => ∃ u, w' = ext w u) (fun a' => ∀ w', (∃ u, w' = ext w u) → Q .normal a' w') l a) : (Code.region id l.toArray true).wp P Q a w :=
  wp_region_quiet (C := fun w' => ∃ u, w' = ext w u) hm hB ⟨drew1 w, rfl⟩ (by simpa using h)
theorem wp_region_ext_tail {P : Program} {id : Nat} {Q : Exit → Act → World → Prop} {a : Act} {w : World} {l : List Oper} (n : Nat) (hm : P.follows .mixedOrders = true) (hn : n < l.length) (hB : Region.lexB .any (l.take n).toArray = true) (hlow : lowB l n = true)
    (hs : Region.sinkB .any l.toArray n = true) (hc : Region.chainB .any l.toArray n = true) (hseq : Region.seqB .any l.toArray (l.length - n) n (headDone l n) = true)
    (h : wpQuiet P (l.take n).toArray (fun w' => ∃ u, w' = ext w u) (fun a' => ∀ w', (∃ u, w' = ext w u) → wpList P l.toArray Q (l.drop n) a' w') (l.take n) a) : (Code.region id l.toArray true).wp P Q a w :=
  wp_region_tail n hm hn hB hlow hs hc hseq ⟨drew1 w, rfl⟩ h
theorem ext_below {w W : World} (h : Below w.heap.size w W) (u : Growth W) : Below w.heap.size w (ext W u) := h.trans (u.ok.mono h.size)
end Go.Proofs.YteinppjklhomnaaDoor
/- Contracts of hangul.Syllable and Class. -/
namespace Go.Proofs.YteinppjklhomnaaDoor
open Go.RowKit Go.ChangeShapes Go.WideShapes
def isSyl (r : Int) : Bool := decide (44032 ≤ r) && decide (r ≤ 55203)
theorem isSyl_cases (r : Int) : (r < 44032 ∧ isSyl r = false) ∨ (44032 ≤ r ∧ r ≤ 55203 ∧ isSyl r = true) ∨ (55203 < r ∧ isSyl r = false) := by unfold isSyl; simp; omega
def spL (r : Int) : Int := if isSyl r = true then 4352 + (r - 44032) / 588 else 0
def spV (r : Int) : Int := if isSyl r = true then 4449 + (r - 44032) % 588 / 28 else 0
def spT (r : Int) : Int := if isSyl r = true ∧ (r - 44032) % 28 ≠ 0 then 4519 + (r - 44032) % 28 else 0
def classI (r : Int) : Int :=
  if (4352 ≤ r ∧ r ≤ 4447) ∨ (43360 ≤ r ∧ r ≤ 43388) then 9
  else if (4448 ≤ r ∧ r ≤ 4519) ∨ (55216 ≤ r ∧ r ≤ 55238) then 10
  else if (4520 ≤ r ∧ r ≤ 4607) ∨ (55243 ≤ r ∧ r ≤ 55291) then 11
  else if r < 44032 ∨ 55203 < r then 0
  else if (r - 44032) % 28 = 0 then 12 else 13
theorem class_cases (r : Int) : (r < 4352) ∨ (4352 ≤ r ∧ r ≤ 4447) ∨ (4448 ≤ r ∧ r ≤ 4519) ∨ (4520 ≤ r ∧ r ≤ 4607) ∨ (4607 < r ∧ r < 43360) ∨ (43360 ≤ r ∧ r ≤ 43388) ∨ (43388 < r ∧ r < 44032) ∨ (44032 ≤ r ∧ r ≤ 55203 ∧ (r - 44032) % 28 = 0) ∨ (44032 ≤ r ∧ r ≤ 55203 ∧ 0 < (r - 44032) % 28) ∨ (55203 < r ∧ r < 55216) ∨ (55216 ≤ r ∧ r ≤ 55238) ∨ (55238 < r ∧ r < 55243) ∨ (55243 ≤ r ∧ r ≤ 55291) ∨ (55291 < r) := by omega
end Go.Proofs.YteinppjklhomnaaDoor
/- Long composite literals: a region of many 'build's by one reckoning, no matter how many. Of no program. -/
namespace Go.Proofs.YteinppjklhomnaaDoor
open Go Go.RowKit
/-- What the operations, all of them 'build's without a guard, leave. -/
def builds (P : Program) : List Oper → Act → Option Act
  | [], a => some a
  | o :: l, a => match o.guard, o.op with
    | none, .build t parts => match P.built t (parts.map fun (i, x) => (i, a.eval x)).toList with
      | some cells => builds P l (a.put o.dst (.agg cells))
      | none => none
    | _, _ => none
section
variable {P : Program} {ops : Array Oper} {Q : Exit → Act → World → Prop} {w : World}
theorem wpList_builds_append : ∀ (l rest : List Oper) (a a' : Act), builds P l a = some a' → wpList P ops Q rest a' w → wpList P ops Q (l ++ rest) a w
  | [], rest, a, a', hb, h => by
    simp only [builds, Option.some.injEq] at hb
    subst hb
    exact h
  | o :: l, rest, a, a', hb, h => by
    unfold builds at hb
    split at hb
    · rename_i t parts hg ho
      split at hb
      · rename_i cells hc
        refine wpList_build hg t parts ho (by rw [hc]; rfl) ?_
        rw [hc]
        exact wpList_builds_append l rest _ a' hb h
      · cases hb
    · cases hb
theorem wpList_builds {L : List Oper} {a : Act} (n : Nat) (hb : (builds P (L.take n) a).isSome = true) (h : wpList P ops Q (L.drop n) ((builds P (L.take n) a).getD a) w) : wpList P ops Q L a w := by
  obtain ⟨a', ha⟩ := Option.isSome_iff_exists.1 hb
  rw [ha] at h
  have := wpList_builds_append (ops := ops) (Q := Q) (L.take n) (L.drop n) a a' ha h
  rwa [List.take_append_drop] at this
theorem wpList_alloc_zero {o : Oper} {rest : List Oper} {a : Act} (hg : o.guard = none) (t : TypeId) (ho : o.op = .alloc t) (z : Value) (n : Nat) (hi : (P.info? t).map (fun i => (i.zero, i.size)) = some (some z, n))
    (h : wpList P ops Q rest (a.put o.dst (.pointer (some ⟨w.heap.size, 0, none⟩))) (w.alloc (.cells z.cells t))) : wpList P ops Q (o :: rest) a w := by
  refine wpList_plain hg fun K hK => ?_
  have hz := (zero_of_info (P := P) hi).1 w
  unfold Oper.wp execOp
  simp only [ho, Instr.alloc, newVar, newRow, newObj, Sem.run_bind, hz, Result.andThen_ok]
  exact hK _ _ h
/-- What a slice literal lays. -/
def Program.builtSlice (P : Program) (t : TypeId) (len : Nat) (parts : List (Nat × Value)) : Option (TypeId × Array Value) :=
  match P.underlying t with
  | some (.slice elem) => match (P.info? elem).map (fun i => (i.zero, i.size)) with
    | some (some z, size) => if len * size = 0 ∨ len * size > 2 ^ 24 then none else (Instr.fill (fun i => some (i * size, size)) ((Array.range (len * size)).map (z.cells[· % z.cells.size]!)) parts).map fun c => (elem, c)
    | _ => none
  | _ => none
theorem wpList_buildSlice {o : Oper} {rest : List Oper} {a : Act} (hg : o.guard = none) (t : TypeId) (len : Nat) (parts : Array (Nat × Operand)) (ho : o.op = .buildSlice t len parts) (e : TypeId) (cells : Array Value)
    (hb : Program.builtSlice P t len (parts.map fun (i, x) => (i, a.eval x)).toList = some (e, cells))
    (h : wpList P ops Q rest (a.put o.dst (.slice (some ⟨w.heap.size, 0, none⟩) len len)) (w.alloc (.cells cells e))) : wpList P ops Q (o :: rest) a w := by
  refine wpList_plain hg fun K hK => ?_
  unfold Program.builtSlice at hb
  split at hb
  · rename_i elem hu
    split at hb
    · rename_i z size hi
      obtain ⟨hz, hs⟩ := zero_of_info (P := P) hi
      split at hb
      · cases hb
      · rename_i hc
        simp only [Option.map_eq_some_iff, Prod.mk.injEq] at hb
        obtain ⟨c, hf, rfl, rfl⟩ := hb
        have h1 : ¬ len * size = 0 := fun e => hc (.inl e)
        have h2 : ¬ len * size > 2 ^ 24 := fun e => hc (.inr e)
        have hsz : ∀ w, (sizeOf elem).run P w = .ok size w := fun w => by
          cases hq : P.info? elem with
          | none => simp [hq] at hs
          | some i => simp [hq] at hs; simp [sizeOf, typeInfo, hq, hs]
        unfold Oper.wp execOp
        simp only [ho, Instr.buildSlice, Sem.run_bind, run_underlying hu, hsz, Result.andThen_ok, if_neg h1, if_neg h2, hz, Sem.run_pure]
        rw [show (Array.map (fun x => (x.fst, a.eval x.snd)) parts).toList = (parts.map fun (i, x) => (i, a.eval x)).toList from rfl, hf]
        simp only [newRow, newObj, Sem.run_bind, Result.andThen_ok, Sem.run_pure]
        exact hK _ _ h
    · cases hb
  · cases hb
end
end Go.Proofs.YteinppjklhomnaaDoor
/- Regions that draw their order, some of whose operations write: one walk of the order of the text serves all orders, where each operation has one value, and what it does to the world is told by which operations are done. Of no program. -/
namespace Go.Proofs.YteinppjklhomnaaDoor
open Go.RowKit Go.ChangeShapes Go.WideShapes
namespace Mix
/-- What an operation that was carried out has left: its value, and a world of the class. -/
def upon (P : Program) (C : World → Prop) (v : Value) : Result Next → Prop
  | .ok (.value u) w' => C w' ∧ u = v
  | .ok .skip w' => C w' ∧ v = undef
  | .ok (.enter f args) w' => Calls P f args w' (fun e w'' => e = .returned v ∧ C w'')
  | _ => False
section
variable (P : Program) (ops : Array Oper) (CL : Array Bool → World → Prop)
/-- Operation i has the value v, whichever of the others are done that it need not wait for. -/
def Gives (i : Nat) (o : Oper) (v : Value) (a : Act) : Prop :=
  (Region.wanted o (yielded ops a.tmps) = true ∧ ∀ L w, L.size = ops.size → i ∈ Region.ready .any ops L → CL L w → upon P (CL (L.setIfInBounds i true)) v ((execOp a.eval o).run P w)) ∨
  (Region.wanted o (yielded ops a.tmps) = false ∧ v = undef ∧ ∀ L w, L.size = ops.size → i ∈ Region.ready .any ops L → CL L w → CL (L.setIfInBounds i true) w)
def At (i : Nat) (K : Act → Prop) (a : Act) : Prop := ∃ o v, ops[i]? = some o ∧ Gives P ops CL i o v a ∧ K (a.put o.dst v)
def Any (Q : Act → Prop) : Nat → Array Bool → Act → Prop
  | 0, L, a => Region.ready .any ops L = [] ∧ Q a
  | f + 1, L, a => (Region.ready .any ops L = [] → Q a) ∧ ∀ i ∈ Region.ready .any ops L, At P ops CL i (Any Q f (L.setIfInBounds i true)) a
def Walk (Q : Act → Prop) : List Oper → Nat → Act → Prop
  | [], _, a => Q a
  | o :: rest, k, a => ∃ v, Gives P ops CL k o v a ∧ Walk Q rest (k + 1) (a.put o.dst v)
end
section
variable {P : Program} {ops : Array Oper} {CL : Array Bool → World → Prop}
theorem At.mono {i : Nat} {K K' : Act → Prop} {a : Act} (h : ∀ a, K a → K' a) (hh : At P ops CL i K a) : At P ops CL i K' a := by
  obtain ⟨o, v, ho, hy, hk⟩ := hh
  exact ⟨o, v, ho, hy, h _ hk⟩
theorem Gives.same {i : Nat} {o : Oper} {v : Value} {a a' : Act} (h : Gives P ops CL i o v a) (he : execOp a'.eval o = execOp a.eval o) (hw : Region.wanted o (yielded ops a'.tmps) = Region.wanted o (yielded ops a.tmps)) : Gives P ops CL i o v a' := by
  unfold Gives at *
  rw [he, hw]
  exact h
theorem wpOp_of {i : Nat} {L : Array Bool} {a : Act} {w : World} {K : Act → Prop} {K' : Act → World → Prop} {Q' : Exit → Act → World → Prop} (hL : L.size = ops.size) (hr : i ∈ Region.ready .any ops L) (hC : CL L w)
    (h : ∀ a w', CL (L.setIfInBounds i true) w' → K a → K' a w') (hh : At P ops CL i K a) : wpOp P ops Q' i K' a w := by
  obtain ⟨o, v, ho, hy, hk⟩ := hh
  unfold wpOp
  simp only [ho]
  rcases hy with ⟨hw, hv⟩ | ⟨hw, rfl, hv⟩
  · rw [if_pos hw]
    refine .inl ?_
    have h3 := hv L w hL hr hC
    unfold Oper.wp
    generalize (execOp a.eval o).run P w = r at *
    cases r with
    | halt x w' => exact h3.elim
    | ok n w' =>
      cases n <;> simp only [upon] at h3 <;> simp only [Oper.upon]
      case value u =>
        obtain ⟨h4, rfl⟩ := h3
        exact h _ _ h4 hk
      case skip =>
        obtain ⟨h4, rfl⟩ := h3
        exact h _ _ h4 hk
      case enter f args =>
        exact h3.mono fun e w'' ⟨he, hw''⟩ => by subst he; exact h _ _ hw'' hk
  · rw [if_neg (by rw [hw]; exact Bool.false_ne_true)]
    exact h _ _ (hv L w hL hr hC) hk
theorem any_sound {Q : Act → Prop} {Q' : Exit → Act → World → Prop} (hQ : ∀ L a w, L.size = ops.size → Region.ready .any ops L = [] → CL L w → Q a → Q' .normal a w) :
    ∀ (f : Nat) (L : Array Bool) (a : Act) (w : World), L.size = ops.size → CL L w → Any P ops CL Q f L a → wpAny P .any ops Q' f L a w := by
  intro f
  induction f with
  | zero => exact fun L a w hs hC h => ⟨h.1, hQ L a w hs h.1 hC h.2⟩
  | succ f ih =>
    exact fun L a w hs hC h => ⟨fun h0 => hQ L a w hs h0 hC (h.1 h0), fun i hi => wpOp_of hs hi hC (fun a' w' hC' hK => ih _ a' w' (by simpa using hs) hC' hK) (h.2 i hi)⟩
/-- Operation i, taken ahead of j, which it has nothing to do with. -/
theorem At.swap {i j : Nat} {oi oj : Oper} {v : Value} {K : Act → Prop} {a : Act} (hj : ops[j]? = some oj) (hap : oi.apart ops oj = true) (hsi : ∀ cs b, oi.op ≠ .select cs b) (hsj : ∀ cs b, oj.op ≠ .select cs b)
    (hy : Gives P ops CL i oi v a) (h : At P ops CL j K (a.put oi.dst v)) : At P ops CL j (fun a' => Gives P ops CL i oi v a' ∧ K (a'.put oi.dst v)) a := by
  obtain ⟨p1, p2, p3⟩ := Oper.apart_spec hap
  obtain ⟨o, u, ho, hg, hk⟩ := h
  obtain rfl : o = oj := Option.some.inj (ho.symm.trans hj)
  refine ⟨o, u, ho, hg.same (execOp_put o hsj a oi.dst v p1).symm (wanted_put o a oi.dst v p1).symm, ?_, ?_⟩
  · exact hy.same (execOp_put oi hsi a o.dst u p3) (wanted_put oi a o.dst u p3)
  · rw [← Act.put_comm a v u p2]
    exact hk
theorem Any.first {Q : Act → Prop} {i : Nat} {oi : Oper} {v : Value} (hi : ops[i]? = some oi) (hsel : ∀ (j : Nat) (o : Oper) cs b, ops[j]? = some o → o.op ≠ .select cs b) :
    ∀ (f : Nat) (L : Array Bool) (a : Act),
      (∀ j oj, ops[j]? = some oj → j ≠ i → L.getD j true = false → (∀ e ∈ oj.after, Region.binds .any e = true → e.on ≠ i) → oi.apart ops oj = true) →
      i ∈ Region.ready .any ops L → Gives P ops CL i oi v a → Any P ops CL Q f (L.setIfInBounds i true) (a.put oi.dst v) → Any P ops CL Q (f + 1) L a := by
  intro f
  induction f with
  | zero =>
    intro L a _ hr hy H
    refine ⟨fun h => (by rw [h] at hr; cases hr), fun j hj => ?_⟩
    rcases Nat.decEq j i with hji | hji
    · have := ready_mono hj hji
      rw [H.1] at this
      cases this
    · subst hji
      exact ⟨oi, v, hi, hy, H⟩
  | succ f ih =>
    intro L a hfree hr hy H
    refine ⟨fun h => (by rw [h] at hr; cases hr), fun j hj => ?_⟩
    rcases Nat.decEq j i with hji | hji
    · obtain ⟨hun, oj, hoj, hall⟩ := mem_ready.1 hj
      obtain ⟨hiu, _⟩ := mem_ready.1 hr
      have hno : ∀ e ∈ oj.after, Region.binds .any e = true → e.on ≠ i := by
        intro e he hb heq
        have h1 := hall e he hb
        rw [heq] at h1
        rcases Nat.lt_or_ge i L.size with h' | h'
        · simp [h'] at hiu h1
          rw [hiu] at h1
          cases h1
        · simp [Array.getElem?_eq_none h'] at h1
      have h2 := At.swap hoj (hfree j oj hoj hji hun hno) (fun cs b => hsel i oi cs b hi) (fun cs b => hsel j oj cs b hoj) hy (H.2 j (ready_mono hj hji))
      refine h2.mono fun a' h3 => ih (L.setIfInBounds j true) a' (fun k ok hk hki hu hn => ?_) (ready_mono hr (Ne.symm hji)) h3.1 ?_
      · refine hfree k ok hk hki ?_ hn
        by_cases hjk : j = k
        · subst hjk; exact hun
        · rw [getD_set_ne true hjk] at hu; exact hu
      · rw [Array.setIfInBounds_comm _ _ hji]
        exact h3.2
    · subst hji
      exact ⟨oi, v, hi, hy, H⟩
theorem Any.lex {Q : Act → Prop} (hs : Region.noSelect ops = true) : ∀ (l : List Oper) (k : Nat) (L : Array Bool) (a : Act), (∀ j, l[j]? = ops[k + j]?) →
    Region.lexFrom .any ops l.length k L = true → Walk P ops CL Q l k a → Any P ops CL Q l.length L a := by
  intro l
  induction l with
  | nil => exact fun k L a _ hB h => ⟨by simpa [Region.lexFrom] using hB, h⟩
  | cons o l ih =>
    intro k L a hl hB h
    have h0 : ops[k]? = some o := by simpa using (hl 0).symm
    simp only [List.length_cons, Region.lexFrom, Bool.and_eq_true] at hB
    obtain ⟨⟨hr, hf⟩, hB'⟩ := hB
    obtain ⟨v, hy, hK⟩ := h
    exact Any.first h0 (Region.noSelect_spec hs) l.length L a (Region.free_spec h0 hf) (by simpa using hr) hy
      (ih (k + 1) _ _ (fun j => by have := hl (j + 1); simpa [Nat.add_assoc, Nat.add_comm 1 j] using this) hB' hK)
end
theorem all_listed {l : List Oper} {L : Array Bool} (hlow : lowB (l ++ [default]) l.length = true) (hs : L.size = l.length) (h : Region.ready .any l.toArray L = []) : L = Array.replicate l.length true := by
  have h0 : ∀ i, i < l.length → L.getD i true = true := by
    intro i
    induction i using Nat.strongRecOn with
    | _ i ih =>
      intro hi
      cases hl : L.getD i true with
      | true => rfl
      | false =>
        exfalso
        have ho : l[i]? = some l[i] := List.getElem?_eq_getElem hi
        have ho' : (l ++ [default])[i]? = some l[i] := by rw [List.getElem?_append_left hi]; exact ho
        have hm : i ∈ Region.ready .any l.toArray L := by
          refine mem_ready.2 ⟨hl, l[i], by simp, fun e he hb => ?_⟩
          have hlt := (low_at hlow hi ho').1 e he hb
          have := ih e.on hlt (by omega)
          rw [getD_any (by omega)]
          exact this
        rw [h] at hm
        cases hm
  apply Array.ext
  · simp [hs]
  · intro i h1 h2
    have := h0 i (by omega)
    rw [Array.getD_eq_getD_getElem?, Array.getElem?_eq_getElem h1] at this
    simpa using this
/-- A REGION WHOSE OPERATIONS MAY WRITE, WALKED ONCE. -/
theorem region {P : Program} {id : Nat} {Q : Exit → Act → World → Prop} {a : Act} {w : World} {l : List Oper} (CL : Array Bool → World → Prop) (hm : P.follows .mixedOrders = true) (hB : Region.lexB .any l.toArray = true) (hlow : lowB (l ++ [default]) l.length = true)
    (hC : CL (Array.replicate l.length false) { w with drawn := w.drawn + 1 }) (h : Walk P l.toArray CL (fun a' => ∀ w', CL (Array.replicate l.length true) w' → Q .normal a' w') l 0 a) : (Code.region id l.toArray true).wp P Q a w := by
  simp only [Region.lexB, Bool.and_eq_true] at hB
  refine wp_region_any hm ?_
  have := Any.lex (CL := CL) hB.1 l 0 (Array.replicate l.toArray.size false) a (by simp) (by simpa using hB.2) h
  refine any_sound (Q := fun a' => ∀ w', CL (Array.replicate l.length true) w' → Q .normal a' w') (fun L a' w' hs hr hC' hq => ?_) _ _ _ _ (by simp) (by simpa using hC) (by simpa using this)
  rw [all_listed hlow (by simpa using hs) hr] at hC'
  exact hq w' hC'
section
variable {P : Program} {ops : Array Oper} {CL : Array Bool → World → Prop} {Q : Act → Prop}
theorem walk_nil {k : Nat} {a : Act} (h : Q a) : Walk P ops CL Q [] k a := h
theorem walk_skip {k : Nat} {a : Act} {o : Oper} {rest : List Oper} (hw : Region.wanted o (yielded ops a.tmps) = false) (hk : ∀ L w, CL L w → CL (L.setIfInBounds k true) w) (h : Walk P ops CL Q rest (k + 1) (a.put o.dst undef)) : Walk P ops CL Q (o :: rest) k a :=
  ⟨undef, .inr ⟨hw, rfl, fun L w _ _ hC => hk L w hC⟩, h⟩
theorem walk_do {k : Nat} {a : Act} {o : Oper} {rest : List Oper} (v : Value) (hw : Region.wanted o (yielded ops a.tmps) = true)
    (hv : ∀ L w, L.size = ops.size → k ∈ Region.ready .any ops L → CL L w → upon P (CL (L.setIfInBounds k true)) v ((execOp a.eval o).run P w)) (h : Walk P ops CL Q rest (k + 1) (a.put o.dst v)) : Walk P ops CL Q (o :: rest) k a :=
  ⟨v, .inl ⟨hw, hv⟩, h⟩
/-- May this operation do more than read and reckon? -/
def calls (o : Oper) : Bool := match o.op with | .move _ | .assign _ | .load _ _ | .binOp _ _ _ _ _ | .unOp _ _ _ | .convert _ _ _ | .slice _ _ _ _ _ | .fieldAddr _ _ _ | .field _ _ _ | .indexAddr _ _ _ | .index _ _ _ | .extract _ _ | .build _ _ | .makeInterface _ _ | .pick _ _ _ => false | _ => true
theorem value_run {α : Type} (s : Sem α) (g : α → Value) {w w' : World} {f : FuncId} {args : Array Value} : (s >>= fun x => (pure (Next.value (g x)) : Sem Next)).run P w ≠ .ok (.enter f args) w' := by
  rw [Sem.run_bind]
  cases s.run P w with
  | ok x w1 => simp [Result.andThen, Sem.run_pure]
  | halt x w1 => simp [Result.andThen]
theorem not_enter {o : Oper} {ρ : Operand → Value} {w w' : World} {f : FuncId} {args : Array Value} (h : calls o = false) : (execOp ρ o).run P w ≠ .ok (.enter f args) w' := by
  unfold calls at h
  unfold execOp
  split at h
  case h_16 => cases h
  all_goals
    rename_i ho
    simp only [ho]
    first
      | exact value_run _ (fun x => x)
      | exact value_run (asBool _) (fun x => if x = true then ρ _ else ρ _)
      | (rw [Sem.run_pure]; intro h; cases h)
/-- A world of the class, whichever operations are done. -/
structure Spot (CL : Array Bool → World → Prop) where
  listed : Array Bool
  tz9 : World
  ok : CL listed tz9
def Spot.wld (s : Spot CL) : World := s.tz9
theorem walk_one {k : Nat} {a : Act} {o : Oper} {rest : List Oper} (hc : calls o = false) (hk : ∀ L w, CL L w → CL (L.setIfInBounds k true) w)
    (h : wpQuiet P ops (fun w => ∃ s : Spot CL, w = s.wld) (fun a' => Walk P ops CL Q rest (k + 1) a') [o] a) : Walk P ops CL Q (o :: rest) k a := by
  unfold wpQuiet at h
  split at h
  · rename_i hw
    obtain ⟨v, h1, h2⟩ := h
    refine ⟨v, .inl ⟨hw, fun L w _ _ hC => ?_⟩, h2⟩
    have h3 := h1 w ⟨⟨L, w, hC⟩, rfl⟩
    unfold Oper.quietAt at h3
    have hne := fun f args w' => not_enter (P := P) (ρ := a.eval) (w := w) (w' := w') (f := f) (args := args) hc
    generalize (execOp a.eval o).run P w = r at *
    cases r with
    | halt x w' => exact h3.elim
    | ok n w' =>
      cases n <;> simp only [Oper.quietUpon] at h3 <;> simp only [upon]
      case value u => exact ⟨by rw [h3.1]; exact hk _ _ hC, h3.2⟩
      case skip => exact ⟨by rw [h3.1]; exact hk _ _ hC, h3.2⟩
      case enter f args => exact absurd rfl (hne f args w')
  · rename_i hw
    exact ⟨undef, .inr ⟨by simpa using hw, rfl, fun L w _ _ hC => hk L w hC⟩, h⟩
theorem walk_run (m : Nat) : ∀ {l : List Oper} {k : Nat} {a : Act}, ((l.take m).all fun o => !calls o) = true → (∀ i L w, k ≤ i → i < k + m → CL L w → CL (L.setIfInBounds i true) w) →
    wpQuiet P ops (fun w => ∃ s : Spot CL, w = s.wld) (fun a' => Walk P ops CL Q (l.drop m) (k + m) a') (l.take m) a → Walk P ops CL Q l k a := by
  induction m with
  | zero => intro l k a _ _ h; simpa [wpQuiet] using h
  | succ m ih =>
    intro l k a hc hk h
    cases l with
    | nil =>
      have h : Walk P ops CL Q [] (k + (m + 1)) a := by simpa [wpQuiet] using h
      exact h
    | cons o l =>
      simp only [List.take_succ_cons, List.all_cons, Bool.and_eq_true, Bool.not_eq_true'] at hc
      refine walk_one hc.1 (fun L w hC => hk k L w (Nat.le_refl _) (by omega) hC) ?_
      have ih' := fun a' => ih (l := l) (k := k + 1) (a := a') hc.2 (fun i L w h1 h2 => hk i L w (by omega) (by omega))
      simp only [List.take_succ_cons, List.drop_succ_cons, show k + (m + 1) = k + 1 + m by omega] at h
      unfold wpQuiet at h ⊢
      split
      · rename_i hw
        rw [if_pos hw] at h
        exact Oper.quiet_mono (fun a' h' => ih' a' h') h
      · rename_i hw
        rw [if_neg hw] at h
        exact ih' _ h
end
theorem put_lit (l : List Value) (d : List Deferred) (n : Nat) (v : Value) : (Act.mk l.toArray d).put (some n) v = ⟨(l.set n v).toArray, d⟩ := by
  unfold Act.put
  simp
/-- Is operation i done? As a number. -/
def one (L : Array Bool) (i : Nat) : Nat := if L.getD i false = true then 1 else 0
theorem one_ne {L : Array Bool} {i j : Nat} (h : i ≠ j) : one (L.setIfInBounds i true) j = one L j := by
  unfold one
  rw [getD_set_ne false h]
theorem one_set {L : Array Bool} {i : Nat} (h : i < L.size) : one (L.setIfInBounds i true) i = 1 := by
  unfold one
  rw [Array.getD_eq_getD_getElem?, Array.getElem?_setIfInBounds_self_of_lt h]
  rfl
theorem one_ready {P : Array Oper} {L : Array Bool} {i : Nat} (h : i ∈ Region.ready .any P L) : one L i = 0 := by
  unfold one
  have h0 := (mem_ready.1 h).1
  rcases Nat.lt_or_ge i L.size with h' | h'
  · rw [getD_any h', h0]; rfl
  · rw [Array.getD_eq_getD_getElem?, Array.getElem?_eq_none h'] at h0
    cases h0
theorem one_un {L : Array Bool} {i : Nat} (h : L.getD i false = false) : one L i = 0 := by
  unfold one
  rw [h]; rfl
theorem one_none (n i : Nat) : one (Array.replicate n false) i = 0 := by
  unfold one
  rw [getD_replicate_false]
  rfl
theorem one_all {n i : Nat} (h : i < n) : one (Array.replicate n true) i = 1 := by
  unfold one
  rw [Array.getD_eq_getD_getElem?, Array.getElem?_replicate, if_pos h]
  rfl
end Mix
end Go.Proofs.YteinppjklhomnaaDoor
/- A struct in a block of its own: what its cells hold, that they may be written; what turns nothing but it. Of no program. -/
namespace Go.Proofs.YteinppjklhomnaaDoor
open Go.RowKit

/-- Block g holds the cells C, all of which may be written. -/
def Has (w : World) (g : Nat) (C : List Value) (t : TypeId) : Prop := w.heap[g]? = some (.cells C.toArray t (0, 0))
theorem Has.lt {w : World} {g : Nat} {C : List Value} {t : TypeId} (h : Has w g C t) : g < w.heap.size := (Array.getElem?_eq_some_iff.1 h).1
theorem Has.cell {w : World} {g : Nat} {C : List Value} {t : TypeId} (h : Has w g C t) (i : Nat) (v : Value) (hv : C[i]? = some v) : w.cell? ⟨g, i, none⟩ = some v := by
  rw [cell_of_row w g i C.toArray t (0, 0) h]; simpa using hv
theorem Has.free {w : World} {g : Nat} {C : List Value} {t : TypeId} (h : Has w g C t) (i : Nat) : w.frozen? ⟨g, i, none⟩ = false := frozen_of_row w g i C.toArray t h
theorem Has.new (w : World) (C : List Value) (t : TypeId) : Has (w.alloc (.cells C.toArray t)) w.heap.size C t := heap_alloc_new w _
theorem Has.set {w : World} {g : Nat} {C : List Value} {t : TypeId} (h : Has w g C t) (i : Nat) (v : Value) : Has (w.setCell ⟨g, i, none⟩ v) g (C.set i v) t := by
  have := heap_setCell_same w g i C.toArray t v h
  unfold Has
  rw [this]
  simp
theorem Has.setOther {w : World} {g : Nat} {C : List Value} {t : TypeId} (h : Has w g C t) (a : Addr) (v : Value) (hne : g ≠ a.block) : Has (w.setCell a v) g C t := by
  unfold Has
  rw [heap_setCell_other w a g v hne]; exact h
theorem Has.alloc {w : World} {g : Nat} {C : List Value} {t : TypeId} (h : Has w g C t) (o : Obj) : Has (w.alloc o) g C t := by
  have hl := h.lt
  unfold Has World.alloc at *
  simp only
  rw [Array.getElem?_push_lt hl, ← Array.getElem?_eq_getElem hl]
  exact h
theorem Has.drewN {w : World} {g : Nat} {C : List Value} {t : TypeId} (h : Has w g C t) (n : Nat) : Has (w.drewN n) g C t := h
theorem Has.below {w w' : World} {g B : Nat} {C : List Value} {t : TypeId} (h : Has w g C t) (hb : Below B w w') (hg : g < B) : Has w' g C t := (hb.block g hg).trans h

/-- Below block B nothing but block g has turned. -/
structure But (g B : Nat) (w w' : World) : Prop where
  os : w'.os = w.os
  tape : w'.tape = w.tape
  output : w'.output = w.output
  size : w.heap.size ≤ w'.heap.size
  block : ∀ k, k < B → k ≠ g → w'.heap[k]? = w.heap[k]?
theorem But.refl (g B : Nat) (w : World) : But g B w w := ⟨rfl, rfl, rfl, Nat.le_refl _, fun _ _ _ => rfl⟩
theorem But.trans {g B : Nat} {a b c : World} (h : But g B a b) (k : But g B b c) : But g B a c :=
  ⟨k.os.trans h.os, k.tape.trans h.tape, k.output.trans h.output, Nat.le_trans h.size k.size, fun i hi hn => (k.block i hi hn).trans (h.block i hi hn)⟩
theorem But.ofBelow {g B : Nat} {w w' : World} (h : Below B w w') : But g B w w' := ⟨h.os, h.tape, h.output, h.size, fun k hk _ => h.block k hk⟩
theorem But.mono {g B B' : Nat} {w w' : World} (h : But g B w w') (hb : B' ≤ B) : But g B' w w' := ⟨h.os, h.tape, h.output, h.size, fun k hk hn => h.block k (by omega) hn⟩
theorem But.below {g B B' : Nat} {w w' : World} (h : But g B w w') (hb : B' ≤ B) (hg : B' ≤ g) : Below B' w w' := ⟨h.os, h.tape, h.output, h.size, fun k hk => h.block k (by omega) (by omega)⟩
theorem But.set {g B : Nat} {w w' : World} (h : But g B w w') (i : Nat) (v : Value) : But g B w (w'.setCell ⟨g, i, none⟩ v) :=
  ⟨h.os, h.tape, h.output, by rw [World.size_setCell]; exact h.size, fun k hk hn => by rw [heap_setCell_other w' ⟨g, i, none⟩ k v hn]; exact h.block k hk hn⟩
theorem But.alloc {g B : Nat} {w w' : World} (h : But g B w w') (hB : B ≤ w.heap.size) (o : Obj) : But g B w (w'.alloc o) := by
  have := h.size
  exact h.trans (.ofBelow ((Below.refl B w').alloc (by omega) o))
theorem But.drewN {g B : Nat} {w w' : World} (h : But g B w w') (n : Nat) : But g B w (w'.drewN n) := ⟨h.os, h.tape, h.output, h.size, h.block⟩
theorem Has.but {w w' : World} {g g' B : Nat} {C : List Value} {t : TypeId} (h : Has w g C t) (hb : But g' B w w') (hg : g < B) (hn : g ≠ g') : Has w' g C t := (hb.block g hg hn).trans h
theorem own_but {w w' : World} {g B e size : Nat} {v : Value} {n : Nat} {xs : List Value} (h : w.ownsRow B e size v n xs) (hb : But g w.heap.size w w') (hg : g < B) : w'.ownsRow B e size v n xs := by
  refine ⟨h.1, ?_⟩
  rcases h.2 with hn | ⟨r, cap, cur, rfl, hB, hr, rest⟩
  · exact .inl hn
  · exact .inr ⟨r, cap, cur, rfl, hB, (hb.block r (Array.getElem?_eq_some_iff.1 hr).1 (by omega)).trans hr, rest⟩
theorem zero3 (w : World) (g : Nat) (x y z : Value) : But g w.heap.size w (((w.setCell ⟨g, 0, none⟩ x).setCell ⟨g, 1, none⟩ y).setCell ⟨g, 2, none⟩ z) :=
  (((But.refl _ _ _).set 0 _).set 1 _).set 2 _
end Go.Proofs.YteinppjklhomnaaDoor
/- An append leaves the elder row's own cells as they were: in place it writes behind them, else it makes a new block. Of no program. -/
namespace Go.Proofs.YteinppjklhomnaaDoor
open Go.RowKit Go.ChangeShapes Go.WideShapes
theorem ownsRow_head {w : World} {base : Nat} {e : TypeId} {size g cap n m : Nat} {xs ys : List Value} (h : w.ownsRow base e size (.slice (some ⟨g, 0, none⟩) (n + m) cap) (n + m) (xs ++ ys)) (hx : xs.length = n * size) :
    w.ownsRow base e size (.slice (some ⟨g, 0, none⟩) n cap) n xs := by
  rcases h.2 with ⟨h', _⟩ | ⟨g', cap', cur, h', hb, hg, hnc, hcm, hcs, ht⟩
  · simp at h'
  · simp only [Value.slice.injEq, Option.some.injEq, Addr.mk.injEq, and_true, true_and] at h'
    obtain ⟨rfl, rfl⟩ := h'
    refine ⟨hx, .inr ⟨g, cap, cur, rfl, hb, hg, by omega, hcm, hcs, ?_⟩⟩
    have h2 := congrArg (List.take (n * size)) ht
    rw [List.take_take, Nat.min_eq_left (Nat.mul_le_mul_right _ (by omega)), ← hx, List.take_left] at h2
    rw [← hx]
    exact h2
theorem run_append_keep {P : Program} (w : World) (base : Nat) (t ty e : TypeId) (i : TypeInfo) (z : Value) (size bytes : Nat) (ht : P.underlying t = some (.slice e)) (hi : P.info? e = some i) (hz : i.zero = some z)
    (hsize : i.size = size) (hby : i.bytes = bytes) (hzs : z.cells.size = size) (hsz : 0 < size)
    (v : Value) (n : Nat) (xs : List Value) (hown : w.ownsRow base e size v n xs)
    (a : Addr) (m c : Nat) (news : List Value) (hl : news.length = m * size) (hnews : ∀ j u, news[j]? = some u → w.cell? (a.add j) = some u) (h1 : ∀ u ∈ news, u.oneCell' = true)
    (h63 : n + m ≤ maxLen) (hbytes : (n + m) * bytes ≤ 140737488355328) (hbase : base ≤ w.heap.size) :
    ∃ v' w', (Builtin.append_ #[t, t] ty #[v, .slice (some a) m c]).run P w = .ok v' w' ∧ w'.ownsRow base e size v' (n + m) (xs ++ news) ∧ w.grownBy w' v.ownBlock ∧ w'.ownsRow base e size v n xs ∧
      ((∀ g, g < w.heap.size → w'.heap[g]? = w.heap[g]?) ∨ ∃ g cap, v = .slice (some ⟨g, 0, none⟩) n cap ∧ v' = .slice (some ⟨g, 0, none⟩) (n + m) cap) := by
  have hsmall : n + m ≤ 9223372036854775807 := by simp only [maxLen] at h63; omega
  obtain ⟨v', w', hr, h2, h3, _⟩ := run_append_own (P := P) w base t ty e i z size bytes ht hi hz hsize hby hzs hsz v n xs hown a m c news hl hnews h1 h63 hbytes hbase
  rcases hown.2 with ⟨rfl, rfl⟩ | ⟨g, cap, cur, rfl, hb, hg, hnc, hcm, hcs, htk⟩
  · have hx : xs = [] := List.eq_nil_of_length_eq_zero (by simpa using hown.1)
    subst hx
    exact ⟨v', w', hr, h2, h3, World.ownsRow_nil _ _ _ _, .inl fun g hg => h3.block g hg (by simp [Value.ownBlock])⟩
  · by_cases hroom : n + m ≤ cap
    · obtain ⟨w2, hr2, h4, h5⟩ := run_append_fits (P := P) w base t ty e i size ht hi hsize g n cap xs hown a m c news hl hnews h1 hroom
      rw [hr2] at hr
      cases hr
      exact ⟨_, _, hr2, h4, h3, ownsRow_head h4 hown.1, .inr ⟨g, cap, rfl, rfl⟩⟩
    · subst hsize
      subst hby
      have hr2 := run_append_grow (P := P) w t ty e i z ht hi hz ⟨g, 0, none⟩ n cap xs hown.1 (hown.cells (g := g) rfl) a m c news hl hnews (by omega) (by omega) (growslice_fits (by omega) hbytes)
      rw [hr2] at hr
      cases hr
      have hold : ∀ k, k < w.heap.size → (w.drew.alloc (.cells (xs.toArray ++ news.toArray ++ Builtin.zeroCells z.cells (grownCap w (n + m) cap e - (n + m))) e)).heap[k]? = w.heap[k]? := fun k hk => by
        show (w.heap.push _)[k]? = _
        rw [Array.getElem?_push, if_neg (by omega)]
      refine ⟨_, _, hr2, h2, h3, ⟨hown.1, .inr ⟨g, cap, cur, rfl, hb, ?_, hnc, hcm, hcs, htk⟩⟩, .inl hold⟩
      rw [hold g (Array.getElem?_eq_some_iff.1 hg).1]
      exact hg
theorem ownsRow_same {w w' : World} {base : Nat} {e : TypeId} {size : Nat} {v : Value} {n : Nat} {xs : List Value} (h : w.ownsRow base e size v n xs) (hk : ∀ g, v.ownBlock = some g → w'.heap[g]? = w.heap[g]?) : w'.ownsRow base e size v n xs := by
  refine ⟨h.1, ?_⟩
  rcases h.2 with h | ⟨g, cap, cur, rfl, hb, hg, h1⟩
  · exact .inl h
  · exact .inr ⟨g, cap, cur, rfl, hb, (hk g rfl).trans hg, h1⟩
/-- What an append leaves: each row of its own whose cells are a head of the new row's; and a full row that holds what was appended. -/
def Kept (w w' : World) (base : Nat) (e : TypeId) (size : Nat) (D C : List Value) (m : Nat) : Prop :=
  (∀ v n xs, w.ownsRow base e size v n xs → xs <+: D → w'.ownsRow base e size v n xs) ∧ ∀ g, w.ownsRow base e size (.slice (some ⟨g, 0, none⟩) m m) m C → w'.ownsRow base e size (.slice (some ⟨g, 0, none⟩) m m) m C
theorem Kept.refl (w : World) (base : Nat) (e : TypeId) (size : Nat) (D C : List Value) (m : Nat) : Kept w w base e size D C m := ⟨fun _ _ _ h _ => h, fun _ h => h⟩
theorem Kept.below {w w' : World} (hb : Below w.heap.size w w') (base : Nat) (e : TypeId) (size : Nat) (D C : List Value) (m : Nat) : Kept w w' base e size D C m := ⟨fun _ _ _ h _ => ownsRow_below h hb, fun _ h => ownsRow_below h hb⟩
theorem run_append_kept {P : Program} (w : World) (base : Nat) (t ty e : TypeId) (i : TypeInfo) (z : Value) (size bytes : Nat) (ht : P.underlying t = some (.slice e)) (hi : P.info? e = some i) (hz : i.zero = some z)
    (hsize : i.size = size) (hby : i.bytes = bytes) (hzs : z.cells.size = size) (hsz : 0 < size)
    (v : Value) (n : Nat) (xs : List Value) (hown : w.ownsRow base e size v n xs)
    (a : Addr) (m c : Nat) (news : List Value) (hl : news.length = m * size) (hnews : ∀ j u, news[j]? = some u → w.cell? (a.add j) = some u) (h1 : ∀ u ∈ news, u.oneCell' = true)
    (h63 : n + m ≤ maxLen) (hbytes : (n + m) * bytes ≤ 140737488355328) (hbase : base ≤ w.heap.size) :
    ∃ v' w', (Builtin.append_ #[t, t] ty #[v, .slice (some a) m c]).run P w = .ok v' w' ∧ w'.ownsRow base e size v' (n + m) (xs ++ news) ∧ w.grownBy w' v.ownBlock ∧ Kept w w' base e size (xs ++ news) news m := by
  obtain ⟨v', w', hr, h2, h3, _, h5⟩ := run_append_keep w base t ty e i z size bytes ht hi hz hsize hby hzs hsz v n xs hown a m c news hl hnews h1 h63 hbytes hbase
  refine ⟨v', w', hr, h2, h3, ?_⟩
  have lt : ∀ {u : Value} {k : Nat} {ys : List Value}, w.ownsRow base e size u k ys → ∀ g, u.ownBlock = some g → g < w.heap.size := fun h g hg => (h.lt g hg).2
  have K1 : ∀ u k ys, w.ownsRow base e size u k ys → ys <+: xs ++ news → w'.ownsRow base e size u k ys := by
    intro u k ys hu hp
    rcases h5 with h5 | ⟨g, cap, rfl, rfl⟩
    · exact ownsRow_same hu fun g hg => h5 g (lt hu g hg)
    · by_cases hg : u.ownBlock = some g
      · rcases hu.2 with ⟨rfl, _⟩ | ⟨g2, cap2, cur2, rfl, hb2, hg2, hn2, hm2, hc2, ht2⟩
        · simp [Value.ownBlock] at hg
        · obtain rfl : g2 = g := by simpa [Value.ownBlock] using hg
          rcases hown.2 with ⟨h', _⟩ | ⟨g1, cap1, cur1, h', hb1, hg1, hn1, hm1, hc1, ht1⟩
          · simp at h'
          · simp only [Value.slice.injEq, Option.some.injEq, Addr.mk.injEq, and_true, true_and] at h'
            obtain ⟨rfl, rfl⟩ := h'
            rw [hg1] at hg2
            cases hg2
            have hcap : cap2 = cap := Nat.eq_of_mul_eq_mul_right hsz (by omega)
            subst hcap
            rcases h2.2 with ⟨h', _⟩ | ⟨g3, cap3, cur3, h', hb3, hg3, hn3, hm3, hc3, ht3⟩
            · simp at h'
            · simp only [Value.slice.injEq, Option.some.injEq, Addr.mk.injEq, and_true, true_and] at h'
              obtain ⟨rfl, rfl⟩ := h'
              refine ⟨hu.1, .inr ⟨_, _, cur3, rfl, hb3, hg3, hn2, hm2, hc3, ?_⟩⟩
              have hle : k * size ≤ (n + m) * size := by rw [← hu.1, ← h2.1]; exact hp.length_le
              have h6 := congrArg (List.take (k * size)) ht3
              rw [List.take_take, Nat.min_eq_left hle] at h6
              rw [h6, ← hu.1]
              exact (List.prefix_iff_eq_take.1 hp).symm
      · exact ownsRow_same hu fun g2 hg2 => h3.block g2 (lt hu g2 hg2) fun e => hg (by rw [hg2]; exact e)
  refine ⟨K1, fun g2 hu => ?_⟩
  rcases h5 with h5 | ⟨g, cap, rfl, rfl⟩
  · exact ownsRow_same hu fun g hg => h5 g (lt hu g hg)
  · by_cases hg : g2 = g
    · subst hg
      rcases hown.2 with ⟨h', _⟩ | ⟨g1, cap1, cur1, h', hb1, hg1, hn1, hm1, hc1, ht1⟩
      · simp at h'
      · simp only [Value.slice.injEq, Option.some.injEq, Addr.mk.injEq, and_true, true_and] at h'
        obtain ⟨rfl, rfl⟩ := h'
        rcases hu.2 with ⟨h', _⟩ | ⟨g3, cap3, cur3, h', hb3, hg3, hn3, hm3, hc3, ht3⟩
        · simp at h'
        · simp only [Value.slice.injEq, Option.some.injEq, Addr.mk.injEq, and_true, true_and] at h'
          obtain ⟨rfl, rfl⟩ := h'
          rw [hg1] at hg3
          cases hg3
          have hcap : m = cap := Nat.eq_of_mul_eq_mul_right hsz (by omega)
          subst hcap
          rcases h2.2 with ⟨h', _⟩ | ⟨g4, cap4, cur4, h', hb4, hg4, hn4, _⟩
          · simp at h'
          · simp only [Value.slice.injEq, Option.some.injEq, Addr.mk.injEq, and_true, true_and] at h'
            obtain ⟨rfl, rfl⟩ := h'
            have h0 : n = 0 := by omega
            subst h0
            have hx : xs = [] := List.eq_nil_of_length_eq_zero (by simpa using hown.1)
            subst hx
            exact K1 _ _ _ hu (List.prefix_refl _)
    · exact ownsRow_same hu fun g3 hg3 => h3.block g3 (lt hu g3 hg3) fun e => hg (by simp [Value.ownBlock] at hg3 e; omega)
end Go.Proofs.YteinppjklhomnaaDoor
/- Lists in memory, of whatever elements: how they lie, in which blocks; what keeps them. Of no program. -/
namespace Go.Proofs.YteinppjklhomnaaDoor
open Go.RowKit Go.ChangeShapes Go.WideShapes
/-- Blocks that data may lie in. -/
abbrev Zone := Nat → Prop
/-- What lies in the zone is as it was. -/
structure KeepZ (Z : Zone) (w w' : World) : Prop where
  size : w.heap.size ≤ w'.heap.size
  block : ∀ b, b < w.heap.size → Z b → w'.heap[b]? = w.heap[b]?
theorem KeepZ.refl (Z : Zone) (w : World) : KeepZ Z w w := ⟨Nat.le_refl _, fun _ _ _ => rfl⟩
theorem KeepZ.trans {Z : Zone} {a b c : World} (h : KeepZ Z a b) (k : KeepZ Z b c) : KeepZ Z a c :=
  ⟨Nat.le_trans h.size k.size, fun i hi hz => (k.block i (Nat.lt_of_lt_of_le hi h.size) hz).trans (h.block i hi hz)⟩
theorem KeepZ.mono {Z Y : Zone} {w w' : World} (h : KeepZ Z w w') (hz : ∀ b, b < w.heap.size → Y b → Z b) : KeepZ Y w w' := ⟨h.size, fun b hb hy => h.block b hb (hz b hb hy)⟩
theorem KeepZ.below {B : Nat} {w w' : World} (h : Below B w w') : KeepZ (fun b => b < B) w w' := ⟨h.size, fun b _ hz => h.block b hz⟩
theorem KeepZ.all {w w' : World} (h : Below w.heap.size w w') (Z : Zone) : KeepZ Z w w' := ⟨h.size, fun b hb _ => h.block b hb⟩
theorem KeepZ.grown {w w' : World} {row : Option Nat} (h : w.grownBy w' row) : KeepZ (fun b => row ≠ some b) w w' := ⟨h.size, fun b hb hz => h.block b hb (Ne.symm hz)⟩
theorem KeepZ.but {g : Nat} {w w' : World} (h : But g w.heap.size w w') : KeepZ (fun b => b ≠ g) w w' := ⟨h.size, fun b hb hz => h.block b hb hz⟩
theorem KeepZ.cell {Z : Zone} {w w' : World} (h : KeepZ Z w w') {b o : Nat} (hb : b < w.heap.size) (hz : Z b) : w'.cell? ⟨b, o, none⟩ = w.cell? ⟨b, o, none⟩ := World.cell?_of_block (a := ⟨b, o, none⟩) (h.block b hb hz)
theorem KeepZ.has {Z : Zone} {w w' : World} (h : KeepZ Z w w') {g : Nat} {C : List Value} {t : TypeId} (hg : Has w g C t) (hz : Z g) : Has w' g C t := (h.block g hg.lt hz).trans hg
theorem KeepZ.own {Z : Zone} {w w' : World} (h : KeepZ Z w w') {B e size n : Nat} {v : Value} {xs : List Value} (ho : w.ownsRow B e size v n xs) (hz : ∀ b, v.ownBlock = some b → Z b) : w'.ownsRow B e size v n xs := by
  refine ⟨ho.1, ?_⟩
  rcases ho.2 with hn | ⟨g, cap, cur, rfl, hB, hg, rest⟩
  · exact .inl hn
  · exact .inr ⟨g, cap, cur, rfl, hB, (h.block g (Array.getElem?_eq_some_iff.1 hg).1 (hz g rfl)).trans hg, rest⟩
/-- How an element of a list lies in its cells. -/
structure Elem (α : Type) where
  size : Nat
  zero : α
  rep : Zone → World → List Value → α → Prop
  len : ∀ {Z : Zone} {w : World} {C : List Value} {x : α}, rep Z w C x → C.length = size
  one : ∀ {Z : Zone} {w : World} {C : List Value} {x : α}, rep Z w C x → ∀ u ∈ C, u.oneCell' = true
  keep : ∀ {Z Y : Zone} {w w' : World} {C : List Value} {x : α}, KeepZ Z w w' → (∀ b, b < w.heap.size → Z b → Y b) → rep Z w C x → rep Y w' C x
/-- The slice value v holds the list L, all of whose memory lies in the zone. -/
def HeldE {α : Type} (E : Elem α) (Z : Zone) (w : World) (v : Value) (L : List α) : Prop :=
  ∃ ao cap, v = .slice ao L.length cap ∧ L.length ≤ cap ∧ cap ≤ maxLen ∧ (ao = none → L = [] ∧ cap = 0) ∧
    ∀ i, i < L.length → ∃ b off, ao = some ⟨b, off, none⟩ ∧ b < w.heap.size ∧ Z b ∧ ∃ C, (∀ j, j < E.size → w.cell? ⟨b, off + i * E.size + j, none⟩ = C[j]?) ∧ E.rep Z w C (L.getD i E.zero)
section
variable {α : Type} {E : Elem α} {Z Y : Zone} {w w' : World} {v u : Value} {L M : List α}
theorem HeldE.nil (E : Elem α) (Z : Zone) (w : World) : HeldE E Z w (.slice none 0 0) [] := ⟨none, 0, rfl, Nat.le_refl _, Nat.zero_le _, fun _ => ⟨rfl, rfl⟩, fun i hi => absurd hi (Nat.not_lt_zero _)⟩
theorem HeldE.keep (h : HeldE E Z w v L) (hk : KeepZ Z w w') (hy : ∀ b, b < w.heap.size → Z b → Y b) : HeldE E Y w' v L := by
  obtain ⟨ao, cap, rfl, hl, hm, hn, hc⟩ := h
  refine ⟨ao, cap, rfl, hl, hm, hn, fun i hi => ?_⟩
  obtain ⟨b, off, rfl, hb, hz, C, hC, hr⟩ := hc i hi
  exact ⟨b, off, rfl, Nat.lt_of_lt_of_le hb hk.size, hy b hb hz, C, fun j hj => (hk.cell hb hz).trans (hC j hj), E.keep hk hy hr⟩
theorem HeldE.kept (h : HeldE E Z w v L) (hk : KeepZ Z w w') : HeldE E Z w' v L := h.keep hk fun _ _ hz => hz
theorem HeldE.below (h : HeldE E Z w v L) (hb : Below w.heap.size w w') : HeldE E Z w' v L := h.kept (.all hb Z)
theorem HeldE.zone (h : HeldE E Z w v L) (hy : ∀ b, b < w.heap.size → Z b → Y b) : HeldE E Y w v L := h.keep (.refl _ _) hy
theorem HeldE.len (h : HeldE E Z w v L) : ∃ ao cap, v = .slice ao L.length cap := by
  obtain ⟨ao, cap, rfl, _⟩ := h
  exact ⟨ao, cap, rfl⟩
theorem HeldE.max (h : HeldE E Z w v L) : L.length ≤ 9223372036854775807 := by
  obtain ⟨ao, cap, rfl, hl, hm, _⟩ := h
  unfold maxLen at hm
  omega
theorem HeldE.spots {ao : Option Addr} {n cap : Nat} (h : HeldE E Z w (.slice ao n cap) L) : n = L.length ∧ n ≤ cap ∧ ∀ i, i < L.length → ∃ b off, ao = some ⟨b, off, none⟩ ∧ b < w.heap.size ∧ Z b ∧ ∃ C, (∀ j, j < E.size → w.cell? ⟨b, off + i * E.size + j, none⟩ = C[j]?) ∧ E.rep Z w C (L.getD i E.zero) := by
  obtain ⟨ao', cap', he, hl, _, _, hc⟩ := h
  cases he
  exact ⟨rfl, hl, hc⟩
theorem HeldE.nilL {n cap : Nat} (h : HeldE E Z w (.slice none n cap) L) : L = [] ∧ n = 0 ∧ cap = 0 := by
  obtain ⟨ao', cap', he, hl, _, hn, hc⟩ := h
  cases he
  obtain ⟨rfl, rfl⟩ := hn rfl
  exact ⟨rfl, rfl, rfl⟩
/-- A part of a slice. -/
theorem HeldE.part {ao : Option Addr} {n cap : Nat} (h : HeldE E Z w (.slice ao n cap) L) (lo hi : Nat) (h1 : lo ≤ hi) (h2 : hi ≤ L.length) :
    ∀ a' cap', (ao = none → a' = none ∧ cap' = 0) → (∀ b off, ao = some ⟨b, off, none⟩ → lo < hi → a' = some ⟨b, off + lo * E.size, none⟩) → (∀ a, ao = some a → a' ≠ none) → hi - lo ≤ cap' → cap' ≤ maxLen → HeldE E Z w (.slice a' (hi - lo) cap') ((L.drop lo).take (hi - lo)) := by
  intro a' cap' hn hs hne hc hm
  obtain ⟨_, _, hsp⟩ := h.spots
  have hlen : ((L.drop lo).take (hi - lo)).length = hi - lo := by simp; omega
  refine ⟨a', cap', by rw [hlen], by rw [hlen]; exact hc, hm, fun he => ?_, fun i hi' => ?_⟩
  · cases ao with
    | none =>
      obtain ⟨rfl, rfl, rfl⟩ := h.nilL
      exact ⟨by simp, (hn rfl).2⟩
    | some a => exact absurd he (hne a rfl)
  · rw [hlen] at hi'
    obtain ⟨b, off, rfl, hb, hz, C, hC, hr⟩ := hsp (lo + i) (by omega)
    refine ⟨b, off + lo * E.size, hs b off rfl (by omega), hb, hz, C, fun j hj => ?_, ?_⟩
    · rw [← hC j hj, Nat.add_mul, Nat.add_assoc off]
    · rw [show ((L.drop lo).take (hi - lo)).getD i E.zero = L.getD (lo + i) E.zero from by simp [List.getD, List.getElem?_take, hi', List.getElem?_drop]]
      exact hr
end
/-- Integers. -/
def intE (k : IntKind) : Elem Int where
  size := 1
  zero := 0
  rep := fun _ _ C x => C = [.int k x]
  len := by rintro _ _ _ _ rfl; rfl
  one := by
    rintro _ _ _ _ rfl u hu
    simp at hu
    subst hu; rfl
  keep := fun _ _ h => h
def boolE : Elem Bool where
  size := 1
  zero := false
  rep := fun _ _ C x => C = [.bool x]
  len := by rintro _ _ _ _ rfl; rfl
  one := by
    rintro _ _ _ _ rfl u hu
    simp at hu
    subst hu; rfl
  keep := fun _ _ h => h
/-- Slices. -/
def slE {α : Type} (E : Elem α) : Elem (List α) where
  size := 1
  zero := []
  rep := fun Z w C L => ∃ v, C = [v] ∧ HeldE E Z w v L
  len := by rintro _ _ _ _ ⟨v, rfl, _⟩; rfl
  one := by
    rintro _ _ _ _ ⟨v, rfl, h⟩ u hu
    simp at hu
    subst hu
    obtain ⟨ao, cap, rfl, _⟩ := h
    rfl
  keep := by
    rintro _ _ _ _ _ _ hk hy ⟨v, rfl, h⟩
    exact ⟨v, rfl, h.keep hk hy⟩
/-- Structs. -/
def prE {α β : Type} (E : Elem α) (F : Elem β) : Elem (α × β) where
  size := E.size + F.size
  zero := (E.zero, F.zero)
  rep := fun Z w C x => ∃ C1 C2, C = C1 ++ C2 ∧ E.rep Z w C1 x.1 ∧ F.rep Z w C2 x.2
  len := by
    rintro _ _ _ _ ⟨C1, C2, rfl, h1, h2⟩
    rw [List.length_append, E.len h1, F.len h2]
  one := by
    rintro _ _ _ _ ⟨C1, C2, rfl, h1, h2⟩ u hu
    rcases List.mem_append.1 hu with h | h
    · exact E.one h1 u h
    · exact F.one h2 u h
  keep := by
    rintro _ _ _ _ _ _ hk hy ⟨C1, C2, rfl, h1, h2⟩
    exact ⟨C1, C2, rfl, E.keep hk hy h1, F.keep hk hy h2⟩
theorem HeldE.ints {k : IntKind} {Z : Zone} {w : World} {v : Value} {xs : List Int} (h : HeldE (intE k) Z w v xs) : Held k w v xs := by
  obtain ⟨ao, cap, rfl, _, _, hn, hc⟩ := h
  refine ⟨ao, cap, rfl, hn, fun i hi => ?_⟩
  obtain ⟨b, off, rfl, hb, _, C, hC, rfl⟩ := hc i hi
  refine ⟨b, off, rfl, hb, ?_⟩
  have := hC 0 (Nat.lt_succ_self 0)
  simpa [intE] using this
theorem heldE_ints {k : IntKind} {Z : Zone} {w : World} {ao : Option Addr} {n cap : Nat} {xs : List Int} (h : Held k w (.slice ao n cap) xs) (hc : n ≤ cap) (hm : cap ≤ maxLen) (hz : ∀ a, ao = some a → a.block < w.heap.size → Z a.block) : HeldE (intE k) Z w (.slice ao n cap) xs := by
  obtain ⟨ao', cap', he, hn, hcc⟩ := h
  cases he
  refine ⟨ao, cap, rfl, hc, hm, hn, fun i hi => ?_⟩
  obtain ⟨b, off, rfl, hb, h1⟩ := hcc i hi
  refine ⟨b, off, rfl, hb, hz _ rfl hb, [.int k (xs.getD i 0)], fun j hj => ?_, rfl⟩
  have hj0 : j = 0 := by simp [intE] at hj; omega
  subst hj0
  simpa [intE] using h1
/- Rows of the call's own. -/
theorem flat_len {s : Nat} : ∀ {CS : List (List Value)}, (∀ C ∈ CS, C.length = s) → CS.flatten.length = CS.length * s
  | [], _ => by simp
  | C :: CS, h => by
    rw [List.flatten_cons, List.length_append, flat_len (fun D hD => h D (List.mem_cons_of_mem _ hD)), h C (by simp), List.length_cons, Nat.add_mul]
    omega
theorem flat_at {s : Nat} : ∀ {CS : List (List Value)}, (∀ C ∈ CS, C.length = s) → ∀ i j, i < CS.length → j < s → CS.flatten[i * s + j]? = (CS.getD i [])[j]?
  | [], _, i, _, hi, _ => absurd hi (Nat.not_lt_zero _)
  | C :: CS, h, 0, j, _, hj => by
    rw [List.flatten_cons, Nat.zero_mul, Nat.zero_add, List.getElem?_append_left (by rw [h C (by simp)]; exact hj)]
    rfl
  | C :: CS, h, i + 1, j, hi, hj => by
    have := flat_at (fun D hD => h D (List.mem_cons_of_mem _ hD)) i j (by simpa using hi) hj
    rw [List.flatten_cons, List.getElem?_append_right (by rw [h C (by simp), Nat.add_mul]; omega), h C (by simp), show (i + 1) * s + j - s = i * s + j by rw [Nat.add_mul]; omega, this]
    rfl
theorem flat_set {s : Nat} : ∀ {CS : List (List Value)}, (∀ C ∈ CS, C.length = s) → ∀ i j u, i < CS.length → j < s → CS.flatten.set (i * s + j) u = (CS.set i ((CS.getD i []).set j u)).flatten
  | [], _, i, _, _, hi, _ => absurd hi (Nat.not_lt_zero _)
  | C :: CS, h, 0, j, u, _, hj => by
    rw [List.flatten_cons, Nat.zero_mul, Nat.zero_add, List.set_append_left _ _ (by rw [h C (by simp)]; exact hj)]
    rfl
  | C :: CS, h, i + 1, j, u, hi, hj => by
    have := flat_set (fun D hD => h D (List.mem_cons_of_mem _ hD)) i j u (by simpa using hi) hj
    rw [List.flatten_cons, List.set_append_right _ _ (by rw [h C (by simp), Nat.add_mul]; omega), h C (by simp), show (i + 1) * s + j - s = i * s + j by rw [Nat.add_mul]; omega, this]
    rfl
/-- The row v is the call's own (from block B on), and holds L; what its elements lead to lies in the zone, and in no block of the row's own. -/
def OwnE {α : Type} (E : Elem α) (Z : Zone) (w : World) (B : Nat) (ty : TypeId) (v : Value) (L : List α) : Prop :=
  ∃ CS : List (List Value), w.ownsRow B ty E.size v L.length CS.flatten ∧ CS.length = L.length ∧ ∀ i, i < L.length → E.rep (fun b => Z b ∧ v.ownBlock ≠ some b) w (CS.getD i []) (L.getD i E.zero)
section
variable {α : Type} {E : Elem α} {Z Y : Zone} {w w' : World} {v u : Value} {L M : List α} {B : Nat} {ty : TypeId}
theorem own_lens {Z : Zone} {CS : List (List Value)} (hl : CS.length = L.length) (h : ∀ i, i < L.length → E.rep Z w (CS.getD i []) (L.getD i E.zero)) : ∀ C ∈ CS, C.length = E.size := by
  intro C hC
  obtain ⟨i, hi, rfl⟩ := List.getElem_of_mem hC
  have := E.len (h i (by omega))
  rwa [show CS.getD i [] = CS[i] from by simp [List.getD, List.getElem?_eq_getElem hi]] at this
theorem own_ones {Z : Zone} {CS : List (List Value)} (hl : CS.length = L.length) (h : ∀ i, i < L.length → E.rep Z w (CS.getD i []) (L.getD i E.zero)) : ∀ u ∈ CS.flatten, u.oneCell' = true := by
  intro u hu
  obtain ⟨C, hC, hu⟩ := List.mem_flatten.1 hu
  obtain ⟨i, hi, rfl⟩ := List.getElem_of_mem hC
  refine E.one (h i (by omega)) u ?_
  rwa [show CS.getD i [] = CS[i] from by simp [List.getD, List.getElem?_eq_getElem hi]]
theorem OwnE.nil (E : Elem α) (Z : Zone) (w : World) (B : Nat) (ty : TypeId) : OwnE E Z w B ty (.slice none 0 0) [] := ⟨[], World.ownsRow_nil _ _ _ _, rfl, fun i hi => absurd hi (Nat.not_lt_zero _)⟩
theorem OwnE.empty (h : w.ownsRow B ty E.size v 0 []) : OwnE E Z w B ty v [] := ⟨[], h, rfl, fun i hi => absurd hi (Nat.not_lt_zero _)⟩
theorem OwnE.lt (h : OwnE E Z w B ty v L) : ∀ k, v.ownBlock = some k → B ≤ k ∧ k < w.heap.size := by
  obtain ⟨CS, h, _⟩ := h
  exact h.lt
theorem OwnE.keep (h : OwnE E Z w B ty v L) (hk : KeepZ (fun b => Z b ∨ v.ownBlock = some b) w w') (hy : ∀ b, b < w.heap.size → Z b → Y b) : OwnE E Y w' B ty v L := by
  obtain ⟨CS, h1, h2, h3⟩ := h
  refine ⟨CS, hk.own h1 fun b hb => .inr hb, h2, fun i hi => E.keep (hk.mono fun b _ hz => .inl hz.1) (fun b hb hz => ⟨hy b hb hz.1, hz.2⟩) (h3 i hi)⟩
theorem OwnE.below (h : OwnE E Z w B ty v L) (hb : Below w.heap.size w w') : OwnE E Z w' B ty v L := h.keep (.all hb _) fun _ _ hz => hz
theorem OwnE.base (h : OwnE E Z w B ty v L) {B' : Nat} (hb : B' ≤ B) : OwnE E Z w B' ty v L := by
  obtain ⟨CS, ⟨h1, h2⟩, h3, h4⟩ := h
  refine ⟨CS, ⟨h1, ?_⟩, h3, h4⟩
  rcases h2 with h2 | ⟨g, cap, cur, rfl, hB, rest⟩
  · exact .inl h2
  · exact .inr ⟨g, cap, cur, rfl, by omega, rest⟩
theorem OwnE.held (h : OwnE E Z w B ty v L) (hz : ∀ b, B ≤ b → b < w.heap.size → Z b) : HeldE E Z w v L := by
  obtain ⟨CS, h1, h2, h3⟩ := h
  have hls := own_lens h2 h3
  rcases h1.2 with ⟨rfl, h0⟩ | ⟨g, cap, cur, rfl, hB, hg, hn, hmx, _⟩
  · have : L = [] := List.eq_nil_of_length_eq_zero h0
    subst this
    exact HeldE.nil _ _ _
  · refine ⟨some ⟨g, 0, none⟩, cap, rfl, hn, hmx, (fun e => by cases e), fun i hi => ?_⟩
    have hgl := (Array.getElem?_eq_some_iff.1 hg).1
    refine ⟨g, 0, rfl, hgl, hz g hB hgl, CS.getD i [], fun j hj => ?_, E.keep (.refl _ _) (fun b _ h => h.1) (h3 i hi)⟩
    rw [Nat.zero_add, h1.cellAt (i * E.size + j) (by have : i * E.size + E.size ≤ L.length * E.size := by rw [← Nat.succ_mul]; exact Nat.mul_le_mul_right _ hi
                                                     omega)]
    exact flat_at hls i j (by omega) hj
/-- The cells of a held list, one behind the other. -/
theorem HeldE.news {a : Addr} {n cap : Nat} (h : HeldE E Z w (.slice (some a) n cap) L) (h0 : 0 < E.size) : ∃ CS : List (List Value), CS.length = L.length ∧ n = L.length ∧ (∀ j u, CS.flatten[j]? = some u → w.cell? (a.add j) = some u) ∧ ∀ i, i < L.length → E.rep Z w (CS.getD i []) (L.getD i E.zero) := by
  obtain ⟨hn, _, hc⟩ := h.spots
  have hch : ∀ i : Fin L.length, ∃ C, (∀ j, j < E.size → w.cell? (a.add (i * E.size + j)) = C[j]?) ∧ E.rep Z w C (L.getD i E.zero) := by
    intro i
    obtain ⟨b, off, e, _, _, C, h1, h2⟩ := hc i.1 i.2
    cases e
    refine ⟨C, fun j hj => ?_, h2⟩
    rw [Addr.add_lit, ← h1 j hj, Nat.add_assoc]
  refine ⟨List.ofFn fun i => Classical.choose (hch i), by simp, hn, fun j u hj => ?_, fun i hi => ?_⟩
  · have hlens : ∀ C ∈ (List.ofFn fun i => Classical.choose (hch i)), C.length = E.size := by
      intro C hC
      obtain ⟨i, rfl⟩ := List.mem_ofFn.1 hC
      exact E.len (Classical.choose_spec (hch i)).2
    have hfl := flat_len hlens
    have hjl : j < (List.ofFn fun i => Classical.choose (hch i)).flatten.length := (List.getElem?_eq_some_iff.1 hj).1
    rw [hfl, List.length_ofFn] at hjl
    have hi : j / E.size < L.length := (Nat.div_lt_iff_lt_mul h0).2 hjl
    have hjj : j = j / E.size * E.size + j % E.size := by rw [Nat.mul_comm]; exact (Nat.div_add_mod j E.size).symm
    have hmod : j % E.size < E.size := Nat.mod_lt _ h0
    have h1 := (Classical.choose_spec (hch ⟨j / E.size, hi⟩)).1 (j % E.size) hmod
    have h2 := flat_at hlens (j / E.size) (j % E.size) (by simpa using hi) hmod
    rw [← hjj, hj] at h2
    simp only [List.getD, List.getElem?_ofFn, hi, dif_pos, Option.getD_some] at h2
    rw [hjj]
    exact h1.trans h2.symm
  · simp only [List.getD, List.getElem?_ofFn, hi, dif_pos, Option.getD_some]
    exact (Classical.choose_spec (hch ⟨i, hi⟩)).2
theorem flat_ints (k : IntKind) : ∀ xs : List Int, (xs.map fun x => [Value.int k x]).flatten = xs.map (Value.int k)
  | [] => rfl
  | x :: xs => by rw [List.map_cons, List.flatten_cons, flat_ints k xs]; rfl
theorem ownE_ints {k : IntKind} {Z : Zone} {w : World} {B n : Nat} {ty : TypeId} {v : Value} {xs : List Int} (h : w.ownsRow B ty 1 v n (xs.map (Value.int k))) : OwnE (intE k) Z w B ty v xs := by
  have hn : xs.length = n := by have := h.1; simpa using this
  subst hn
  refine ⟨xs.map fun x => [.int k x], ?_, by simp, fun i hi => ?_⟩
  · rw [flat_ints]
    exact h
  · show _ = _
    simp [List.getD, List.getElem?_eq_getElem hi, intE]
theorem OwnE.ints {k : IntKind} {Z : Zone} {w : World} {B : Nat} {ty : TypeId} {v : Value} {xs : List Int} (h : OwnE (intE k) Z w B ty v xs) : w.ownsRow B ty 1 v xs.length (xs.map (Value.int k)) := by
  obtain ⟨CS, h1, h2, h3⟩ := h
  have e : CS.flatten = xs.map (Value.int k) := by
    apply List.ext_getElem?
    intro i
    have hls : ∀ C ∈ CS, C.length = 1 := own_lens h2 h3
    by_cases hi : i < xs.length
    · have := flat_at hls i 0 (by omega) (by omega)
      rw [Nat.mul_one, Nat.add_zero] at this
      rw [this, show CS.getD i [] = [.int k (xs.getD i 0)] from h3 i hi]
      simp [List.getD, List.getElem?_eq_getElem hi]
    · rw [List.getElem?_eq_none (by rw [flat_len hls]; omega), List.getElem?_eq_none (by simp; omega)]
  rw [← e]
  exact h1
/-- A block that was just laid. -/
theorem OwnE.lit (w : World) (E : Elem α) (CS : List (List Value)) (L : List α) (n : Nat) (hn : L.length = n) (hl : CS.length = n) (hb : B ≤ w.heap.size) (hm : n ≤ maxLen) (hr : ∀ i, i < n → E.rep Z w (CS.getD i []) (L.getD i E.zero)) (C : Array Value) (hC : C = CS.flatten.toArray) :
    OwnE E Z (w.alloc (.cells C ty)) B ty (.slice (some ⟨w.heap.size, 0, none⟩) n n) L := by
  subst hC hn
  have hls := own_lens hl hr
  refine ⟨CS, ?_, hl, fun i hi => E.keep (Z := fun b => Z b ∧ b < w.heap.size) (.all ((Below.refl _ _).alloc (Nat.le_refl _) _) _) (fun b hb hz => ⟨hz.1, fun e => ?_⟩) (E.keep (.refl _ _) (fun b hb hz => ⟨hz, hb⟩) (hr i hi))⟩
  · have := World.ownsRow_lit (base := B) (e := ty) (size := E.size) w CS.flatten.toArray L.length hb hm (by simp only [List.size_toArray]; rw [flat_len hls, hl])
    simpa using this
  · simp only [Value.ownBlock, Option.some.injEq] at e
    omega
end
end Go.Proofs.YteinppjklhomnaaDoor
/- Appends to a row of the call's own, of whatever elements. Of no program. -/
namespace Go.Proofs.YteinppjklhomnaaDoor
open Go.RowKit Go.ChangeShapes Go.WideShapes
theorem run_append_full {P : Program} (w : World) (base : Nat) (t ty e : TypeId) (i : TypeInfo) (z : Value) (size bytes : Nat) (ht : P.underlying t = some (.slice e)) (hi : P.info? e = some i) (hz : i.zero = some z)
    (hsize : i.size = size) (hby : i.bytes = bytes) (hzs : z.cells.size = size) (hsz : 0 < size)
    (v : Value) (n : Nat) (xs : List Value) (hown : w.ownsRow base e size v n xs)
    (a : Addr) (m c : Nat) (news : List Value) (hl : news.length = m * size) (hnews : ∀ j u, news[j]? = some u → w.cell? (a.add j) = some u) (h1 : ∀ u ∈ news, u.oneCell' = true)
    (h63 : n + m ≤ maxLen) (hbytes : (n + m) * bytes ≤ 140737488355328) (hbase : base ≤ w.heap.size) :
    ∃ v' w', (Builtin.append_ #[t, t] ty #[v, .slice (some a) m c]).run P w = .ok v' w' ∧ w'.ownsRow base e size v' (n + m) (xs ++ news) ∧ w.grownBy w' v.ownBlock ∧ ∀ b, b < w.heap.size → v.ownBlock ≠ some b → v'.ownBlock ≠ some b := by
  have hsmall : n + m ≤ 9223372036854775807 := by simp only [maxLen] at h63; omega
  rcases id hown.2 with ⟨rfl, rfl⟩ | ⟨g, cap, cur, rfl, hb, hg, hnc, hcm, hcs, htk⟩
  · have hx : xs = [] := List.eq_nil_of_length_eq_zero (by simpa using hown.1)
    subst hx
    obtain ⟨v', w', hr, h2, h3, _⟩ := run_append_own (P := P) w w.heap.size t ty e i z size bytes ht hi hz hsize hby hzs hsz _ 0 [] (World.ownsRow_nil _ _ _ _) a m c news hl hnews h1 h63 hbytes (Nat.le_refl _)
    refine ⟨v', w', hr, ⟨h2.1, ?_⟩, h3, fun b hb _ e => by have := (h2.lt b e).1; omega⟩
    rcases h2.2 with h | ⟨g, cap, cur, rfl, hg, rest⟩
    · exact .inl h
    · exact .inr ⟨g, cap, cur, rfl, by omega, rest⟩
  · by_cases hroom : n + m ≤ cap
    · obtain ⟨w2, hr2, h4, h5⟩ := run_append_fits (P := P) w base t ty e i size ht hi hsize g n cap xs hown a m c news hl hnews h1 hroom
      exact ⟨_, _, hr2, h4, h5, fun b _ hn => hn⟩
    · obtain ⟨v', w', hr, h2, h3, _⟩ := run_append_own (P := P) w base t ty e i z size bytes ht hi hz hsize hby hzs hsz _ n xs hown a m c news hl hnews h1 h63 hbytes hbase
      subst hsize
      subst hby
      have hr2 := run_append_grow (P := P) w t ty e i z ht hi hz ⟨g, 0, none⟩ n cap xs hown.1 (hown.cells (g := g) rfl) a m c news hl hnews (by omega) (by omega) (growslice_fits (by omega) hbytes)
      rw [hr2] at hr
      cases hr
      refine ⟨_, _, hr2, h2, h3, fun b hb _ e => ?_⟩
      simp [Value.ownBlock] at e
      omega
section
variable {α : Type} {E : Elem α} {Z Y : Zone} {w w' : World} {v u : Value} {L M : List α} {B : Nat} {ty : TypeId}
theorem getD_app {β : Type} (xs ys : List β) (d : β) (i : Nat) : (xs ++ ys).getD i d = if i < xs.length then xs.getD i d else ys.getD (i - xs.length) d := by
  simp only [List.getD]
  split <;> rename_i h
  · rw [List.getElem?_append_left h]
  · rw [List.getElem?_append_right (by omega)]
/-- An append of a held list. -/
theorem run_append_e {P : Program} (t tt : TypeId) (z : Value) (bytes : Nat) (ht : P.underlying t = some (.slice ty)) (hinfo : (P.info? ty).map (fun i => (i.zero, i.size, i.bytes)) = some (some z, E.size, bytes)) (hzs : z.cells.size = E.size) (h0 : 0 < E.size)
    (hv : OwnE E Z w B ty v L) (hu : HeldE E (fun b => Z b ∧ v.ownBlock ≠ some b) w u M) (hn : (L.length + M.length) * bytes ≤ 140737488355328) (hn0 : L.length + M.length ≤ 140737488355328) (hB : B ≤ w.heap.size) :
    ∃ v' w', (Builtin.append_ #[t, t] tt #[v, u]).run P w = .ok v' w' ∧ OwnE E Z w' B ty v' (L ++ M) ∧ Below B w w' ∧ KeepZ (fun b => v.ownBlock ≠ some b) w w' ∧ ∀ b, b < w.heap.size → v.ownBlock ≠ some b → v'.ownBlock ≠ some b := by
  obtain ⟨i0, hi, hz0, hz1, hz2⟩ := info_parts hinfo
  obtain ⟨CS, h1, h2, h3⟩ := id hv
  obtain ⟨ao, cap, rfl, hlc, _, hnn, hc⟩ := id hu
  cases ao with
  | none =>
    obtain ⟨rfl, rfl⟩ := hnn rfl
    have hr := run_append_owned_none (P := P) w B t tt ty i0 E.size ht hi v L.length CS.flatten h1
    exact ⟨v, w, hr, by simpa using hv, Below.refl _ _, .refl _ _, fun _ _ h => h⟩
  | some ad =>
    obtain ⟨DS, d1, _, d3, d4⟩ := hu.news h0
    have hls := own_lens d1 d4
    have hls1 := own_lens h2 h3
    obtain ⟨v', w', hr, k1, k2, k3⟩ := run_append_full (P := P) w B t tt ty i0 z E.size bytes ht hi hz0 hz1 hz2 hzs h0 v L.length CS.flatten h1 ad M.length cap DS.flatten (by rw [flat_len hls, d1]) d3 (own_ones d1 d4) (by unfold maxLen; omega) hn hB
    have kz : KeepZ (fun b => v.ownBlock ≠ some b) w w' := .grown k2
    refine ⟨v', w', hr, ⟨CS ++ DS, ?_, by simp [h2, d1], fun i hi => ?_⟩, (Below.refl B w).grown k2 hB fun k hk => (hv.lt k hk).1, kz, k3⟩
    · rw [List.flatten_append, List.length_append]
      exact k1
    · rw [getD_app, getD_app, h2]
      simp only [List.length_append] at hi
      split
      · rename_i hlt
        exact E.keep (kz.mono fun b _ hz => hz.2) (fun b hb hz => ⟨hz.1, k3 b hb hz.2⟩) (h3 i hlt)
      · rename_i hge
        exact E.keep (kz.mono fun b _ hz => hz.2) (fun b hb hz => ⟨hz.1, k3 b hb hz.2⟩) (d4 (i - L.length) (by omega))
theorem HeldE.lower (h : HeldE E Z w v L) : HeldE E (fun b => b < w.heap.size) w v L := h.zone fun b hb _ => hb
/-- What lies below the row's base is apart from it. -/
theorem HeldE.apart {B : Nat} (h : HeldE E (fun b => b < B) w u M) (ho : ∀ k, v.ownBlock = some k → B ≤ k ∧ k < w'.heap.size) : HeldE E (fun b => True ∧ v.ownBlock ≠ some b) w u M := h.zone fun b _ hz => ⟨trivial, fun e => by have := (ho b e).1; omega⟩
theorem OwnE.fresh0 (w : World) (ty : TypeId) {B : Nat} (hB : B ≤ w.heap.size) : OwnE E Z (w.alloc (.cells #[] ty)) B ty (.slice (some ⟨w.heap.size, 0, none⟩) 0 0) [] :=
  OwnE.empty ⟨by simp, .inr ⟨w.heap.size, 0, #[], rfl, hB, heap_alloc_new w _, Nat.le_refl _, by unfold maxLen; omega, by simp, by simp⟩⟩
/-- A block that was just laid, of one element. -/
theorem heldE_one (C : List Value) (x : α) (hr : E.rep Y w C x) (hy : ∀ b, b < w.heap.size → Y b → Z b) (hz : Z w.heap.size) : HeldE E Z (w.alloc (.cells C.toArray ty)) (.slice (some ⟨w.heap.size, 0, none⟩) 1 1) [x] := by
  refine ⟨_, 1, rfl, Nat.le_refl _, (by decide), (fun h => by cases h), fun i hi => ?_⟩
  have hi0 : i = 0 := by simpa using hi
  subst hi0
  refine ⟨w.heap.size, 0, rfl, by simp, hz, C, fun j hj => ?_, ?_⟩
  · rw [cell_of_row (w.alloc (.cells C.toArray ty)) w.heap.size (0 + 0 * E.size + j) C.toArray ty (0, 0) (heap_alloc_new w _)]
    simp
  · exact E.keep (.all ((Below.refl _ _).alloc (Nat.le_refl _) _) Y) hy hr
end
section
variable {P : Program} {α : Type} {E : Elem α} {Z Y : Zone} {w : World} {v u : Value} {L M : List α} {B : Nat} {ty : TypeId}
theorem exec_app {ρ : Operand → Value} {o : Oper} {s x : Operand} {t : TypeId} {w w' : World} {v u v' : Value} (ho : o.op = .call { callee := .builtin .append, args := #[s, x], argTypes := #[t, t] }) (hs : ρ s = v) (hx : ρ x = u)
    (hr : (Builtin.append_ #[t, t] o.type #[v, u]).run P w = .ok v' w') : (execOp ρ o).run P w = .ok (.value v') w' := by
  unfold execOp
  simp only [ho, resolve, invoke, builtin, Sem.run_bind, Sem.run_pure, Result.andThen_ok, List.map_toArray, List.map_cons, List.map_nil, hs, hx, hr]
theorem wpList_of_exec {ops : Array Oper} {rest : List Oper} {o : Oper} {a : Act} {Q : Exit → Act → World → Prop} {w w' : World} {v : Value} (hgd : o.guard = none) (he : (execOp a.eval o).run P w = .ok (.value v) w') (h : wpList P ops Q rest (a.put o.dst v) w') : wpList P ops Q (o :: rest) a w := by
  refine wpList_plain hgd fun K hK => ?_
  unfold Oper.wp
  rw [he]
  exact hK _ _ h
/-- 'append(v, u...)'. -/
theorem wpList_append_e {ops : Array Oper} {rest : List Oper} {o : Oper} {a : Act} {Q : Exit → Act → World → Prop} (hgd : o.guard = none) (s x : Operand) (t : TypeId)
    (ho : o.op = .call { callee := .builtin .append, args := #[s, x], argTypes := #[t, t] })
    (z : Value) (bytes : Nat) (ht : P.underlying t = some (.slice ty)) (hinfo : (P.info? ty).map (fun i => (i.zero, i.size, i.bytes)) = some (some z, E.size, bytes)) (hzs : z.cells.size = E.size) (h0 : 0 < E.size)
    (hs : a.eval s = v) (hx : a.eval x = u) (hv : OwnE E Z w B ty v L) (hu : HeldE E (fun b => Z b ∧ v.ownBlock ≠ some b) w u M) (hn : (L.length + M.length) * bytes ≤ 140737488355328) (hn0 : L.length + M.length ≤ 140737488355328) (hB : B ≤ w.heap.size)
    (h : ∀ v' w', OwnE E Z w' B ty v' (L ++ M) → Below B w w' → KeepZ (fun b => v.ownBlock ≠ some b) w w' → (∀ b, b < w.heap.size → v.ownBlock ≠ some b → v'.ownBlock ≠ some b) → wpList P ops Q rest (a.put o.dst v') w') :
    wpList P ops Q (o :: rest) a w := by
  obtain ⟨v', w', hr, h1, h2, h3, h4⟩ := run_append_e (P := P) t o.type z bytes ht hinfo hzs h0 hv hu hn hn0 hB
  refine wpList_of_exec hgd ?_ (h v' w' h1 h2 h3 h4)
  exact exec_app ho hs hx hr
end
end Go.Proofs.YteinppjklhomnaaDoor
/- A row of numbers copied onto an empty one of the call's own. -/
namespace Go.Proofs.YteinppjklhomnaaDoor
open Go.RowKit Go.ChangeShapes Go.WideShapes
theorem info_ru : (Tryd.prog.info? 21).map (fun i => (i.zero, i.size, i.bytes)) = some (some (.int .i32 0), 1, 4) := by kernel_rfl
theorem int_copyH (w : World) (B : Nat) (ty : TypeId) (g : Nat) (hown : w.ownsRow B 21 1 (.slice (some ⟨g, 0, none⟩) 0 0) 0 []) (u : Value) (T : List Int) (hu : Held .i32 w u T) (hpos : 0 < T.length) (hn : T.length ≤ 1000000) (hbase : B ≤ w.heap.size) :
    ∃ v' w', (Builtin.append_ #[33, 33] ty #[.slice (some ⟨g, 0, none⟩) 0 0, u]).run Tryd.prog w = .ok v' w' ∧ w'.ownsRow B 21 1 v' T.length (T.map (Value.int .i32)) ∧ Below w.heap.size w w' := by
  obtain ⟨i0, hi, hz0, hz1, hz2⟩ := info_parts info_ru
  obtain ⟨ao, cap, rfl, hcells⟩ := hu.view
  obtain ⟨b, off, rfl, _, _⟩ := hcells 0 hpos
  have hnews : ∀ j v, (T.map (Value.int .i32))[j]? = some v → w.cell? ((⟨b, off, none⟩ : Addr).add j) = some v := by
    intro j v hj
    rw [List.getElem?_map] at hj
    cases hT : T[j]? with
    | none => rw [hT] at hj; cases hj
    | some y =>
      rw [hT] at hj
      have hj : v = .int .i32 y := by simpa using hj.symm
      subst hj
      have hjl : j < T.length := (List.getElem?_eq_some_iff.1 hT).1
      obtain ⟨b', off', e, _, hc⟩ := hcells j hjl
      cases e
      have : T.getD j 0 = y := by simp [List.getD, hT]
      rw [this] at hc
      rcases Nat.eq_zero_or_pos j with rfl | hp
      · simpa [Addr.add] using hc
      · simpa [Addr.add, Nat.ne_of_gt hp] using hc
  obtain ⟨v', w', hr, h2, h3, _, h5⟩ := run_append_keep (P := Tryd.prog) w B 33 ty 21 i0 _ 1 4 Tryd.underlying33 hi hz0 hz1 hz2 rfl (by decide) _ 0 [] hown ⟨b, off, none⟩ T.length cap (T.map (Value.int .i32)) (by simp) hnews (by intro v hv; simp at hv; obtain ⟨_, _, rfl⟩ := hv; rfl) (by unfold maxLen; omega) (by omega) hbase
  refine ⟨v', w', hr, by simpa using h2, ?_⟩
  rcases h5 with h5 | ⟨g2, cap2, e1, rfl⟩
  · exact (Below.refl _ w).grown (⟨h3.os, h3.tape, h3.output, h3.size, fun i hi _ => h5 i hi⟩ : w.grownBy w' none) (Nat.le_refl _) (by simp)
  · exfalso
    simp only [Value.slice.injEq, Option.some.injEq, Addr.mk.injEq, and_true, true_and] at e1
    obtain ⟨rfl, rfl⟩ := e1
    rcases h2.2 with ⟨h', _⟩ | ⟨g3, cap3, cur3, h', _, _, hn3, _⟩
    · simp at h'
    · simp only [Value.slice.injEq, Option.some.injEq, Addr.mk.injEq, and_true, true_and] at h'
      omega
end Go.Proofs.YteinppjklhomnaaDoor
/- What comes in reads as a list, of whatever elements. Of no program. -/
namespace Go.Proofs.YteinppjklhomnaaDoor
open Go.RowKit Go.ChangeShapes Go.WideShapes
open Go.Deep
/-- What is read of cells at type t is such an element, and right. -/
def Opens (P : Program) {α : Type} (E : Elem α) (ok : α → Prop) (t : TypeId) : Prop :=
  P.cellsOf t = E.size ∧ ∀ {H : Type} (enc : TypeId × Value → H) (W : World) (base fuel : Nat) (cs : List Value) (x : DataW H × List MemPlace), DataW.trod enc P W base (fun _ => true) true fuel t cs = some x → ∃ y, E.rep (fun b => b < W.heap.size) W cs y ∧ ok y
section
variable {P : Program} {α β γ : Type} {E : Elem α} {F : Elem β} {G : Elem γ} {ok : α → Prop} {ok' : β → Prop} {ok'' : γ → Prop} {t e : TypeId}
theorem opens_int {k : IntKind} (hu : P.underlying t = some (.int k)) (hc : P.cellsOf t = 1) : Opens P (intE k) (fun n => (Lit.int k n).wf = true) t := by
  refine ⟨hc, fun enc W base fuel cs x h => ?_⟩
  obtain ⟨n, rfl, _, hw⟩ := DataW.trod_int hu h
  exact ⟨n, rfl, hw⟩
theorem opens_bool (hu : P.underlying t = some .bool) (hc : P.cellsOf t = 1) : Opens P boolE (fun _ => True) t := by
  refine ⟨hc, fun enc W base fuel cs x h => ?_⟩
  obtain ⟨n, rfl, _⟩ := DataW.trod_bool hu h
  exact ⟨n, rfl, trivial⟩
theorem opens_slice (hu : P.underlying t = some (.slice e)) (hc : P.cellsOf t = 1) (h0 : 0 < E.size) (he : Opens P E ok e) : Opens P (slE E) (fun L => ∀ x ∈ L, ok x) t := by
  refine ⟨hc, fun {H} enc W base fuel cs x h => ?_⟩
  obtain ⟨hce, hop⟩ := he
  rcases open_slice hu h with ⟨rfl, _⟩ | ⟨a, len, cap, m, n, D, Pl, rfl, _, hl, hm, hmm, _, hx⟩
  · exact ⟨[], ⟨_, rfl, HeldE.nil _ _ _⟩, by simp⟩
  · simp at hmm
    rw [hce] at hx
    have hsp : 0 < len → a.spot = none := by
      intro hl0
      obtain ⟨cs', h1, _⟩ := hx 0 (by omega)
      obtain ⟨_, hlen, hcell⟩ := World.cells?_some h1
      have hk := hcell 0 h0
      rw [List.getElem?_eq_getElem (by omega)] at hk
      have := World.cell?_spot hk
      simpa [Addr.add] using this
    have each : ∀ i, i < len → ∃ y : α, ok y ∧ ∃ b off, a = ⟨b, off, none⟩ ∧ b < W.heap.size ∧ ∃ C, (∀ j, j < E.size → W.cell? ⟨b, off + i * E.size + j, none⟩ = C[j]?) ∧ E.rep (fun b => b < W.heap.size) W C y := by
      intro i hi
      obtain ⟨cs', h1, h2⟩ := hx i (by omega)
      obtain ⟨_, hlen, hcell⟩ := World.cells?_some h1
      obtain ⟨y, hr, hy⟩ := hop enc W base _ cs' _ h2
      have hk := hcell 0 h0
      have hv : ∃ v0, cs'[0]? = some v0 := ⟨cs'[0], List.getElem?_eq_getElem (by omega)⟩
      obtain ⟨v0, hv0⟩ := hv
      rw [hv0] at hk
      have hs : a.spot = none := hsp (by omega)
      obtain ⟨b, off, sp⟩ := a
      simp only at hs
      subst hs
      rw [Addr.add_lit, Addr.add_lit] at hk
      refine ⟨y, hy, b, off, rfl, World.block_lt_of_cell? W ⟨b, off + i * E.size + 0, none⟩ hk, cs', fun j hj => ?_, hr⟩
      have := hcell j hj
      rw [Addr.add_lit, Addr.add_lit] at this
      exact this
    have hg : ∀ i (hi : i < len), (List.ofFn (n := len) fun i => Classical.choose (each i.val i.isLt)).getD i E.zero = Classical.choose (each i hi) := fun i hi => by simp [List.getD, hi]
    refine ⟨List.ofFn (n := len) fun i => Classical.choose (each i.val i.isLt), ⟨_, rfl, some a, cap, by simp, by simp; omega, hm, (fun h => by cases h), fun i hi => ?_⟩, ?_⟩
    · have hi' : i < len := by simpa using hi
      obtain ⟨_, b, off, rfl, h1, C, h2, h3⟩ := Classical.choose_spec (each i hi')
      refine ⟨b, off, rfl, h1, h1, C, h2, ?_⟩
      rw [hg i hi']
      exact h3
    · intro y hy
      obtain ⟨i, rfl⟩ := List.mem_ofFn.1 hy
      exact (Classical.choose_spec (each i.val i.isLt)).1
theorem opens_pair {f0 f1 : Field} (hu : P.underlying t = some (.struct #[f0, f1])) (hc : P.cellsOf t = E.size + F.size) (h0 : f0.offset = 0) (h1 : f1.offset = E.size) (he : Opens P E ok f0.type) (hf : Opens P F ok' f1.type) : Opens P (prE E F) (fun x => ok x.1 ∧ ok' x.2) t := by
  refine ⟨hc, fun {H} enc W base fuel cs x h => ?_⟩
  obtain ⟨y0, y1, n, _, hl, t0, t1⟩ := trod_struct2 hu h
  rw [he.1, h0] at t0
  rw [hf.1, h1] at t1
  obtain ⟨x0, r0, k0⟩ := he.2 enc W base _ _ _ t0
  obtain ⟨x1, r1, k1⟩ := hf.2 enc W base _ _ _ t1
  refine ⟨(x0, x1), ⟨_, _, ?_, r0, r1⟩, k0, k1⟩
  rw [hc] at hl
  simp only [List.drop_zero]
  rw [List.take_of_length_le (l := List.drop E.size cs) (by simp; omega), List.take_append_drop]
theorem opens_triple {f0 f1 f2 : Field} (hu : P.underlying t = some (.struct #[f0, f1, f2])) (hc : P.cellsOf t = E.size + (F.size + G.size)) (h0 : f0.offset = 0) (h1 : f1.offset = E.size) (h2 : f2.offset = E.size + F.size) (he : Opens P E ok f0.type) (hf : Opens P F ok' f1.type) (hg : Opens P G ok'' f2.type) :
    Opens P (prE E (prE F G)) (fun x => ok x.1 ∧ ok' x.2.1 ∧ ok'' x.2.2) t := by
  refine ⟨hc, fun {H} enc W base fuel cs x h => ?_⟩
  obtain ⟨y0, y1, y2, n, _, hl, t0, t1, t2⟩ := trod_struct3 hu h
  rw [he.1, h0] at t0
  rw [hf.1, h1] at t1
  rw [hg.1, h2] at t2
  obtain ⟨x0, r0, k0⟩ := he.2 enc W base _ _ _ t0
  obtain ⟨x1, r1, k1⟩ := hf.2 enc W base _ _ _ t1
  obtain ⟨x2, r2, k2⟩ := hg.2 enc W base _ _ _ t2
  refine ⟨(x0, x1, x2), ⟨_, _, ?_, r0, _, _, rfl, r1, r2⟩, k0, k1, k2⟩
  rw [hc] at hl
  have e1 : (List.drop (E.size + F.size) cs) = List.drop F.size (List.drop E.size cs) := by rw [List.drop_drop]
  rw [List.take_of_length_le (l := List.drop (E.size + F.size) cs) (by simp; omega), e1, List.take_append_drop, List.drop_zero, List.take_append_drop]
/-- An argument that is a slice. -/
theorem opens_arg (hu : P.underlying t = some (.slice e)) (hc : P.cellsOf t = 1) (h0 : 0 < E.size) (he : Opens P E ok e) {H : Type} {enc : TypeId × Value → H} {W : World} {base : Nat} {v : Value} {d : DataW H} {p : List MemPlace} (hv : Value.okWide P W .any base t v) (h : DataW.Trod enc P W 0 (fun _ => true) true t v d p) :
    ∃ L, HeldE E (fun b => b < W.heap.size) W v L ∧ ∀ x ∈ L, ok x := by
  obtain ⟨a0, len, cap, rfl⟩ := okWide_slice hu hv
  obtain ⟨fuel, hf⟩ := h
  obtain ⟨y, ⟨v', hv', hr⟩, hk⟩ := (opens_slice hu hc h0 he).2 enc W 0 _ _ _ hf
  simp [Value.cells] at hv'
  subst hv'
  exact ⟨y, hr, hk⟩
/-- An argument that is a struct. -/
theorem opens_struct {fs : Array Field} (hu : P.underlying t = some (.struct fs)) (he : Opens P E ok t) {H : Type} {enc : TypeId × Value → H} {W : World} {base : Nat} {v : Value} {d : DataW H} {p : List MemPlace} (hv : Value.okWide P W .any base t v) (h : DataW.Trod enc P W 0 (fun _ => true) true t v d p) :
    ∃ cs y, v = .agg cs ∧ E.rep (fun b => b < W.heap.size) W cs.toList y ∧ ok y := by
  obtain ⟨cs, rfl, _⟩ := okWide_struct hu hv
  obtain ⟨fuel, hf⟩ := h
  obtain ⟨y, hr, hk⟩ := he.2 enc W 0 _ _ _ hf
  exact ⟨cs, y, rfl, by simpa [Value.cells] using hr, hk⟩
end
end Go.Proofs.YteinppjklhomnaaDoor
/- What comes in reads as a list, and is of at most such a bulk. Of no program. -/
namespace Go.Proofs.YteinppjklhomnaaDoor
open Go.RowKit Go.ChangeShapes Go.WideShapes
open Go.Deep
/-- A count of data that each part adds to. -/
structure Bulk (H : Type) where
  of : DataW H → Nat
  one : ∀ d, 1 ≤ of d
  agg : ∀ ps : List (DataW H), (ps.map of).sum ≤ of (.agg ps)
  slice : ∀ es sp : List (DataW H), (es.map of).sum + 1 ≤ of (.slice es sp)
def wtI : Int → Nat := fun _ => 1
def wtB : Bool → Nat := fun _ => 1
def wtS {α : Type} (f : α → Nat) (L : List α) : Nat := (L.map f).sum + 1
def wtP {α β : Type} (f : α → Nat) (g : β → Nat) (x : α × β) : Nat := f x.1 + g x.2
/-- What is read of cells at type t is such an element, right, and of no more weight than its bulk. -/
def OpensB (P : Program) {α : Type} (E : Elem α) (ok : α → Prop) (wt : α → Nat) (t : TypeId) : Prop :=
  P.cellsOf t = E.size ∧ ∀ {H : Type} (enc : TypeId × Value → H) (b : Bulk H) (W : World) (base fuel : Nat) (cs : List Value) (x : DataW H × List MemPlace), DataW.trod enc P W base (fun _ => true) true fuel t cs = some x → ∃ y, E.rep (fun b => b < W.heap.size) W cs y ∧ ok y ∧ wt y ≤ b.of x.1
theorem sum_le_sum {α : Type} (f g : α → Nat) : ∀ l : List α, (∀ x ∈ l, f x ≤ g x) → (l.map f).sum ≤ (l.map g).sum
  | [], _ => Nat.le_refl _
  | x :: l, h => by
    simp only [List.map_cons, List.sum_cons]
    have := h x (by simp)
    have := sum_le_sum f g l fun y hy => h y (by simp [hy])
    omega
theorem map_index {α : Type} (d : α) : ∀ l : List α, (List.range l.length).map (fun i => l.getD i d) = l := by
  intro l
  apply List.ext_getElem
  · simp
  · intro i h1 h2
    simp [List.getD, List.getElem?_eq_getElem h2]
section
variable {P : Program} {α β γ : Type} {E : Elem α} {F : Elem β} {G : Elem γ} {ok : α → Prop} {ok' : β → Prop} {ok'' : γ → Prop} {wt : α → Nat} {wt' : β → Nat} {wt'' : γ → Nat} {t e : TypeId}
theorem opensB_int {k : IntKind} (hu : P.underlying t = some (.int k)) (hc : P.cellsOf t = 1) : OpensB P (intE k) (fun n => (Lit.int k n).wf = true) wtI t := by
  refine ⟨hc, fun enc b W base fuel cs x h => ?_⟩
  obtain ⟨n, rfl, _, hw⟩ := DataW.trod_int hu h
  exact ⟨n, rfl, hw, b.one _⟩
theorem opensB_bool (hu : P.underlying t = some .bool) (hc : P.cellsOf t = 1) : OpensB P boolE (fun _ => True) wtB t := by
  refine ⟨hc, fun enc b W base fuel cs x h => ?_⟩
  obtain ⟨n, rfl, _⟩ := DataW.trod_bool hu h
  exact ⟨n, rfl, trivial, b.one _⟩
theorem opensB_slice (hu : P.underlying t = some (.slice e)) (hc : P.cellsOf t = 1) (h0 : 0 < E.size) (he : OpensB P E ok wt e) : OpensB P (slE E) (fun L => ∀ x ∈ L, ok x) (wtS wt) t := by
  refine ⟨hc, fun {H} enc bk W base fuel cs x h => ?_⟩
  obtain ⟨hce, hop⟩ := he
  rcases open_slice hu h with ⟨rfl, rfl⟩ | ⟨a, len, cap, m, n, D, Pl, rfl, _, hl, hm, hmm, rfl, hx⟩
  · exact ⟨[], ⟨_, rfl, HeldE.nil _ _ _⟩, by simp, by simpa [wtS] using bk.one _⟩
  · simp at hmm
    rw [hce] at hx
    have hsp : 0 < len → a.spot = none := by
      intro hl0
      obtain ⟨cs', h1, _⟩ := hx 0 (by omega)
      obtain ⟨_, hlen, hcell⟩ := World.cells?_some h1
      have hk := hcell 0 h0
      rw [List.getElem?_eq_getElem (by omega)] at hk
      have := World.cell?_spot hk
      simpa [Addr.add] using this
    have each : ∀ i, i < len → ∃ y : α, ok y ∧ wt y ≤ bk.of (D i) ∧ ∃ b off, a = ⟨b, off, none⟩ ∧ b < W.heap.size ∧ ∃ C, (∀ j, j < E.size → W.cell? ⟨b, off + i * E.size + j, none⟩ = C[j]?) ∧ E.rep (fun b => b < W.heap.size) W C y := by
      intro i hi
      obtain ⟨cs', h1, h2⟩ := hx i (by omega)
      obtain ⟨_, hlen, hcell⟩ := World.cells?_some h1
      obtain ⟨y, hr, hy, hw⟩ := hop enc bk W base _ cs' _ h2
      have hk := hcell 0 h0
      have hv : ∃ v0, cs'[0]? = some v0 := ⟨cs'[0], List.getElem?_eq_getElem (by omega)⟩
      obtain ⟨v0, hv0⟩ := hv
      rw [hv0] at hk
      have hs : a.spot = none := hsp (by omega)
      obtain ⟨b, off, sp⟩ := a
      simp only at hs
      subst hs
      rw [Addr.add_lit, Addr.add_lit] at hk
      refine ⟨y, hy, hw, b, off, rfl, World.block_lt_of_cell? W ⟨b, off + i * E.size + 0, none⟩ hk, cs', fun j hj => ?_, hr⟩
      have := hcell j hj
      rw [Addr.add_lit, Addr.add_lit] at this
      exact this
    have hg : ∀ i (hi : i < len), (List.ofFn (n := len) fun i => Classical.choose (each i.val i.isLt)).getD i E.zero = Classical.choose (each i hi) := fun i hi => by simp [List.getD, hi]
    refine ⟨List.ofFn (n := len) fun i => Classical.choose (each i.val i.isLt), ⟨_, rfl, some a, cap, by simp, by simp; omega, hm, (fun h => by cases h), fun i hi => ?_⟩, ?_, ?_⟩
    · have hi' : i < len := by simpa using hi
      obtain ⟨_, _, b, off, rfl, h1, C, h2, h3⟩ := Classical.choose_spec (each i hi')
      refine ⟨b, off, rfl, h1, h1, C, h2, ?_⟩
      rw [hg i hi']
      exact h3
    · intro y hy
      obtain ⟨i, rfl⟩ := List.mem_ofFn.1 hy
      exact (Classical.choose_spec (each i.val i.isLt)).1
    · refine Nat.le_trans ?_ (bk.slice _ _)
      unfold wtS
      have hmi := map_index E.zero (List.ofFn (n := len) fun i => Classical.choose (each i.val i.isLt))
      rw [List.length_ofFn] at hmi
      rw [← hmi, List.map_map, List.map_map]
      refine Nat.add_le_add_right (sum_le_sum _ _ _ fun i hi => ?_) 1
      have hi' : i < len := List.mem_range.1 hi
      simp only [Function.comp]
      rw [hg i hi']
      exact (Classical.choose_spec (each i hi')).2.1
theorem opensB_pair {f0 f1 : Field} (hu : P.underlying t = some (.struct #[f0, f1])) (hc : P.cellsOf t = E.size + F.size) (h0 : f0.offset = 0) (h1 : f1.offset = E.size) (he : OpensB P E ok wt f0.type) (hf : OpensB P F ok' wt' f1.type) : OpensB P (prE E F) (fun x => ok x.1 ∧ ok' x.2) (wtP wt wt') t := by
  refine ⟨hc, fun {H} enc b W base fuel cs x h => ?_⟩
  obtain ⟨y0, y1, n, rfl, hl, t0, t1⟩ := trod_struct2 hu h
  rw [he.1, h0] at t0
  rw [hf.1, h1] at t1
  obtain ⟨x0, r0, k0, w0⟩ := he.2 enc b W base _ _ _ t0
  obtain ⟨x1, r1, k1, w1⟩ := hf.2 enc b W base _ _ _ t1
  refine ⟨(x0, x1), ⟨_, _, ?_, r0, r1⟩, ⟨k0, k1⟩, Nat.le_trans ?_ (b.agg _)⟩
  · rw [hc] at hl
    simp only [List.drop_zero]
    rw [List.take_of_length_le (l := List.drop E.size cs) (by simp; omega), List.take_append_drop]
  · simp [wtP]; omega
theorem opensB_triple {f0 f1 f2 : Field} (hu : P.underlying t = some (.struct #[f0, f1, f2])) (hc : P.cellsOf t = E.size + (F.size + G.size)) (h0 : f0.offset = 0) (h1 : f1.offset = E.size) (h2 : f2.offset = E.size + F.size) (he : OpensB P E ok wt f0.type) (hf : OpensB P F ok' wt' f1.type) (hg : OpensB P G ok'' wt'' f2.type) :
    OpensB P (prE E (prE F G)) (fun x => ok x.1 ∧ ok' x.2.1 ∧ ok'' x.2.2) (wtP wt (wtP wt' wt'')) t := by
  refine ⟨hc, fun {H} enc b W base fuel cs x h => ?_⟩
  obtain ⟨y0, y1, y2, n, rfl, hl, t0, t1, t2⟩ := trod_struct3 hu h
  rw [he.1, h0] at t0
  rw [hf.1, h1] at t1
  rw [hg.1, h2] at t2
  obtain ⟨x0, r0, k0, w0⟩ := he.2 enc b W base _ _ _ t0
  obtain ⟨x1, r1, k1, w1⟩ := hf.2 enc b W base _ _ _ t1
  obtain ⟨x2, r2, k2, w2⟩ := hg.2 enc b W base _ _ _ t2
  refine ⟨(x0, x1, x2), ⟨_, _, ?_, r0, _, _, rfl, r1, r2⟩, ⟨k0, k1, k2⟩, Nat.le_trans ?_ (b.agg _)⟩
  · rw [hc] at hl
    have e1 : (List.drop (E.size + F.size) cs) = List.drop F.size (List.drop E.size cs) := by rw [List.drop_drop]
    rw [List.take_of_length_le (l := List.drop (E.size + F.size) cs) (by simp; omega), e1, List.take_append_drop, List.drop_zero, List.take_append_drop]
  · simp [wtP]; omega
/-- An argument that is a slice. -/
theorem opensB_arg (hu : P.underlying t = some (.slice e)) (hc : P.cellsOf t = 1) (h0 : 0 < E.size) (he : OpensB P E ok wt e) {H : Type} {enc : TypeId × Value → H} (b : Bulk H) {W : World} {base : Nat} {v : Value} {d : DataW H} {p : List MemPlace} (hv : Value.okWide P W .any base t v) (h : DataW.Trod enc P W 0 (fun _ => true) true t v d p) :
    ∃ L, HeldE E (fun b => b < W.heap.size) W v L ∧ (∀ x ∈ L, ok x) ∧ wtS wt L ≤ b.of d := by
  obtain ⟨a0, len, cap, rfl⟩ := okWide_slice hu hv
  obtain ⟨fuel, hf⟩ := h
  obtain ⟨y, ⟨v', hv', hr⟩, hk, hw⟩ := (opensB_slice hu hc h0 he).2 enc b W 0 _ _ _ hf
  simp [Value.cells] at hv'
  subst hv'
  exact ⟨y, hr, hk, hw⟩
/-- An argument that is a struct. -/
theorem opensB_struct {fs : Array Field} (hu : P.underlying t = some (.struct fs)) (he : OpensB P E ok wt t) {H : Type} {enc : TypeId × Value → H} (b : Bulk H) {W : World} {base : Nat} {v : Value} {d : DataW H} {p : List MemPlace} (hv : Value.okWide P W .any base t v) (h : DataW.Trod enc P W 0 (fun _ => true) true t v d p) :
    ∃ cs y, v = .agg cs ∧ E.rep (fun b => b < W.heap.size) W cs.toList y ∧ ok y ∧ wt y ≤ b.of d := by
  obtain ⟨cs, rfl, _⟩ := okWide_struct hu hv
  obtain ⟨fuel, hf⟩ := h
  obtain ⟨y, hr, hk, hw⟩ := he.2 enc b W 0 _ _ _ hf
  exact ⟨cs, y, rfl, by simpa [Value.cells] using hr, hk, hw⟩
end
end Go.Proofs.YteinppjklhomnaaDoor
/- A law's frame where what comes in is of at most such a bulk; the bulk of data. -/
namespace Go.Proofs.YteinppjklhomnaaDoor
open Go.RowKit Go.ChangeShapes Go.WideShapes
open Go.ChangeAt
theorem law_frame_upto {H : Type} {enc : TypeId × Value → H} {C : Checked} {os : Os} {f : FuncId} {fn : Func} {s : ChangeSpec} {k : (H : Type) → List (DataW H) → Bool} {F : Stop.Interp} {tb : TypeId}
    (own : ownKnob C.prog.godebug = none) (started : os.Started) (noInit : C.prog.inits.idxOf? f = none) (hfn : C.prog.funcs[f]? = some fn)
    (hl : laidOutB C.prog = true) (hres : fn.resultTypes = #[tb]) (hbool : C.prog.underlying tb = some .bool) (hvars : s.vars = [])
    (hread : ∀ t ∈ fn.params.toList, C.prog.readableRec t = true ∧ t < C.prog.types.size)
    (hspec : ∀ ds : List (DataW H), ds.length = fn.params.size → s.fn H ds = { results := [.lit (.bool true)], args := ds })
    (witness : ∃ (w : World) (tape : Tape) (i : Input), w.os = os ∧ (w.forCall tape i).Shaped C.prog ∧ i.vars = [] ∧ Input.okWide C.prog (w.forCall tape i) .any w.heap.size f i ∧
      ({ OpenSpec.ofChange s with cond := some k } : OpenSpec).pre6 enc C.prog fn [] false (w.forCall tape i).memory i.args ∧ ({} : Assume).holds C.prog (lone (Frame.enter C.prog f i.args .normal) [] (w.forCall tape i)))
    (walk : ∀ (W : World) (base : Nat) (args : Array Value) (ds : List (DataW H)) (before : List MemPlace),
      (∀ (j : Nat) t v, fn.params[j]? = some t → args[j]? = some v → Value.okWide C.prog W .any base t v) →
      DataW.TrodAll enc C.prog W 0 (fun _ => true) true fn.params.toList args.toList ds before → k H ds = true → Calls C.prog f args W (Yes W)) :
    ReturnsInHanded {} C os f .any (({ OpenSpec.ofChange s with cond := some k } : OpenSpec).pre6 enc C.prog fn [] false) ((({ OpenSpec.ofChange s with cond := some k } : OpenSpec).at F).post enc C.prog fn false true false false) := by
  refine returnsInHanded_of_cond (C := C) (s := { OpenSpec.ofChange s with cond := some k }) (k := k) rfl own started noInit hfn witness ?_
  intro W base args ds gs before hval hW _ hkk _
  have hW' := hW
  obtain ⟨p, q, hA, hV, rfl, hfz, hnd⟩ := hW
  have hvars' : ({ OpenSpec.ofChange s with cond := some k } : OpenSpec).vars = [] := hvars
  rw [hvars'] at hV
  obtain ⟨rfl, rfl⟩ := trodVars_none hV
  rw [List.append_nil] at hkk
  refine (walk W base args ds p hval hA hkk).mono fun e W' he => ?_
  obtain ⟨rfl, hb⟩ := he
  have hlt : ∀ x ∈ p, x.block < W.heap.size := fun x hx => hW'.lt x (by simpa using hx)
  have e1 : s.fn H (ds ++ []) = { results := [.lit (.bool true)], args := ds } := by
    rw [List.append_nil]
    exact hspec ds (by simpa using trodAll_length _ _ _ _ hA)
  have e2 : (({ OpenSpec.ofChange s with cond := some k } : OpenSpec).at F).fn H (ds ++ []) = { results := [.lit (.bool true)], args := ds } := e1
  refine ⟨_, rfl, ds, [], p ++ [], [], p, [], hW', ?_, ?_, ?_, hb.frame _, fun h => by cases h⟩
  · rw [e2, hres]
    exact trodAll_mk1 (shut_bool hbool true)
  · rw [e2]
    exact trodAll_below hl hb _ _ _ _ hread hlt hA
  · rw [e2]
    show DataW.TrodVars enc C.prog W' _ s.vars [] []
    rw [hvars]
    rfl
def seatBulk (H : Type) : Bulk H where
  of := Rows.uptoBulk
  one := fun d => by
    cases d with
    | lit l => cases l <;> simp [Rows.uptoBulk]
    | nil => simp [Rows.uptoBulk]
    | ptr d => simp [Rows.uptoBulk]
    | slice elems spare => simp [Rows.uptoBulk]
    | agg parts => simp [Rows.uptoBulk]
    | iface t d => simp [Rows.uptoBulk]
    | map entries => simp [Rows.uptoBulk]
    | held h => simp [Rows.uptoBulk]
  agg := fun ps => by
    have : ∀ l : List (DataW H), (l.map Rows.uptoBulk).sum = Rows.uptoBulkAll l := by
      intro l
      induction l with
      | nil => simp [Rows.uptoBulkAll]
      | cons x l ih => simp [Rows.uptoBulkAll, ih]
    rw [this]
    simp [Rows.uptoBulk]
  slice := fun es sp => by
    have : ∀ l : List (DataW H), (l.map Rows.uptoBulk).sum = Rows.uptoBulkAll l := by
      intro l
      induction l with
      | nil => simp [Rows.uptoBulkAll]
      | cons x l ih => simp [Rows.uptoBulkAll, ih]
    rw [this]
    simp [Rows.uptoBulk]
theorem bulk_all {H : Type} (l : List (DataW H)) (hk : Rows.uptoSmall H l = true) : ∀ d ∈ l, (seatBulk H).of d ≤ 1048576 := by
  intro d hd
  have h1 : Rows.uptoBulkAll l ≤ 1048576 := of_decide_eq_true hk
  have h2 : ∀ l : List (DataW H), d ∈ l → Rows.uptoBulk d ≤ Rows.uptoBulkAll l := by
    intro l
    induction l with
    | nil => intro h; cases h
    | cons x r ih =>
      intro h
      simp only [Rows.uptoBulkAll]
      cases List.mem_cons.1 h with
      | inl e => subst e; omega
      | inr e => have := ih e; omega
  exact Nat.le_trans (h2 l hd) h1
end Go.Proofs.YteinppjklhomnaaDoor
/- Structs of four fields that are arguments. -/
namespace Go.Proofs.YteinppjklhomnaaDoor
open Go.RowKit Go.ChangeShapes Go.WideShapes
theorem drop_take_app4 {α : Type} (cs : List α) (a b : Nat) : (cs.drop a).take b ++ cs.drop (a + b) = cs.drop a := by
  rw [← List.drop_drop]; exact List.take_append_drop _ _
theorem opens_four {P : Program} {α β γ δ : Type} {E : Elem α} {F : Elem β} {G : Elem γ} {D : Elem δ} {ok0 : α → Prop} {ok1 : β → Prop} {ok2 : γ → Prop} {ok3 : δ → Prop} {t : TypeId} {f0 f1 f2 f3 : Field}
    (hu : P.underlying t = some (.struct #[f0, f1, f2, f3])) (hc : P.cellsOf t = E.size + (F.size + (G.size + D.size))) (h0 : f0.offset = 0) (h1 : f1.offset = E.size) (h2 : f2.offset = E.size + F.size) (h3 : f3.offset = E.size + F.size + G.size)
    (he : Opens P E ok0 f0.type) (hf : Opens P F ok1 f1.type) (hg : Opens P G ok2 f2.type) (hd : Opens P D ok3 f3.type) :
    Opens P (prE E (prE F (prE G D))) (fun x => ok0 x.1 ∧ ok1 x.2.1 ∧ ok2 x.2.2.1 ∧ ok3 x.2.2.2) t := by
  refine ⟨hc, fun {H} enc W base fuel cs x h => ?_⟩
  obtain ⟨xs, n, _, rfl, hl, hlen, hfs⟩ := DataW.trod_struct hu h
  match xs, hlen with
  | [y0, y1, y2, y3], _ =>
    have t0 : DataW.trod enc P W base (fun _ => true) true n f0.type ((cs.drop f0.offset).take (P.cellsOf f0.type)) = some y0 := by simpa using hfs 0 f0 rfl
    have t1 : DataW.trod enc P W base (fun _ => true) true n f1.type ((cs.drop f1.offset).take (P.cellsOf f1.type)) = some y1 := by simpa using hfs 1 f1 rfl
    have t2 : DataW.trod enc P W base (fun _ => true) true n f2.type ((cs.drop f2.offset).take (P.cellsOf f2.type)) = some y2 := by simpa using hfs 2 f2 rfl
    have t3 : DataW.trod enc P W base (fun _ => true) true n f3.type ((cs.drop f3.offset).take (P.cellsOf f3.type)) = some y3 := by simpa using hfs 3 f3 rfl
    rw [he.1, h0] at t0
    rw [hf.1, h1] at t1
    rw [hg.1, h2] at t2
    rw [hd.1, h3] at t3
    obtain ⟨x0, r0, k0⟩ := he.2 enc W base _ _ _ t0
    obtain ⟨x1, r1, k1⟩ := hf.2 enc W base _ _ _ t1
    obtain ⟨x2, r2, k2⟩ := hg.2 enc W base _ _ _ t2
    obtain ⟨x3, r3, k3⟩ := hd.2 enc W base _ _ _ t3
    refine ⟨(x0, x1, x2, x3), ⟨_, _, ?_, r0, _, _, rfl, r1, _, _, rfl, r2, r3⟩, k0, k1, k2, k3⟩
    rw [hc] at hl
    rw [List.take_of_length_le (l := List.drop (E.size + F.size + G.size) cs) (by simp; omega), drop_take_app4, drop_take_app4, List.drop_zero, List.take_append_drop]
end Go.Proofs.YteinppjklhomnaaDoor
/- Contracts of pairs' functions and of the reference's. -/
namespace Go.Proofs.YteinppjklhomnaaDoor
open Go.RowKit Go.ChangeShapes Go.WideShapes
def clI (n : Int) : Int := if n < 0 ∨ 13 < n then 0 else n
theorem clI_bd (n : Int) : 0 ≤ clI n ∧ clI n ≤ 13 := by unfold clI; omega
def brB (n : Int) : Bool := decide (1 ≤ n) && decide (n ≤ 3)
theorem brB_cases (n : Int) : (n = 1 ∧ brB n = true) ∨ (n = 2 ∧ brB n = true) ∨ (n = 3 ∧ brB n = true) ∨ (n ≠ 1 ∧ n ≠ 2 ∧ n ≠ 3 ∧ brB n = false) := by unfold brB; simp; omega
def sylB (a b : Int) : Bool :=
  if a = 9 then decide (b = 9 ∨ b = 10 ∨ b = 12 ∨ b = 13)
  else if a = 12 ∨ a = 10 then decide (b = 10 ∨ b = 11)
  else if a = 13 ∨ a = 11 then decide (b = 11) else false
theorem sylB_cases (a b : Int) : (a = 9 ∧ b = 9 ∧ sylB a b = true) ∨ (a = 9 ∧ b = 10 ∧ sylB a b = true) ∨ (a = 9 ∧ b = 12 ∧ sylB a b = true) ∨ (a = 9 ∧ b = 13 ∧ sylB a b = true) ∨ (a = 9 ∧ b ≠ 9 ∧ b ≠ 10 ∧ b ≠ 12 ∧ b ≠ 13 ∧ sylB a b = false)
    ∨ ((a = 12 ∨ a = 10) ∧ b = 10 ∧ sylB a b = true) ∨ ((a = 12 ∨ a = 10) ∧ b = 11 ∧ sylB a b = true) ∨ ((a = 12 ∨ a = 10) ∧ b ≠ 10 ∧ b ≠ 11 ∧ sylB a b = false)
    ∨ ((a = 13 ∨ a = 11) ∧ b = 11 ∧ sylB a b = true) ∨ ((a = 13 ∨ a = 11) ∧ b ≠ 11 ∧ sylB a b = false)
    ∨ (a ≠ 9 ∧ a ≠ 10 ∧ a ≠ 11 ∧ a ≠ 12 ∧ a ≠ 13 ∧ sylB a b = false) := by
  unfold sylB
  by_cases h9 : a = 9
  · subst h9; simp; omega
  · by_cases h12 : a = 12 ∨ a = 10
    · simp [h9, h12]; omega
    · by_cases h13 : a = 13 ∨ a = 11
      · simp [h9, h12, h13]; omega
      · simp [h9, h12, h13]; omega
/-- Whether two classes go together. -/
def pairI (a b : Int) : Int :=
  if a = 1 ∧ b = 2 then 1 else if brB a = true ∨ brB b = true then 0 else if sylB a b = true then 1
  else if b = 4 ∨ b = 5 ∨ b = 8 ∨ a = 7 then 1 else if (b = 0 ∧ (a = 5 ∨ a = 4)) ∨ (a = 6 ∧ b = 6) then 2 else 0
def joinI (a b : Int) : Int := pairI (clI a) (clI b)
theorem pairI_cases (a b : Int) : (a = 1 ∧ b = 2 ∧ pairI a b = 1) ∨ (¬ (a = 1 ∧ b = 2) ∧ brB a = true ∧ pairI a b = 0) ∨ (a ≠ 1 ∧ brB a = false ∧ brB b = true ∧ pairI a b = 0)
    ∨ (a ≠ 1 ∧ brB a = false ∧ brB b = false ∧ sylB a b = true ∧ pairI a b = 1) ∨ (a ≠ 1 ∧ brB a = false ∧ brB b = false ∧ sylB a b = false ∧ pairI a b = (if b = 4 ∨ b = 5 ∨ b = 8 ∨ a = 7 then 1 else if (b = 0 ∧ (a = 5 ∨ a = 4)) ∨ (a = 6 ∧ b = 6) then 2 else 0)) := by
  unfold pairI
  by_cases h : a = 1 ∧ b = 2
  · simp [h]
  · have h1 : brB a = false → a ≠ 1 := by intro hb he; subst he; simp [brB] at hb
    rw [if_neg h]
    cases ha : brB a with
    | true => simp [h]
    | false =>
      have h1 := h1 ha
      cases hb : brB b with
      | true => simp [h1]
      | false =>
        cases hs : sylB a b with
        | true => simp [h1]
        | false => simp [h1]
end Go.Proofs.YteinppjklhomnaaDoor
/- pairs.Join: what two classes answer; works of layer 14. -/
namespace Go.Proofs.YteinppjklhomnaaDoor
open Go.RowKit Go.ChangeShapes Go.WideShapes
theorem pairI_none (x y : Int) (h : ¬ (y = 4 ∨ y = 5 ∨ y = 8 ∨ x = 7)) (k : ¬ ((y = 0 ∧ (x = 5 ∨ x = 4)) ∨ (x = 6 ∧ y = 6))) : (if y = 4 ∨ y = 5 ∨ y = 8 ∨ x = 7 then (1 : Int) else if (y = 0 ∧ (x = 5 ∨ x = 4)) ∨ (x = 6 ∧ y = 6) then 2 else 0) = 0 := by
  rw [if_neg h, if_neg k]
end Go.Proofs.YteinppjklhomnaaDoor
/- Contracts of the reference's functions of layer 14; pairs.Join; works. -/
namespace Go.Proofs.YteinppjklhomnaaDoor
open Go.RowKit Go.ChangeShapes Go.WideShapes
def rowB : Nat → List UInt8
  | 0 => [48, 48, 48, 48, 49, 49, 48, 48, 49, 48, 48, 48, 48, 48]
  | 1 => [48, 48, 49, 48, 48, 48, 48, 48, 48, 48, 48, 48, 48, 48]
  | 2 => [48, 48, 48, 48, 48, 48, 48, 48, 48, 48, 48, 48, 48, 48]
  | 3 => [48, 48, 48, 48, 48, 48, 48, 48, 48, 48, 48, 48, 48, 48]
  | 4 => [50, 48, 48, 48, 49, 49, 48, 48, 49, 48, 48, 48, 48, 48]
  | 5 => [50, 48, 48, 48, 49, 49, 48, 48, 49, 48, 48, 48, 48, 48]
  | 6 => [48, 48, 48, 48, 49, 49, 50, 48, 49, 48, 48, 48, 48, 48]
  | 7 => [49, 48, 48, 48, 49, 49, 49, 49, 49, 49, 49, 49, 49, 49]
  | 8 => [48, 48, 48, 48, 49, 49, 48, 48, 49, 48, 48, 48, 48, 48]
  | 9 => [48, 48, 48, 48, 49, 49, 48, 48, 49, 49, 49, 48, 49, 49]
  | 10 => [48, 48, 48, 48, 49, 49, 48, 48, 49, 48, 49, 49, 48, 48]
  | 11 => [48, 48, 48, 48, 49, 49, 48, 48, 49, 48, 48, 49, 48, 48]
  | 12 => [48, 48, 48, 48, 49, 49, 48, 48, 49, 48, 49, 49, 48, 48]
  | _ => [48, 48, 48, 48, 49, 49, 48, 48, 49, 48, 48, 49, 48, 48]
def rowS (i : Nat) : ByteArray := ⟨(rowB i).toArray⟩
theorem rowS_size (i : Nat) : (rowS i).size = 14 := by
  unfold rowS rowB
  split <;> rfl
theorem row_tab : ∀ a : Fin 14, ∀ b : Fin 14, ((rowB a.val).getD b.val 0).toNat = (48 + pairI a.val b.val) := by decide +kernel
theorem row_at (a b : Nat) (ha : a < 14) (h : b < (rowS a).size) : (((rowS a)[b]'h).toNat : Int) = 48 + pairI a b := by
  have hb : b < 14 := by rw [rowS_size] at h; exact h
  have := row_tab ⟨a, ha⟩ ⟨b, hb⟩
  have hl : b < (rowB a).length := h
  simp only [List.getD, List.getElem?_eq_getElem hl, Option.getD_some] at this
  exact this
def RowsOk (w : World) (e : Ending) (w' : World) : Prop := ∃ g, e = .returned (.slice (some ⟨g, 0, none⟩) 14 14) ∧ (∀ i, i < 14 → w'.cell? ⟨g, i, none⟩ = some (.string (rowS i))) ∧ Below w.heap.size w w'
def GivesJoin (w : World) (a b : Int) (e : Ending) (w' : World) : Prop := e = .returned (.int .i64 (joinI a b)) ∧ Below w.heap.size w w'
theorem refjoin_tail (a b : Nat) (ha : a < 14) (hb : b < 14) (s : ByteArray) (hs : s = rowS a) : s.size = 14 ∧ ∀ h : b < s.size, ((s[b]'h).toNat : Int) - 48 = pairI a b := by
  subst hs
  exact ⟨rowS_size a, fun h => by rw [row_at a b ha h]; omega⟩
theorem wrap_dig (u : UInt8) : wrap64 (wrap64 (u.toNat : Int) - 48) = (u.toNat : Int) - 48 := by
  have h := u.toNat_lt
  simp only [wrap64]
  omega
theorem clI_in (i : Nat) (h : i < 14) : clI (i : Int) = (i : Int) := by unfold clI; omega
theorem clI_out (a : Int) (h : a < 0 ∨ 13 < a) : clI a = ((0 : Nat) : Int) := by unfold clI; simp; omega
end Go.Proofs.YteinppjklhomnaaDoor
/- Regions that draw their order, walked operation by operation, in whatever order: each operation's value is told by a relation that later ones keep. Of no program. -/
namespace Go.Proofs.YteinppjklhomnaaDoor
open Go.RowKit Go.ChangeShapes Go.WideShapes
namespace Reg
/-- What an operation that was carried out has left. -/
def upon (P : Program) (Post : Value → World → Prop) : Result Next → Prop
  | .ok (.value u) w' => Post u w'
  | .ok .skip w' => Post undef w'
  | .ok (.enter f args) w' => Calls P f args w' (fun e w'' => ∃ v, e = .returned v ∧ Post v w'')
  | _ => False
/-- A region's plan: the frame by its values, what each value is, what the world is, what an operation may do to it. -/
structure Plan where
  F : (Nat → Value) → Act
  E : Nat → Value → World → Prop
  C : Array Bool → World → Prop
  Ext : World → World → Prop
  stable : ∀ j x w w', Ext w w' → E j x w → E j x w'
def upd (xs : Nat → Value) (i : Nat) (v : Value) : Nat → Value := fun j => if j = i then v else xs j
/-- What is done has what it waits for done. -/
def Closed (l : List Oper) (L : Array Bool) : Prop := ∀ j o, l[j]? = some o → L.getD j false = true → ∀ e ∈ o.after, Region.binds .any e = true → L.getD e.on false = true
theorem Closed.next {l : List Oper} {L : Array Bool} {i : Nat} (h : Closed l L) (hr : i ∈ Region.ready .any l.toArray L) : Closed l (L.setIfInBounds i true) := by
  intro j o ho hl e he hb
  by_cases hij : i = j
  · subst hij
    obtain ⟨_, o', ho', hall⟩ := mem_ready.1 hr
    obtain rfl : o = o' := Option.some.inj (ho.symm.trans (by simpa using ho'))
    exact getD_set_true (hall e he hb)
  · rw [getD_set_ne false hij] at hl
    exact getD_set_true (h j o ho hl e he hb)
theorem Closed.start (l : List Oper) (n : Nat) : Closed l (Array.replicate n false) := fun j o _ hl => by rw [getD_replicate_false] at hl; cases hl
/-- Operation i waits for j, in at most so many steps. -/
def reach (ops : Array Oper) : Nat → Nat → Nat → Bool
  | 0, _, _ => false
  | f + 1, i, j => Region.waitsFor .any ops i j || match ops[i]? with
    | some o => o.after.any fun e => Region.binds .any e && reach ops f e.on j
    | none => false
theorem Closed.reach {l : List Oper} {L : Array Bool} (h : Closed l L) : ∀ (f i j : Nat), L.getD i false = true → reach l.toArray f i j = true → L.getD j false = true
  | 0, _, _, _, hr => by simp [Reg.reach] at hr
  | f + 1, i, j, hi, hr => by
    unfold Reg.reach at hr
    rw [Bool.or_eq_true] at hr
    rcases hr with hr | hr
    · obtain ⟨o, ho, e, he, hb, hon⟩ := Region.waitsFor_spec hr
      rw [← hon]
      exact h i o (by simpa using ho) hi e he hb
    · cases ho : l.toArray[i]? with
      | none => rw [ho] at hr; cases hr
      | some o =>
        rw [ho] at hr
        obtain ⟨e, he, hb⟩ := Array.any_eq_true'.1 hr
        rw [Bool.and_eq_true] at hb
        exact Closed.reach h f e.on j (h i o (by simpa using ho) hi e he hb.1) hb.2
/-- What is known when operation i comes up. -/
structure Here (p : Plan) (l : List Oper) (xs0 : Nat → Value) (i : Nat) (L : Array Bool) (w : World) (xs : Nat → Value) : Prop where
  size : L.size = l.length
  closed : Closed l L
  ready : i ∈ Region.ready .any l.toArray L
  cls : p.C L w
  vals : ∀ j, j < l.length → L.getD j false = true → p.E j (xs j) w
  olds : ∀ j, L.getD j false = false → xs j = xs0 j
theorem Here.dep {p : Plan} {l : List Oper} {xs0 : Nat → Value} {i : Nat} {L : Array Bool} {w : World} {xs : Nat → Value} (h : Here p l xs0 i L w xs) (j : Nat) (hj : reach l.toArray 6 i j = true) : L.getD j false = true := by
  obtain ⟨_, o, ho, hall⟩ := mem_ready.1 h.ready
  unfold reach at hj
  rw [Bool.or_eq_true] at hj
  rcases hj with hj | hj
  · obtain ⟨o', ho', e, he, hb, hon⟩ := Region.waitsFor_spec hj
    obtain rfl : o = o' := Option.some.inj (ho.symm.trans ho')
    rw [← hon]
    exact hall e he hb
  · rw [ho] at hj
    obtain ⟨e, he, hb⟩ := Array.any_eq_true'.1 hj
    rw [Bool.and_eq_true] at hb
    exact h.closed.reach 5 e.on j (hall e he hb.1) hb.2
theorem Here.val {p : Plan} {l : List Oper} {xs0 : Nat → Value} {i : Nat} {L : Array Bool} {w : World} {xs : Nat → Value} (h : Here p l xs0 i L w xs) (j : Nat) (hj : reach l.toArray 6 i j = true) (hl : decide (j < l.length) = true) : p.E j (xs j) w :=
  h.vals j (of_decide_eq_true hl) (h.dep j hj)
theorem Here.un {p : Plan} {l : List Oper} {xs0 : Nat → Value} {i : Nat} {L : Array Bool} {w : World} {xs : Nat → Value} (h : Here p l xs0 i L w xs) : Mix.one L i = 0 := Mix.one_ready h.ready
theorem Here.isDone {p : Plan} {l : List Oper} {xs0 : Nat → Value} {i : Nat} {L : Array Bool} {w : World} {xs : Nat → Value} (h : Here p l xs0 i L w xs) (j : Nat) (hj : reach l.toArray 6 i j = true) : Mix.one L j = 1 := by
  unfold Mix.one
  rw [if_pos (h.dep j hj)]
/-- What waits for this operation is not done. -/
theorem Here.notYet {p : Plan} {l : List Oper} {xs0 : Nat → Value} {i : Nat} {L : Array Bool} {w : World} {xs : Nat → Value} (h : Here p l xs0 i L w xs) (j : Nat) (hj : reach l.toArray 6 j i = true) : L.getD j false = false := by
  cases hl : L.getD j false with
  | false => rfl
  | true =>
    have h1 := h.closed.reach 6 j i hl hj
    have h2 := (mem_ready.1 h.ready).1
    obtain ⟨o', ho', _⟩ := (mem_ready.1 h.ready).2
    have hlt : i < l.length := by simpa using (Array.getElem?_eq_some_iff.1 ho').1
    rw [getD_any (by rw [h.size]; exact hlt), h2] at h1
    cases h1
theorem Here.old {p : Plan} {l : List Oper} {xs0 : Nat → Value} {i : Nat} {L : Array Bool} {w : World} {xs : Nat → Value} (h : Here p l xs0 i L w xs) (j : Nat) (hj : reach l.toArray 6 j i = true) : xs j = xs0 j := h.olds j (h.notYet j hj)
/-- Operation i goes through. -/
def Step (P : Program) (p : Plan) (l : List Oper) (xs0 : Nat → Value) (i : Nat) (o : Oper) : Prop :=
  ∀ L w xs, Here p l xs0 i L w xs →
    (Region.wanted o (yielded l.toArray (p.F xs).tmps) = true ∧ upon P (fun v w' => p.C (L.setIfInBounds i true) w' ∧ p.E i v w' ∧ p.Ext w w') ((execOp (p.F xs).eval o).run P w)) ∨
    (Region.wanted o (yielded l.toArray (p.F xs).tmps) = false ∧ p.C (L.setIfInBounds i true) w ∧ p.E i undef w)
def Steps (P : Program) (p : Plan) (l : List Oper) (xs0 : Nat → Value) : List Oper → Nat → Prop
  | [], _ => True
  | o :: rest, i => Step P p l xs0 i o ∧ Steps P p l xs0 rest (i + 1)
/-- Each operation's slot is its own. -/
def Puts (p : Plan) : List Oper → Nat → Prop
  | [], _ => True
  | o :: rest, i => (∀ xs v, (p.F xs).put o.dst v = p.F (upd xs i v)) ∧ Puts p rest (i + 1)
theorem puts_at {p : Plan} : ∀ (m : List Oper) (k : Nat), Puts p m k → ∀ j o, m[j]? = some o → ∀ xs v, (p.F xs).put o.dst v = p.F (upd xs (k + j) v)
  | [], _, _, j, o, h => by simp at h
  | q :: m, k, hs, j, o, h => by
    cases j with
    | zero => simp at h; subst h; exact hs.1
    | succ j =>
      have := puts_at m (k + 1) hs.2 j o (by simpa using h)
      rwa [show k + 1 + j = k + (j + 1) by omega] at this
theorem steps_at {P : Program} {p : Plan} {l : List Oper} {xs0 : Nat → Value} : ∀ (m : List Oper) (k : Nat), Steps P p l xs0 m k → ∀ j o, m[j]? = some o → Step P p l xs0 (k + j) o
  | [], _, _, j, o, h => by simp at h
  | q :: m, k, hs, j, o, h => by
    cases j with
    | zero => simp at h; subst h; exact hs.1
    | succ j =>
      have := steps_at m (k + 1) hs.2 j o (by simpa using h)
      rwa [show k + 1 + j = k + (j + 1) by omega] at this
section
variable {P : Program} {l : List Oper} {p : Plan} {xs0 : Nat → Value}
/-- The plan holds so far. -/
def Inv (p : Plan) (l : List Oper) (xs0 : Nat → Value) (L : Array Bool) (a : Act) (w : World) : Prop := ∃ xs, a = p.F xs ∧ L.size = l.length ∧ Closed l L ∧ p.C L w ∧ (∀ j, j < l.length → L.getD j false = true → p.E j (xs j) w) ∧ ∀ j, L.getD j false = false → xs j = xs0 j
theorem Inv.next {L : Array Bool} {w w' : World} {xs : Nat → Value} {i : Nat} {o : Oper} {v : Value} (hput : ∀ i o, l[i]? = some o → ∀ xs v, (p.F xs).put o.dst v = p.F (upd xs i v)) (ho : l[i]? = some o) (hs : L.size = l.length) (hc : Closed l (L.setIfInBounds i true))
    (hv : ∀ j, j < l.length → L.getD j false = true → p.E j (xs j) w) (hold : ∀ j, L.getD j false = false → xs j = xs0 j) (hC : p.C (L.setIfInBounds i true) w') (hE : p.E i v w') (hx : ∀ j, p.E j (xs j) w → p.E j (xs j) w') : Inv p l xs0 (L.setIfInBounds i true) ((p.F xs).put o.dst v) w' := by
  refine ⟨upd xs i v, hput i o ho xs v, by simpa using hs, hc, hC, fun j hj hl => ?_, fun j hl => ?_⟩
  · unfold upd
    by_cases h : j = i
    · subst h
      rw [if_pos rfl]; exact hE
    · rw [if_neg h]
      rw [getD_set_ne false (Ne.symm h)] at hl
      exact hx j (hv j hj hl)
  · unfold upd
    by_cases h : j = i
    · subst h
      have hlt : j < L.size := by rw [hs]; exact (List.getElem?_eq_some_iff.1 ho).1
      rw [Array.getD_eq_getD_getElem?, Array.getElem?_setIfInBounds_self_of_lt hlt] at hl
      cases hl
    · rw [if_neg h]
      rw [getD_set_ne false (Ne.symm h)] at hl
      exact hold j hl
theorem wpOp_of {L : Array Bool} {a : Act} {w : World} {i : Nat} {K' : Act → World → Prop} {Q' : Exit → Act → World → Prop} (hput : ∀ i o, l[i]? = some o → ∀ xs v, (p.F xs).put o.dst v = p.F (upd xs i v)) (hst : Steps P p l xs0 l 0) (hI : Inv p l xs0 L a w) (hr : i ∈ Region.ready .any l.toArray L)
    (h : ∀ a' w', Inv p l xs0 (L.setIfInBounds i true) a' w' → K' a' w') : wpOp P l.toArray Q' i K' a w := by
  obtain ⟨xs, rfl, hs, hcl, hC, hv, hold⟩ := hI
  have hcn := hcl.next hr
  obtain ⟨_, o, ho, _⟩ := mem_ready.1 hr
  have ho' : l[i]? = some o := by simpa using ho
  have hstep := steps_at l 0 hst i o ho'
  rw [Nat.zero_add] at hstep
  unfold wpOp
  simp only [ho]
  rcases hstep L w xs ⟨hs, hcl, hr, hC, hv, hold⟩ with ⟨hw, hu⟩ | ⟨hw, hC', hE⟩
  · rw [if_pos hw]
    refine .inl ?_
    unfold Oper.wp
    generalize (execOp (p.F xs).eval o).run P w = r at *
    cases r with
    | halt x w' => exact hu.elim
    | ok n w' =>
      cases n <;> simp only [upon] at hu <;> simp only [Oper.upon]
      case value u =>
        obtain ⟨h1, h2, h3⟩ := hu
        exact h _ _ (Inv.next hput ho' hs hcn hv hold h1 h2 fun j => p.stable j _ _ _ h3)
      case skip =>
        obtain ⟨h1, h2, h3⟩ := hu
        exact h _ _ (Inv.next hput ho' hs hcn hv hold h1 h2 fun j => p.stable j _ _ _ h3)
      case enter f args =>
        exact hu.mono fun e w'' ⟨v, he, h1, h2, h3⟩ => by
          subst he
          exact h _ _ (Inv.next hput ho' hs hcn hv hold h1 h2 fun j => p.stable j _ _ _ h3)
  · rw [if_neg (by rw [hw]; exact Bool.false_ne_true)]
    exact h _ _ (Inv.next hput ho' hs hcn hv hold hC' hE fun j h => h)
theorem any_of {Q' : Exit → Act → World → Prop} (hlow : lowB (l ++ [default]) l.length = true) (hput : ∀ i o, l[i]? = some o → ∀ xs v, (p.F xs).put o.dst v = p.F (upd xs i v)) (hst : Steps P p l xs0 l 0) (hQ : ∀ a w, Inv p l xs0 (Array.replicate l.length true) a w → Q' .normal a w) :
    ∀ (f : Nat) (L : Array Bool) (a : Act) (w : World), L.size = l.length → Inv p l xs0 L a w → unlisted l.length L = f → wpAny P .any l.toArray Q' f L a w := by
  have hend : ∀ (L : Array Bool) a w, L.size = l.length → Region.ready .any l.toArray L = [] → Inv p l xs0 L a w → Q' .normal a w := by
    intro L a w hs hr hI
    rw [Mix.all_listed hlow hs hr] at hI
    exact hQ a w hI
  intro f
  induction f with
  | zero =>
    intro L a w hs hI hu
    have hr : Region.ready .any l.toArray L = [] := by
      cases hc : Region.ready .any l.toArray L with
      | nil => rfl
      | cons i t =>
        have hi : i ∈ Region.ready .any l.toArray L := by rw [hc]; simp
        obtain ⟨h0, o, ho, _⟩ := mem_ready.1 hi
        have hlt : i < l.length := by simpa using (Array.getElem?_eq_some_iff.1 ho).1
        have := unlisted_zero hu i hlt
        rw [this] at h0
        cases h0
    exact ⟨hr, hend L a w hs hr hI⟩
  | succ f ih =>
    intro L a w hs hI hu
    refine ⟨fun hr => hend L a w hs hr hI, fun i hi => wpOp_of hput hst hI hi fun a' w' hI' => ih _ a' w' (by simpa using hs) hI' ?_⟩
    obtain ⟨h0, o, ho, _⟩ := mem_ready.1 hi
    have hlt : i < l.length := by simpa using (Array.getElem?_eq_some_iff.1 ho).1
    have := unlisted_set hs hlt h0
    omega
theorem unlisted_all (n : Nat) : unlisted n (Array.replicate n false) = n := by
  unfold unlisted
  rw [List.filter_eq_self.2 (fun i hi => by
    have := List.mem_range.1 hi
    rw [getD_in (by simpa using this) (getD_replicate_false _ _)]; rfl), List.length_range]
/-- A REGION, WHATEVER ITS ORDER. -/
theorem region {id : Nat} {Q : Exit → Act → World → Prop} {a : Act} {w : World} (p : Plan) (xs0 : Nat → Value) (hm : P.follows .mixedOrders = true) (hlow : lowB (l ++ [default]) l.length = true) (h0 : a = p.F xs0) (hC : p.C (Array.replicate l.length false) { w with drawn := w.drawn + 1 })
    (hputs : Puts p l 0) (hst : Steps P p l xs0 l 0)
    (hend : ∀ xs w', p.C (Array.replicate l.length true) w' → (∀ j, j < l.length → p.E j (xs j) w') → Q .normal (p.F xs) w') : (Code.region id l.toArray true).wp P Q a w := by
  refine wp_region_any hm ?_
  have hput : ∀ i o, l[i]? = some o → ∀ xs v, (p.F xs).put o.dst v = p.F (upd xs i v) := fun i o ho => by
    have := puts_at l 0 hputs i o ho
    rwa [Nat.zero_add] at this
  have := any_of (Q' := Q) hlow hput hst (fun a w ⟨xs, e, _, _, hC, hv, _⟩ => by
    subst e
    refine hend xs w hC fun j hj => hv j hj ?_
    rw [Array.getD_eq_getD_getElem?, Array.getElem?_replicate, if_pos hj]
    rfl) l.length (Array.replicate l.length false) a { w with drawn := w.drawn + 1 } (by simp) ⟨xs0, h0, by simp, Closed.start _ _, hC, fun j hj hl => (by rw [getD_replicate_false] at hl; cases hl), fun j _ => rfl⟩ (unlisted_all _)
  simpa using this
/-- The frame with each operation's value in its slot. -/
def frame (xs : Nat → Value) : List (Option Tmp) → Nat → Act → Act
  | [], _, a => a
  | d :: ds, i, a => frame xs ds (i + 1) (a.put d (xs i))
theorem put_none (a : Act) (v : Value) : a.put none v = a := rfl
def dsts (l : List Oper) : List (Option Tmp) := l.map (·.dst)
/-- No two operations have one slot. -/
def apartB : List (Option Tmp) → Bool
  | [] => true
  | none :: ds => apartB ds
  | some d :: ds => !ds.contains (some d) && apartB ds
theorem frame_put (xs : Nat → Value) (d : Option Tmp) (v : Value) : ∀ (ds : List (Option Tmp)) (i : Nat) (a : Act), (∀ c, d = some c → some c ∉ ds) → frame xs ds i (a.put d v) = (frame xs ds i a).put d v
  | [], _, _, _ => rfl
  | e :: ds, i, a, h => by
    unfold frame
    rw [Act.put_comm a v (xs i) (fun c hc => fun he => h c hc (by simp [he])), frame_put xs d v ds (i + 1) _ (fun c hc hm => h c hc (by simp [hm]))]
theorem frame_upd_low (xs : Nat → Value) (j : Nat) (v : Value) : ∀ (ds : List (Option Tmp)) (i : Nat) (a : Act), j < i → frame (upd xs j v) ds i a = frame xs ds i a
  | [], _, _, _ => rfl
  | e :: ds, i, a, h => by
    unfold frame
    rw [show upd xs j v i = xs i from if_neg (by omega)]
    exact frame_upd_low xs j v ds (i + 1) _ (by omega)
theorem put_twice (a : Act) (d : Option Tmp) (u v : Value) : (a.put d u).put d v = a.put d v := by
  cases d with
  | none => rfl
  | some d => simp [Act.put]
theorem frame_at (xs : Nat → Value) (v : Value) : ∀ (ds : List (Option Tmp)) (i : Nat) (a : Act), apartB ds = true → ∀ j d, ds[j]? = some d → (frame xs ds i a).put d v = frame (upd xs (i + j) v) ds i a
  | [], _, _, _, j, d, h => by simp at h
  | e :: ds, i, a, ha, j, d, h => by
    have htail : apartB ds = true := by
      cases e with
      | none => exact ha
      | some e => simp only [apartB, Bool.and_eq_true] at ha; exact ha.2
    cases j with
    | zero =>
      simp at h
      subst h
      unfold frame
      simp only [Nat.add_zero]
      rw [frame_upd_low xs i v ds (i + 1) _ (by omega), show upd xs i v i = v from if_pos rfl]
      rw [← frame_put xs e v ds (i + 1) _ (fun c hc hm => by subst hc; simp only [apartB, Bool.and_eq_true, Bool.not_eq_true', List.contains_eq_mem, decide_eq_false_iff_not] at ha; exact ha.1 hm), put_twice]
    | succ j =>
      unfold frame
      rw [show upd xs (i + (j + 1)) v i = xs i from if_neg (by omega), frame_at xs v ds (i + 1) _ htail j d (by simpa using h), show i + 1 + j = i + (j + 1) by omega]
theorem puts_of {p : Plan} : ∀ (m : List Oper) (k : Nat), (∀ j d, (dsts m)[j]? = some d → ∀ xs v, (p.F xs).put d v = p.F (upd xs (k + j) v)) → Puts p m k
  | [], _, _ => trivial
  | o :: m, k, h => ⟨fun xs v => h 0 o.dst (by simp [dsts]) xs v, puts_of m (k + 1) fun j d hd xs v => by
      have := h (j + 1) d (by simpa [dsts] using hd) xs v
      rwa [show k + (j + 1) = k + 1 + j by omega] at this⟩
theorem frame_start {l : List Oper} (a : Act) (hap : apartB (dsts l) = true) : a = frame (fun i => match (dsts l)[i]? with | some (some d) => a.tmps.getD d undef | _ => undef) (dsts l) 0 a := by
  symm
  suffices h : ∀ (ds : List (Option Tmp)) (i : Nat) (b : Act) (ys : Nat → Value), (∀ j d, ds[j]? = some (some d) → ys (i + j) = b.tmps.getD d undef) → apartB ds = true → frame ys ds i b = b from
    h (dsts l) 0 a _ (fun j d hd => by simp only [Nat.zero_add, hd]) hap
  intro ds
  induction ds with
  | nil => intro _ _ _ _ _; rfl
  | cons e ds ih =>
    intro i b ys hy ha
    have htail : apartB ds = true := by
      cases e with
      | none => exact ha
      | some e => simp only [apartB, Bool.and_eq_true] at ha; exact ha.2
    have hb : b.put e (ys i) = b := by
      cases e with
      | none => rfl
      | some d =>
        have h0 := hy 0 d rfl
        rw [Nat.add_zero] at h0
        rw [h0]
        have hs : b.tmps.setIfInBounds d (b.tmps.getD d undef) = b.tmps := by
          apply Array.ext
          · simp
          · intro q q1 q2
            rw [Array.getElem_setIfInBounds]
            split
            · rename_i hq
              subst hq
              rw [Array.getD_eq_getD_getElem?, Array.getElem?_eq_getElem q2]
              rfl
            · rfl
        show (⟨b.tmps.setIfInBounds d (b.tmps.getD d undef), b.defers⟩ : Act) = b
        rw [hs]
    unfold frame
    rw [hb]
    exact ih (i + 1) b ys (fun j d hd => by
      have := hy (j + 1) d (by simpa using hd)
      rwa [show i + (j + 1) = i + 1 + j by omega] at this) htail
/-- The first k are done. -/
theorem head_set {l : List Oper} {k : Nat} (hk : k < l.length) : (headDone l k).setIfInBounds k true = headDone l (k + 1) := by
  apply Array.ext
  · simp [headDone]
  · intro i h1 h2
    rw [Array.getElem_setIfInBounds (by simpa using h1)]
    · have h3 : (headDone l (k + 1))[i] = decide (i < k + 1) := by simp [headDone]
      have h4 : ∀ h, (headDone l k)[i]'h = decide (i < k) := fun h => by simp [headDone]
      rw [h3, h4]
      by_cases h : k = i
      · subst h; simp
      · rw [if_neg h]
        by_cases h5 : i < k
        · rw [decide_eq_true h5, decide_eq_true (by omega)]
        · rw [decide_eq_false h5, decide_eq_false (by omega)]
theorem head_at {l : List Oper} {k i : Nat} (hi : i < l.length) (d : Bool) : (headDone l k).getD i d = decide (i < k) := by
  rw [Array.getD_eq_getD_getElem?, Array.getElem?_eq_getElem (by simp [headDone]; exact hi)]
  simp [headDone]
theorem head_zero (l : List Oper) : headDone l 0 = Array.replicate l.length false := by
  apply Array.ext
  · simp [headDone]
  · intro i h1 h2; simp [headDone]
theorem head_all (l : List Oper) : headDone l l.length = Array.replicate l.length true := by
  apply Array.ext
  · simp [headDone]
  · intro i h1 h2
    have : i < l.length := by simpa [headDone] using h1
    simp [headDone, this]
theorem head_ready {l : List Oper} {k : Nat} (hlow : lowB (l ++ [default]) l.length = true) (hk : k < l.length) : k ∈ Region.ready .any l.toArray (headDone l k) := by
  refine mem_ready.2 ⟨by rw [head_at hk]; simp, l[k], by simp, fun e he hb => ?_⟩
  have ho' : (l ++ [default])[k]? = some l[k] := by rw [List.getElem?_append_left hk]; exact List.getElem?_eq_getElem hk
  have hlt := (low_at hlow hk ho').1 e he hb
  rw [head_at (by omega)]
  exact decide_eq_true hlt
theorem list_of {Q' : Exit → Act → World → Prop} (hlow : lowB (l ++ [default]) l.length = true) (hput : ∀ i o, l[i]? = some o → ∀ xs v, (p.F xs).put o.dst v = p.F (upd xs i v)) (hst : Steps P p l xs0 l 0) (hQ : ∀ a w, Inv p l xs0 (Array.replicate l.length true) a w → Q' .normal a w) :
    ∀ (m : List Oper) (k : Nat) (a : Act) (w : World), (∀ j, m[j]? = l[k + j]?) → k + m.length = l.length → Inv p l xs0 (headDone l k) a w → wpList P l.toArray Q' m a w := by
  intro m
  induction m with
  | nil =>
    intro k a w _ hk hI
    have : k = l.length := by simpa using hk
    subst this
    rw [head_all] at hI
    exact hQ a w hI
  | cons o m ih =>
    intro k a w hm hk hI
    have h0 : l.toArray[k]? = some o := by simpa using (hm 0).symm
    have hkl : k < l.length := by simp at hk; omega
    have h1 := wpOp_of (Q' := Q') (K' := wpList P l.toArray Q' m) hput hst hI (head_ready hlow hkl) (fun a' w' hI' => by
      rw [head_set hkl] at hI'
      exact ih (k + 1) a' w' (fun j => by have := hm (j + 1); simpa [Nat.add_assoc, Nat.add_comm 1 j] using this) (by simp at hk; omega) hI')
    unfold wpOp at h1
    simp only [h0] at h1
    exact h1
/-- A region, the frame made of the operations' slots. -/
theorem regionF {id : Nat} {Q : Exit → Act → World → Prop} {a : Act} {w : World} (E : Nat → Value → World → Prop) (C : Array Bool → World → Prop) (X : World → World → Prop) (st : ∀ j x w w', X w w' → E j x w → E j x w')
    (hm : P.follows .mixedOrders = true) (hlow : lowB (l ++ [default]) l.length = true) (hap : apartB (dsts l) = true) (hC : C (Array.replicate l.length false) { w with drawn := w.drawn + 1 })
    (H : ∀ (F : (Nat → Value) → Act), (∀ xs, F xs = frame xs (dsts l) 0 a) → Steps P ⟨F, E, C, X, st⟩ l (fun i => match (dsts l)[i]? with | some (some d) => a.tmps.getD d undef | _ => undef) l 0 ∧
      (∀ xs w', C (Array.replicate l.length true) w' → (∀ j, j < l.length → E j (xs j) w') → Q .normal (F xs) w')) : (Code.region id l.toArray true).wp P Q a w := by
  obtain ⟨h1, h2⟩ := H (fun xs => frame xs (dsts l) 0 a) (fun _ => rfl)
  refine region ⟨fun xs => frame xs (dsts l) 0 a, E, C, X, st⟩ _ hm hlow (frame_start a hap) hC (puts_of l 0 fun j d hd xs v => ?_) h1 h2
  have := frame_at xs v (dsts l) 0 a hap j d hd
  simpa using this
/-- A region whose order stands, walked likewise. -/
theorem regionU {id : Nat} {Q : Exit → Act → World → Prop} {a : Act} {w : World} (E : Nat → Value → World → Prop) (C : Array Bool → World → Prop) (X : World → World → Prop) (st : ∀ j x w w', X w w' → E j x w → E j x w')
    (hlow : lowB (l ++ [default]) l.length = true) (hap : apartB (dsts l) = true) (hC : C (Array.replicate l.length false) w)
    (H : ∀ (F : (Nat → Value) → Act), (∀ xs, F xs = frame xs (dsts l) 0 a) → Steps P ⟨F, E, C, X, st⟩ l (fun i => match (dsts l)[i]? with | some (some d) => a.tmps.getD d undef | _ => undef) l 0 ∧
      (∀ xs w', C (Array.replicate l.length true) w' → (∀ j, j < l.length → E j (xs j) w') → Q .normal (F xs) w')) : (Code.region id l.toArray false).wp P Q a w := by
  obtain ⟨h1, h2⟩ := H (fun xs => frame xs (dsts l) 0 a) (fun _ => rfl)
  have hput : ∀ i o, l[i]? = some o → ∀ xs v, ((Plan.mk (fun xs => frame xs (dsts l) 0 a) E C X st).F xs).put o.dst v = (Plan.mk (fun xs => frame xs (dsts l) 0 a) E C X st).F (upd xs i v) := fun i o ho xs v => by
    have := frame_at xs v (dsts l) 0 a hap i o.dst (by simp [dsts, ho])
    simpa using this
  refine wp_region_lit (list_of (p := ⟨fun xs => frame xs (dsts l) 0 a, E, C, X, st⟩) hlow hput h1 (fun a' w' hI => ?_) l 0 a w (by simp) (by simp) ?_)
  · obtain ⟨xs, e, _, _, hC, hv, _⟩ := hI
    rw [e]
    refine h2 xs w' hC fun j hj => hv j hj ?_
    rw [Array.getD_eq_getD_getElem?, Array.getElem?_replicate, if_pos hj]
    rfl
  · rw [head_zero]
    exact ⟨_, frame_start a hap, by simp, Closed.start _ _, hC, fun j hj hl => (by rw [getD_replicate_false] at hl; cases hl), fun j _ => rfl⟩
end
end Reg
end Go.Proofs.YteinppjklhomnaaDoor
/- Regions that draw their order, where the class of worlds knows one operation's value (a block that is made at whatever place in the order, and written in the end). Of no program. -/
namespace Go.Proofs.YteinppjklhomnaaDoor
open Go.RowKit Go.ChangeShapes Go.WideShapes
namespace RegC
open Reg (upon upd Closed reach frame dsts apartB frame_at frame_start unlisted_all head_set head_at head_zero head_all head_ready)
/-- A region's plan. -/
structure Plan where
  F : (Nat → Value) → Act
  E : Nat → Value → World → Prop
  C : Array Bool → (Nat → Value) → World → Prop
  Ext : Nat → World → World → Prop
/-- What is known when operation i comes up. -/
structure Here (p : Plan) (l : List Oper) (xs0 : Nat → Value) (i : Nat) (L : Array Bool) (w : World) (xs : Nat → Value) : Prop where
  size : L.size = l.length
  closed : Closed l L
  ready : i ∈ Region.ready .any l.toArray L
  cls : p.C L xs w
  vals : ∀ j, j < l.length → L.getD j false = true → p.E j (xs j) w
  olds : ∀ j, L.getD j false = false → xs j = xs0 j
theorem Here.dep {p : Plan} {l : List Oper} {xs0 : Nat → Value} {i : Nat} {L : Array Bool} {w : World} {xs : Nat → Value} (h : Here p l xs0 i L w xs) (j : Nat) (hj : reach l.toArray 6 i j = true) : L.getD j false = true := by
  obtain ⟨_, o, ho, hall⟩ := mem_ready.1 h.ready
  unfold reach at hj
  rw [Bool.or_eq_true] at hj
  rcases hj with hj | hj
  · obtain ⟨o', ho', e, he, hb, hon⟩ := Region.waitsFor_spec hj
    obtain rfl : o = o' := Option.some.inj (ho.symm.trans ho')
    rw [← hon]
    exact hall e he hb
  · rw [ho] at hj
    obtain ⟨e, he, hb⟩ := Array.any_eq_true'.1 hj
    rw [Bool.and_eq_true] at hb
    exact h.closed.reach 5 e.on j (hall e he hb.1) hb.2
theorem Here.val {p : Plan} {l : List Oper} {xs0 : Nat → Value} {i : Nat} {L : Array Bool} {w : World} {xs : Nat → Value} (h : Here p l xs0 i L w xs) (j : Nat) (hj : reach l.toArray 6 i j = true) (hl : decide (j < l.length) = true) : p.E j (xs j) w :=
  h.vals j (of_decide_eq_true hl) (h.dep j hj)
theorem Here.un {p : Plan} {l : List Oper} {xs0 : Nat → Value} {i : Nat} {L : Array Bool} {w : World} {xs : Nat → Value} (h : Here p l xs0 i L w xs) : Mix.one L i = 0 := Mix.one_ready h.ready
theorem Here.isDone {p : Plan} {l : List Oper} {xs0 : Nat → Value} {i : Nat} {L : Array Bool} {w : World} {xs : Nat → Value} (h : Here p l xs0 i L w xs) (j : Nat) (hj : reach l.toArray 6 i j = true) : Mix.one L j = 1 := by
  unfold Mix.one
  rw [if_pos (h.dep j hj)]
/-- What waits for this operation is not done. -/
theorem Here.notYet {p : Plan} {l : List Oper} {xs0 : Nat → Value} {i : Nat} {L : Array Bool} {w : World} {xs : Nat → Value} (h : Here p l xs0 i L w xs) (j : Nat) (hj : reach l.toArray 6 j i = true) : L.getD j false = false := by
  cases hl : L.getD j false with
  | false => rfl
  | true =>
    have h1 := h.closed.reach 6 j i hl hj
    have h2 := (mem_ready.1 h.ready).1
    obtain ⟨o', ho', _⟩ := (mem_ready.1 h.ready).2
    have hlt : i < l.length := by simpa using (Array.getElem?_eq_some_iff.1 ho').1
    rw [getD_any (by rw [h.size]; exact hlt), h2] at h1
    cases h1
theorem Here.old {p : Plan} {l : List Oper} {xs0 : Nat → Value} {i : Nat} {L : Array Bool} {w : World} {xs : Nat → Value} (h : Here p l xs0 i L w xs) (j : Nat) (hj : reach l.toArray 6 j i = true) : xs j = xs0 j := h.olds j (h.notYet j hj)
/-- Operation i goes through. -/
def Step (P : Program) (p : Plan) (l : List Oper) (xs0 : Nat → Value) (i : Nat) (o : Oper) : Prop :=
  ∀ L w xs, Here p l xs0 i L w xs →
    (Region.wanted o (yielded l.toArray (p.F xs).tmps) = true ∧ upon P (fun v w' => p.C (L.setIfInBounds i true) (upd xs i v) w' ∧ p.E i v w' ∧ p.Ext i w w') ((execOp (p.F xs).eval o).run P w)) ∨
    (Region.wanted o (yielded l.toArray (p.F xs).tmps) = false ∧ p.C (L.setIfInBounds i true) (upd xs i undef) w ∧ p.E i undef w)
def Steps (P : Program) (p : Plan) (l : List Oper) (xs0 : Nat → Value) : List Oper → Nat → Prop
  | [], _ => True
  | o :: rest, i => Step P p l xs0 i o ∧ Steps P p l xs0 rest (i + 1)
/-- Each operation's slot is its own. -/
def Puts (p : Plan) : List Oper → Nat → Prop
  | [], _ => True
  | o :: rest, i => (∀ xs v, (p.F xs).put o.dst v = p.F (upd xs i v)) ∧ Puts p rest (i + 1)
theorem puts_at {p : Plan} : ∀ (m : List Oper) (k : Nat), Puts p m k → ∀ j o, m[j]? = some o → ∀ xs v, (p.F xs).put o.dst v = p.F (upd xs (k + j) v)
  | [], _, _, j, o, h => by simp at h
  | q :: m, k, hs, j, o, h => by
    cases j with
    | zero => simp at h; subst h; exact hs.1
    | succ j =>
      have := puts_at m (k + 1) hs.2 j o (by simpa using h)
      rwa [show k + 1 + j = k + (j + 1) by omega] at this
theorem steps_at {P : Program} {p : Plan} {l : List Oper} {xs0 : Nat → Value} : ∀ (m : List Oper) (k : Nat), Steps P p l xs0 m k → ∀ j o, m[j]? = some o → Step P p l xs0 (k + j) o
  | [], _, _, j, o, h => by simp at h
  | q :: m, k, hs, j, o, h => by
    cases j with
    | zero => simp at h; subst h; exact hs.1
    | succ j =>
      have := steps_at m (k + 1) hs.2 j o (by simpa using h)
      rwa [show k + 1 + j = k + (j + 1) by omega] at this
section
variable {P : Program} {l : List Oper} {p : Plan} {xs0 : Nat → Value}
/-- The plan holds so far. -/
def Inv (p : Plan) (l : List Oper) (xs0 : Nat → Value) (L : Array Bool) (a : Act) (w : World) : Prop := ∃ xs, a = p.F xs ∧ L.size = l.length ∧ Closed l L ∧ p.C L xs w ∧ (∀ j, j < l.length → L.getD j false = true → p.E j (xs j) w) ∧ ∀ j, L.getD j false = false → xs j = xs0 j
theorem Inv.next {L : Array Bool} {w w' : World} {xs : Nat → Value} {i : Nat} {o : Oper} {v : Value} (hput : ∀ i o, l[i]? = some o → ∀ xs v, (p.F xs).put o.dst v = p.F (upd xs i v)) (ho : l[i]? = some o) (hs : L.size = l.length) (hc : Closed l (L.setIfInBounds i true))
    (hv : ∀ j, j < l.length → L.getD j false = true → p.E j (xs j) w) (hold : ∀ j, L.getD j false = false → xs j = xs0 j) (hC : p.C (L.setIfInBounds i true) (upd xs i v) w') (hE : p.E i v w') (hx : ∀ j, j ≠ i → L.getD j false = true → p.E j (xs j) w → p.E j (xs j) w') : Inv p l xs0 (L.setIfInBounds i true) ((p.F xs).put o.dst v) w' := by
  refine ⟨upd xs i v, hput i o ho xs v, by simpa using hs, hc, hC, fun j hj hl => ?_, fun j hl => ?_⟩
  · unfold upd
    by_cases h : j = i
    · subst h
      rw [if_pos rfl]; exact hE
    · rw [if_neg h]
      rw [getD_set_ne false (Ne.symm h)] at hl
      exact hx j h hl (hv j hj hl)
  · unfold upd
    by_cases h : j = i
    · subst h
      have hlt : j < L.size := by rw [hs]; exact (List.getElem?_eq_some_iff.1 ho).1
      rw [Array.getD_eq_getD_getElem?, Array.getElem?_setIfInBounds_self_of_lt hlt] at hl
      cases hl
    · rw [if_neg h]
      rw [getD_set_ne false (Ne.symm h)] at hl
      exact hold j hl
theorem wpOp_of {L : Array Bool} {a : Act} {w : World} {i : Nat} {K' : Act → World → Prop} {Q' : Exit → Act → World → Prop} (hput : ∀ i o, l[i]? = some o → ∀ xs v, (p.F xs).put o.dst v = p.F (upd xs i v)) (hstab : ∀ i j x w w', j ≠ i → reach l.toArray 6 j i = false → p.Ext i w w' → p.E j x w → p.E j x w') (hst : Steps P p l xs0 l 0) (hI : Inv p l xs0 L a w) (hr : i ∈ Region.ready .any l.toArray L)
    (h : ∀ a' w', Inv p l xs0 (L.setIfInBounds i true) a' w' → K' a' w') : wpOp P l.toArray Q' i K' a w := by
  obtain ⟨xs, rfl, hs, hcl, hC, hv, hold⟩ := hI
  have hcn := hcl.next hr
  obtain ⟨_, o, ho, _⟩ := mem_ready.1 hr
  have ho' : l[i]? = some o := by simpa using ho
  have hkeep : ∀ {w' : World}, p.Ext i w w' → ∀ j, j ≠ i → L.getD j false = true → p.E j (xs j) w → p.E j (xs j) w' := fun hx j hji hl hE => by
    cases hre : reach l.toArray 6 j i with
    | false => exact hstab i j _ _ _ hji hre hx hE
    | true =>
      have h1 := hcl.reach 6 j i hl hre
      have h2 := (mem_ready.1 hr).1
      have hlt : i < l.length := (List.getElem?_eq_some_iff.1 ho').1
      rw [getD_any (by rw [hs]; exact hlt), h2] at h1
      cases h1
  have hstep := steps_at l 0 hst i o ho'
  rw [Nat.zero_add] at hstep
  unfold wpOp
  simp only [ho]
  rcases hstep L w xs ⟨hs, hcl, hr, hC, hv, hold⟩ with ⟨hw, hu⟩ | ⟨hw, hC', hE⟩
  · rw [if_pos hw]
    refine .inl ?_
    unfold Oper.wp
    generalize (execOp (p.F xs).eval o).run P w = r at *
    cases r with
    | halt x w' => exact hu.elim
    | ok n w' =>
      cases n <;> simp only [upon] at hu <;> simp only [Oper.upon]
      case value u =>
        obtain ⟨h1, h2, h3⟩ := hu
        exact h _ _ (Inv.next hput ho' hs hcn hv hold h1 h2 (hkeep h3))
      case skip =>
        obtain ⟨h1, h2, h3⟩ := hu
        exact h _ _ (Inv.next hput ho' hs hcn hv hold h1 h2 (hkeep h3))
      case enter f args =>
        exact hu.mono fun e w'' ⟨v, he, h1, h2, h3⟩ => by
          subst he
          exact h _ _ (Inv.next hput ho' hs hcn hv hold h1 h2 (hkeep h3))
  · rw [if_neg (by rw [hw]; exact Bool.false_ne_true)]
    exact h _ _ (Inv.next hput ho' hs hcn hv hold hC' hE fun _ _ _ h => h)
theorem any_of {Q' : Exit → Act → World → Prop} (hlow : lowB (l ++ [default]) l.length = true) (hput : ∀ i o, l[i]? = some o → ∀ xs v, (p.F xs).put o.dst v = p.F (upd xs i v)) (hstab : ∀ i j x w w', j ≠ i → reach l.toArray 6 j i = false → p.Ext i w w' → p.E j x w → p.E j x w') (hst : Steps P p l xs0 l 0) (hQ : ∀ a w, Inv p l xs0 (Array.replicate l.length true) a w → Q' .normal a w) :
    ∀ (f : Nat) (L : Array Bool) (a : Act) (w : World), L.size = l.length → Inv p l xs0 L a w → unlisted l.length L = f → wpAny P .any l.toArray Q' f L a w := by
  have hend : ∀ (L : Array Bool) a w, L.size = l.length → Region.ready .any l.toArray L = [] → Inv p l xs0 L a w → Q' .normal a w := by
    intro L a w hs hr hI
    rw [Mix.all_listed hlow hs hr] at hI
    exact hQ a w hI
  intro f
  induction f with
  | zero =>
    intro L a w hs hI hu
    have hr : Region.ready .any l.toArray L = [] := by
      cases hc : Region.ready .any l.toArray L with
      | nil => rfl
      | cons i t =>
        have hi : i ∈ Region.ready .any l.toArray L := by rw [hc]; simp
        obtain ⟨h0, o, ho, _⟩ := mem_ready.1 hi
        have hlt : i < l.length := by simpa using (Array.getElem?_eq_some_iff.1 ho).1
        have := unlisted_zero hu i hlt
        rw [this] at h0
        cases h0
    exact ⟨hr, hend L a w hs hr hI⟩
  | succ f ih =>
    intro L a w hs hI hu
    refine ⟨fun hr => hend L a w hs hr hI, fun i hi => wpOp_of hput hstab hst hI hi fun a' w' hI' => ih _ a' w' (by simpa using hs) hI' ?_⟩
    obtain ⟨h0, o, ho, _⟩ := mem_ready.1 hi
    have hlt : i < l.length := by simpa using (Array.getElem?_eq_some_iff.1 ho).1
    have := unlisted_set hs hlt h0
    omega
/-- A REGION, WHATEVER ITS ORDER. -/
theorem region {id : Nat} {Q : Exit → Act → World → Prop} {a : Act} {w : World} (p : Plan) (xs0 : Nat → Value) (hm : P.follows .mixedOrders = true) (hlow : lowB (l ++ [default]) l.length = true) (h0 : a = p.F xs0) (hC : p.C (Array.replicate l.length false) xs0 { w with drawn := w.drawn + 1 })
    (hputs : Puts p l 0) (hstab : ∀ i j x w w', j ≠ i → reach l.toArray 6 j i = false → p.Ext i w w' → p.E j x w → p.E j x w') (hst : Steps P p l xs0 l 0)
    (hend : ∀ xs w', p.C (Array.replicate l.length true) xs w' → (∀ j, j < l.length → p.E j (xs j) w') → Q .normal (p.F xs) w') : (Code.region id l.toArray true).wp P Q a w := by
  refine wp_region_any hm ?_
  have hput : ∀ i o, l[i]? = some o → ∀ xs v, (p.F xs).put o.dst v = p.F (upd xs i v) := fun i o ho => by
    have := puts_at l 0 hputs i o ho
    rwa [Nat.zero_add] at this
  have := any_of (Q' := Q) hlow hput hstab hst (fun a w ⟨xs, e, _, _, hC, hv, _⟩ => by
    subst e
    refine hend xs w hC fun j hj => hv j hj ?_
    rw [Array.getD_eq_getD_getElem?, Array.getElem?_replicate, if_pos hj]
    rfl) l.length (Array.replicate l.length false) a { w with drawn := w.drawn + 1 } (by simp) ⟨xs0, h0, by simp, Closed.start _ _, hC, fun j hj hl => (by rw [getD_replicate_false] at hl; cases hl), fun j _ => rfl⟩ (unlisted_all _)
  simpa using this
theorem puts_of {p : Plan} : ∀ (m : List Oper) (k : Nat), (∀ j d, (dsts m)[j]? = some d → ∀ xs v, (p.F xs).put d v = p.F (upd xs (k + j) v)) → Puts p m k
  | [], _, _ => trivial
  | o :: m, k, h => ⟨fun xs v => h 0 o.dst (by simp [dsts]) xs v, puts_of m (k + 1) fun j d hd xs v => by
      have := h (j + 1) d (by simpa [dsts] using hd) xs v
      rwa [show k + (j + 1) = k + 1 + j by omega] at this⟩
/-- A region, the frame made of the operations' slots; the class knows operation m's value. -/
theorem regionF {id : Nat} {Q : Exit → Act → World → Prop} {a : Act} {w : World} (m : Nat) (E : Nat → Value → World → Prop) (C : Array Bool → Value → World → Prop) (X : World → World → Prop) (st : ∀ j x w w', X w w' → E j x w → E j x w')
    (hm : P.follows .mixedOrders = true) (hlow : lowB (l ++ [default]) l.length = true) (hap : apartB (dsts l) = true) (hC : ∀ x, C (Array.replicate l.length false) x { w with drawn := w.drawn + 1 })
    (H : ∀ (F : (Nat → Value) → Act), (∀ xs, F xs = frame xs (dsts l) 0 a) → Steps P ⟨F, E, fun L xs w => C L (xs m) w, fun _ => X⟩ l (fun i => match (dsts l)[i]? with | some (some d) => a.tmps.getD d undef | _ => undef) l 0 ∧
      (∀ xs w', C (Array.replicate l.length true) (xs m) w' → (∀ j, j < l.length → E j (xs j) w') → Q .normal (F xs) w')) : (Code.region id l.toArray true).wp P Q a w := by
  obtain ⟨h1, h2⟩ := H (fun xs => frame xs (dsts l) 0 a) (fun _ => rfl)
  refine region ⟨fun xs => frame xs (dsts l) 0 a, E, fun L xs w => C L (xs m) w, fun _ => X⟩ _ hm hlow (frame_start a hap) (hC _) (puts_of l 0 fun j d hd xs v => ?_) (fun i j x w w' _ _ hx h => st j x w w' hx h) h1 h2
  have := frame_at xs v (dsts l) 0 a hap j d hd
  simpa using this
/-- A region, the frame made of the operations' slots; the class knows two operations' values. -/
theorem regionF2 {id : Nat} {Q : Exit → Act → World → Prop} {a : Act} {w : World} (m m' : Nat) (E : Nat → Value → World → Prop) (C : Array Bool → Value → Value → World → Prop) (X : World → World → Prop) (st : ∀ j x w w', X w w' → E j x w → E j x w')
    (hm : P.follows .mixedOrders = true) (hlow : lowB (l ++ [default]) l.length = true) (hap : apartB (dsts l) = true) (hC : ∀ x y, C (Array.replicate l.length false) x y { w with drawn := w.drawn + 1 })
    (H : ∀ (F : (Nat → Value) → Act), (∀ xs, F xs = frame xs (dsts l) 0 a) → Steps P ⟨F, E, fun L xs w => C L (xs m) (xs m') w, fun _ => X⟩ l (fun i => match (dsts l)[i]? with | some (some d) => a.tmps.getD d undef | _ => undef) l 0 ∧
      (∀ xs w', C (Array.replicate l.length true) (xs m) (xs m') w' → (∀ j, j < l.length → E j (xs j) w') → Q .normal (F xs) w')) : (Code.region id l.toArray true).wp P Q a w := by
  obtain ⟨h1, h2⟩ := H (fun xs => frame xs (dsts l) 0 a) (fun _ => rfl)
  refine region ⟨fun xs => frame xs (dsts l) 0 a, E, fun L xs w => C L (xs m) (xs m') w, fun _ => X⟩ _ hm hlow (frame_start a hap) (hC _ _) (puts_of l 0 fun j d hd xs v => ?_) (fun i j x w w' _ _ hx h => st j x w w' hx h) h1 h2
  have := frame_at xs v (dsts l) 0 a hap j d hd
  simpa using this
end
end RegC
end Go.Proofs.YteinppjklhomnaaDoor
/- Regions walked operation by operation within a fence that lets everything in (a round of a range over a function). Of no program. -/
namespace Go.Proofs.YteinppjklhomnaaDoor
open Go.RowKit Go.ChangeShapes Go.WideShapes
namespace Reg
def noDefer (l : List Oper) : Bool := l.all fun o => match o.op with | .defer _ => false | _ => true
theorem noDefer_at {l : List Oper} (h : noDefer l = true) {i : Nat} {o : Oper} (ho : l[i]? = some o) : ∀ c, o.op ≠ .defer c := by
  intro c e
  have := List.all_eq_true.1 h o (List.mem_of_getElem? ho)
  rw [e] at this
  cases this
section
variable {P : Program} {l : List Oper} {p : Plan} {xs0 : Nat → Value} {F : Fence} {n : Nat}
theorem wpOpIn_of {L : Array Bool} {a : Act} {w : World} {i : Nat} {K' : Act → World → Prop} {Q' : Exit → Act → World → Prop} (hfn : ∀ f, F.fn f) (hd : F.depth = none) (hcl : ∀ (f : FuncId) (args : Array Value) (w : World) (R : Ending → World → Prop), Calls P f args w R → CallsIn F (n - 1) P f args w R) (hnd : noDefer l = true) (hput : ∀ i o, l[i]? = some o → ∀ xs v, (p.F xs).put o.dst v = p.F (upd xs i v)) (hst : Steps P p l xs0 l 0) (hI : Inv p l xs0 L a w) (hr : i ∈ Region.ready .any l.toArray L)
    (h : ∀ a' w', Inv p l xs0 (L.setIfInBounds i true) a' w' → K' a' w') : wpOpIn F n P l.toArray Q' i K' a w := by
  obtain ⟨xs, rfl, hs, hcl2, hC, hv, hold⟩ := hI
  have hcn := hcl2.next hr
  obtain ⟨_, o, ho, _⟩ := mem_ready.1 hr
  have ho' : l[i]? = some o := by simpa using ho
  have hstep := steps_at l 0 hst i o ho'
  rw [Nat.zero_add] at hstep
  unfold wpOpIn
  simp only [ho]
  rcases hstep L w xs ⟨hs, hcl2, hr, hC, hv, hold⟩ with ⟨hw, hu⟩ | ⟨hw, hC', hE⟩
  · rw [if_pos hw]
    unfold Oper.wpIn
    refine ⟨fun f _ => hfn f, ?_⟩
    rw [Oper.semAt_plain F _ _ (noDefer_at hnd ho')]
    generalize (execOp (p.F xs).eval o).run P w = r at *
    cases r with
    | halt x w' => exact hu.elim
    | ok nx w' =>
      cases nx <;> simp only [upon] at hu <;> simp only [Oper.uponIn]
      case value u =>
        obtain ⟨h1, h2, h3⟩ := hu
        exact h _ _ (Inv.next hput ho' hs hcn hv hold h1 h2 fun j => p.stable j _ _ _ h3)
      case skip =>
        obtain ⟨h1, h2, h3⟩ := hu
        exact h _ _ (Inv.next hput ho' hs hcn hv hold h1 h2 fun j => p.stable j _ _ _ h3)
      case enter f args =>
        refine ⟨fun hh => (by rw [hd] at hh; cases hh), (hcl f args w' _ hu).mono fun e w'' ⟨v, he, h1, h2, h3⟩ => ?_⟩
        subst he
        exact h _ _ (Inv.next hput ho' hs hcn hv hold h1 h2 fun j => p.stable j _ _ _ h3)
  · rw [if_neg (by rw [hw]; exact Bool.false_ne_true)]
    exact ⟨fun f _ => hfn f, h _ _ (Inv.next hput ho' hs hcn hv hold hC' hE fun j h => h)⟩
theorem anyIn_of {Q' : Exit → Act → World → Prop} (hfn : ∀ f, F.fn f) (hd : F.depth = none) (hcl : ∀ (f : FuncId) (args : Array Value) (w : World) (R : Ending → World → Prop), Calls P f args w R → CallsIn F (n - 1) P f args w R) (hnd : noDefer l = true) (hlow : lowB (l ++ [default]) l.length = true) (hput : ∀ i o, l[i]? = some o → ∀ xs v, (p.F xs).put o.dst v = p.F (upd xs i v)) (hst : Steps P p l xs0 l 0) (hQ : ∀ a w, Inv p l xs0 (Array.replicate l.length true) a w → Q' .normal a w) :
    ∀ (f : Nat) (L : Array Bool) (a : Act) (w : World), L.size = l.length → Inv p l xs0 L a w → unlisted l.length L = f → wpAnyIn F n P .any l.toArray Q' f L a w := by
  have hend : ∀ (L : Array Bool) a w, L.size = l.length → Region.ready .any l.toArray L = [] → Inv p l xs0 L a w → Q' .normal a w := by
    intro L a w hs hr hI
    rw [Mix.all_listed hlow hs hr] at hI
    exact hQ a w hI
  intro f
  induction f with
  | zero =>
    intro L a w hs hI hu
    have hr : Region.ready .any l.toArray L = [] := by
      cases hc : Region.ready .any l.toArray L with
      | nil => rfl
      | cons i t =>
        have hi : i ∈ Region.ready .any l.toArray L := by rw [hc]; simp
        obtain ⟨h0, o, ho, _⟩ := mem_ready.1 hi
        have hlt : i < l.length := by simpa using (Array.getElem?_eq_some_iff.1 ho).1
        have := unlisted_zero hu i hlt
        rw [this] at h0
        cases h0
    exact ⟨hr, hend L a w hs hr hI⟩
  | succ f ih =>
    intro L a w hs hI hu
    refine ⟨fun hr => hend L a w hs hr hI, fun i hi => wpOpIn_of hfn hd hcl hnd hput hst hI hi fun a' w' hI' => ih _ a' w' (by simpa using hs) hI' ?_⟩
    obtain ⟨h0, o, ho, _⟩ := mem_ready.1 hi
    have hlt : i < l.length := by simpa using (Array.getElem?_eq_some_iff.1 ho).1
    have := unlisted_set hs hlt h0
    omega
theorem regionIn {id : Nat} {Q : Exit → Act → World → Prop} {a : Act} {w : World} (hfn : ∀ f, F.fn f) (hd : F.depth = none) (hcl : ∀ (f : FuncId) (args : Array Value) (w : World) (R : Ending → World → Prop), Calls P f args w R → CallsIn F (n - 1) P f args w R) (hnd : noDefer l = true) (p : Plan) (xs0 : Nat → Value) (hm : P.follows .mixedOrders = true) (hlow : lowB (l ++ [default]) l.length = true) (h0 : a = p.F xs0) (hC : p.C (Array.replicate l.length false) { w with drawn := w.drawn + 1 })
    (hputs : Puts p l 0) (hst : Steps P p l xs0 l 0)
    (hend : ∀ xs w', p.C (Array.replicate l.length true) w' → (∀ j, j < l.length → p.E j (xs j) w') → Q .normal (p.F xs) w') : (Code.region id l.toArray true).wpIn F n P Q a w := by
  refine wpIn_region_any hm ?_
  have hput : ∀ i o, l[i]? = some o → ∀ xs v, (p.F xs).put o.dst v = p.F (upd xs i v) := fun i o ho => by
    have := puts_at l 0 hputs i o ho
    rwa [Nat.zero_add] at this
  have := anyIn_of (Q' := Q) hfn hd hcl hnd hlow hput hst (fun a w ⟨xs, e, _, _, hC, hv, _⟩ => by
    subst e
    refine hend xs w hC fun j hj => hv j hj ?_
    rw [Array.getD_eq_getD_getElem?, Array.getElem?_replicate, if_pos hj]
    rfl) l.length (Array.replicate l.length false) a { w with drawn := w.drawn + 1 } (by simp) ⟨xs0, h0, by simp, Closed.start _ _, hC, fun j hj hl => (by rw [getD_replicate_false] at hl; cases hl), fun j _ => rfl⟩ (unlisted_all _)
  simpa using this
/-- A drawn region in a round (or outside), the frame made of the operations' slots. -/
theorem regionFIn {id : Nat} {Q : Exit → Act → World → Prop} {a : Act} {w : World} (hfn : ∀ f, F.fn f) (hd : F.depth = none) (hcl : ∀ (f : FuncId) (args : Array Value) (w : World) (R : Ending → World → Prop), Calls P f args w R → CallsIn F (n - 1) P f args w R) (hnd : noDefer l = true) (E : Nat → Value → World → Prop) (C : Array Bool → World → Prop) (X : World → World → Prop) (st : ∀ j x w w', X w w' → E j x w → E j x w')
    (hm : P.follows .mixedOrders = true) (hlow : lowB (l ++ [default]) l.length = true) (hap : apartB (dsts l) = true) (hC : C (Array.replicate l.length false) { w with drawn := w.drawn + 1 })
    (H : ∀ (F : (Nat → Value) → Act), (∀ xs, F xs = frame xs (dsts l) 0 a) → Steps P ⟨F, E, C, X, st⟩ l (fun i => match (dsts l)[i]? with | some (some d) => a.tmps.getD d undef | _ => undef) l 0 ∧
      (∀ xs w', C (Array.replicate l.length true) w' → (∀ j, j < l.length → E j (xs j) w') → Q .normal (F xs) w')) : (Code.region id l.toArray true).wpIn F n P Q a w := by
  obtain ⟨h1, h2⟩ := H (fun xs => frame xs (dsts l) 0 a) (fun _ => rfl)
  refine regionIn hfn hd hcl hnd ⟨fun xs => frame xs (dsts l) 0 a, E, C, X, st⟩ _ hm hlow (frame_start a hap) hC (puts_of l 0 fun j d hd xs v => ?_) h1 h2
  have := frame_at xs v (dsts l) 0 a hap j d hd
  simpa using this
end
theorem calls_wide {P : Program} {n : Nat} (f : FuncId) (args : Array Value) (w : World) (R : Ending → World → Prop) (h : Calls P f args w R) : CallsIn Fence.wide n P f args w R := callsIn_wide.2 h
theorem calls_round {P : Program} {n l : Nat} (f : FuncId) (args : Array Value) (w : World) (R : Ending → World → Prop) (h : Calls P f args w R) : CallsIn (Fence.wide.inRound l) n P f args w R := CallsIn.inRound l (callsIn_wide.2 h)
end Reg
end Go.Proofs.YteinppjklhomnaaDoor
/- Regions that draw their order, where an operation may do what those behind it do not know of: what it may do (X) is told by the operation, and a value must outlast it only if its operation doesn't wait for this one. Of no program. -/
namespace Go.Proofs.YteinppjklhomnaaDoor
open Go.RowKit Go.ChangeShapes Go.WideShapes
namespace RegX
open Reg (upon upd Closed reach frame dsts apartB frame_at frame_start unlisted_all head_set head_at head_zero head_all head_ready)
/-- A region's plan. -/
structure Plan where
  F : (Nat → Value) → Act
  E : Nat → Value → World → Prop
  C : Array Bool → World → Prop
  Ext : Nat → World → World → Prop
/-- What is known when operation i comes up. -/
structure Here (p : Plan) (l : List Oper) (xs0 : Nat → Value) (i : Nat) (L : Array Bool) (w : World) (xs : Nat → Value) : Prop where
  size : L.size = l.length
  closed : Closed l L
  ready : i ∈ Region.ready .any l.toArray L
  cls : p.C L w
  vals : ∀ j, j < l.length → L.getD j false = true → p.E j (xs j) w
  olds : ∀ j, L.getD j false = false → xs j = xs0 j
theorem Here.dep {p : Plan} {l : List Oper} {xs0 : Nat → Value} {i : Nat} {L : Array Bool} {w : World} {xs : Nat → Value} (h : Here p l xs0 i L w xs) (j : Nat) (hj : reach l.toArray 6 i j = true) : L.getD j false = true := by
  obtain ⟨_, o, ho, hall⟩ := mem_ready.1 h.ready
  unfold reach at hj
  rw [Bool.or_eq_true] at hj
  rcases hj with hj | hj
  · obtain ⟨o', ho', e, he, hb, hon⟩ := Region.waitsFor_spec hj
    obtain rfl : o = o' := Option.some.inj (ho.symm.trans ho')
    rw [← hon]
    exact hall e he hb
  · rw [ho] at hj
    obtain ⟨e, he, hb⟩ := Array.any_eq_true'.1 hj
    rw [Bool.and_eq_true] at hb
    exact h.closed.reach 5 e.on j (hall e he hb.1) hb.2
theorem Here.val {p : Plan} {l : List Oper} {xs0 : Nat → Value} {i : Nat} {L : Array Bool} {w : World} {xs : Nat → Value} (h : Here p l xs0 i L w xs) (j : Nat) (hj : reach l.toArray 6 i j = true) (hl : decide (j < l.length) = true) : p.E j (xs j) w :=
  h.vals j (of_decide_eq_true hl) (h.dep j hj)
theorem Here.un {p : Plan} {l : List Oper} {xs0 : Nat → Value} {i : Nat} {L : Array Bool} {w : World} {xs : Nat → Value} (h : Here p l xs0 i L w xs) : Mix.one L i = 0 := Mix.one_ready h.ready
theorem Here.isDone {p : Plan} {l : List Oper} {xs0 : Nat → Value} {i : Nat} {L : Array Bool} {w : World} {xs : Nat → Value} (h : Here p l xs0 i L w xs) (j : Nat) (hj : reach l.toArray 6 i j = true) : Mix.one L j = 1 := by
  unfold Mix.one
  rw [if_pos (h.dep j hj)]
/-- What waits for this operation is not done. -/
theorem Here.notYet {p : Plan} {l : List Oper} {xs0 : Nat → Value} {i : Nat} {L : Array Bool} {w : World} {xs : Nat → Value} (h : Here p l xs0 i L w xs) (j : Nat) (hj : reach l.toArray 6 j i = true) : L.getD j false = false := by
  cases hl : L.getD j false with
  | false => rfl
  | true =>
    have h1 := h.closed.reach 6 j i hl hj
    have h2 := (mem_ready.1 h.ready).1
    obtain ⟨o', ho', _⟩ := (mem_ready.1 h.ready).2
    have hlt : i < l.length := by simpa using (Array.getElem?_eq_some_iff.1 ho').1
    rw [getD_any (by rw [h.size]; exact hlt), h2] at h1
    cases h1
theorem Here.old {p : Plan} {l : List Oper} {xs0 : Nat → Value} {i : Nat} {L : Array Bool} {w : World} {xs : Nat → Value} (h : Here p l xs0 i L w xs) (j : Nat) (hj : reach l.toArray 6 j i = true) : xs j = xs0 j := h.olds j (h.notYet j hj)
/-- Operation i goes through. -/
def Step (P : Program) (p : Plan) (l : List Oper) (xs0 : Nat → Value) (i : Nat) (o : Oper) : Prop :=
  ∀ L w xs, Here p l xs0 i L w xs →
    (Region.wanted o (yielded l.toArray (p.F xs).tmps) = true ∧ upon P (fun v w' => p.C (L.setIfInBounds i true) w' ∧ p.E i v w' ∧ p.Ext i w w') ((execOp (p.F xs).eval o).run P w)) ∨
    (Region.wanted o (yielded l.toArray (p.F xs).tmps) = false ∧ p.C (L.setIfInBounds i true) w ∧ p.E i undef w)
def Steps (P : Program) (p : Plan) (l : List Oper) (xs0 : Nat → Value) : List Oper → Nat → Prop
  | [], _ => True
  | o :: rest, i => Step P p l xs0 i o ∧ Steps P p l xs0 rest (i + 1)
/-- Each operation's slot is its own. -/
def Puts (p : Plan) : List Oper → Nat → Prop
  | [], _ => True
  | o :: rest, i => (∀ xs v, (p.F xs).put o.dst v = p.F (upd xs i v)) ∧ Puts p rest (i + 1)
theorem puts_at {p : Plan} : ∀ (m : List Oper) (k : Nat), Puts p m k → ∀ j o, m[j]? = some o → ∀ xs v, (p.F xs).put o.dst v = p.F (upd xs (k + j) v)
  | [], _, _, j, o, h => by simp at h
  | q :: m, k, hs, j, o, h => by
    cases j with
    | zero => simp at h; subst h; exact hs.1
    | succ j =>
      have := puts_at m (k + 1) hs.2 j o (by simpa using h)
      rwa [show k + 1 + j = k + (j + 1) by omega] at this
theorem steps_at {P : Program} {p : Plan} {l : List Oper} {xs0 : Nat → Value} : ∀ (m : List Oper) (k : Nat), Steps P p l xs0 m k → ∀ j o, m[j]? = some o → Step P p l xs0 (k + j) o
  | [], _, _, j, o, h => by simp at h
  | q :: m, k, hs, j, o, h => by
    cases j with
    | zero => simp at h; subst h; exact hs.1
    | succ j =>
      have := steps_at m (k + 1) hs.2 j o (by simpa using h)
      rwa [show k + 1 + j = k + (j + 1) by omega] at this
section
variable {P : Program} {l : List Oper} {p : Plan} {xs0 : Nat → Value}
/-- The plan holds so far. -/
def Inv (p : Plan) (l : List Oper) (xs0 : Nat → Value) (L : Array Bool) (a : Act) (w : World) : Prop := ∃ xs, a = p.F xs ∧ L.size = l.length ∧ Closed l L ∧ p.C L w ∧ (∀ j, j < l.length → L.getD j false = true → p.E j (xs j) w) ∧ ∀ j, L.getD j false = false → xs j = xs0 j
theorem Inv.next {L : Array Bool} {w w' : World} {xs : Nat → Value} {i : Nat} {o : Oper} {v : Value} (hput : ∀ i o, l[i]? = some o → ∀ xs v, (p.F xs).put o.dst v = p.F (upd xs i v)) (ho : l[i]? = some o) (hs : L.size = l.length) (hc : Closed l (L.setIfInBounds i true))
    (hv : ∀ j, j < l.length → L.getD j false = true → p.E j (xs j) w) (hold : ∀ j, L.getD j false = false → xs j = xs0 j) (hC : p.C (L.setIfInBounds i true) w') (hE : p.E i v w') (hx : ∀ j, j ≠ i → L.getD j false = true → p.E j (xs j) w → p.E j (xs j) w') : Inv p l xs0 (L.setIfInBounds i true) ((p.F xs).put o.dst v) w' := by
  refine ⟨upd xs i v, hput i o ho xs v, by simpa using hs, hc, hC, fun j hj hl => ?_, fun j hl => ?_⟩
  · unfold upd
    by_cases h : j = i
    · subst h
      rw [if_pos rfl]; exact hE
    · rw [if_neg h]
      rw [getD_set_ne false (Ne.symm h)] at hl
      exact hx j h hl (hv j hj hl)
  · unfold upd
    by_cases h : j = i
    · subst h
      have hlt : j < L.size := by rw [hs]; exact (List.getElem?_eq_some_iff.1 ho).1
      rw [Array.getD_eq_getD_getElem?, Array.getElem?_setIfInBounds_self_of_lt hlt] at hl
      cases hl
    · rw [if_neg h]
      rw [getD_set_ne false (Ne.symm h)] at hl
      exact hold j hl
theorem wpOp_of {L : Array Bool} {a : Act} {w : World} {i : Nat} {K' : Act → World → Prop} {Q' : Exit → Act → World → Prop} (hput : ∀ i o, l[i]? = some o → ∀ xs v, (p.F xs).put o.dst v = p.F (upd xs i v)) (hstab : ∀ i j x w w', j ≠ i → reach l.toArray 6 j i = false → p.Ext i w w' → p.E j x w → p.E j x w') (hst : Steps P p l xs0 l 0) (hI : Inv p l xs0 L a w) (hr : i ∈ Region.ready .any l.toArray L)
    (h : ∀ a' w', Inv p l xs0 (L.setIfInBounds i true) a' w' → K' a' w') : wpOp P l.toArray Q' i K' a w := by
  obtain ⟨xs, rfl, hs, hcl, hC, hv, hold⟩ := hI
  have hcn := hcl.next hr
  obtain ⟨_, o, ho, _⟩ := mem_ready.1 hr
  have ho' : l[i]? = some o := by simpa using ho
  have hkeep : ∀ {w' : World}, p.Ext i w w' → ∀ j, j ≠ i → L.getD j false = true → p.E j (xs j) w → p.E j (xs j) w' := fun hx j hji hl hE => by
    cases hre : reach l.toArray 6 j i with
    | false => exact hstab i j _ _ _ hji hre hx hE
    | true =>
      have h1 := hcl.reach 6 j i hl hre
      have h2 := (mem_ready.1 hr).1
      have hlt : i < l.length := (List.getElem?_eq_some_iff.1 ho').1
      rw [getD_any (by rw [hs]; exact hlt), h2] at h1
      cases h1
  have hstep := steps_at l 0 hst i o ho'
  rw [Nat.zero_add] at hstep
  unfold wpOp
  simp only [ho]
  rcases hstep L w xs ⟨hs, hcl, hr, hC, hv, hold⟩ with ⟨hw, hu⟩ | ⟨hw, hC', hE⟩
  · rw [if_pos hw]
    refine .inl ?_
    unfold Oper.wp
    generalize (execOp (p.F xs).eval o).run P w = r at *
    cases r with
    | halt x w' => exact hu.elim
    | ok n w' =>
      cases n <;> simp only [upon] at hu <;> simp only [Oper.upon]
      case value u =>
        obtain ⟨h1, h2, h3⟩ := hu
        exact h _ _ (Inv.next hput ho' hs hcn hv hold h1 h2 (hkeep h3))
      case skip =>
        obtain ⟨h1, h2, h3⟩ := hu
        exact h _ _ (Inv.next hput ho' hs hcn hv hold h1 h2 (hkeep h3))
      case enter f args =>
        exact hu.mono fun e w'' ⟨v, he, h1, h2, h3⟩ => by
          subst he
          exact h _ _ (Inv.next hput ho' hs hcn hv hold h1 h2 (hkeep h3))
  · rw [if_neg (by rw [hw]; exact Bool.false_ne_true)]
    exact h _ _ (Inv.next hput ho' hs hcn hv hold hC' hE fun _ _ _ h => h)
theorem any_of {Q' : Exit → Act → World → Prop} (hlow : lowB (l ++ [default]) l.length = true) (hput : ∀ i o, l[i]? = some o → ∀ xs v, (p.F xs).put o.dst v = p.F (upd xs i v)) (hstab : ∀ i j x w w', j ≠ i → reach l.toArray 6 j i = false → p.Ext i w w' → p.E j x w → p.E j x w') (hst : Steps P p l xs0 l 0) (hQ : ∀ a w, Inv p l xs0 (Array.replicate l.length true) a w → Q' .normal a w) :
    ∀ (f : Nat) (L : Array Bool) (a : Act) (w : World), L.size = l.length → Inv p l xs0 L a w → unlisted l.length L = f → wpAny P .any l.toArray Q' f L a w := by
  have hend : ∀ (L : Array Bool) a w, L.size = l.length → Region.ready .any l.toArray L = [] → Inv p l xs0 L a w → Q' .normal a w := by
    intro L a w hs hr hI
    rw [Mix.all_listed hlow hs hr] at hI
    exact hQ a w hI
  intro f
  induction f with
  | zero =>
    intro L a w hs hI hu
    have hr : Region.ready .any l.toArray L = [] := by
      cases hc : Region.ready .any l.toArray L with
      | nil => rfl
      | cons i t =>
        have hi : i ∈ Region.ready .any l.toArray L := by rw [hc]; simp
        obtain ⟨h0, o, ho, _⟩ := mem_ready.1 hi
        have hlt : i < l.length := by simpa using (Array.getElem?_eq_some_iff.1 ho).1
        have := unlisted_zero hu i hlt
        rw [this] at h0
        cases h0
    exact ⟨hr, hend L a w hs hr hI⟩
  | succ f ih =>
    intro L a w hs hI hu
    refine ⟨fun hr => hend L a w hs hr hI, fun i hi => wpOp_of hput hstab hst hI hi fun a' w' hI' => ih _ a' w' (by simpa using hs) hI' ?_⟩
    obtain ⟨h0, o, ho, _⟩ := mem_ready.1 hi
    have hlt : i < l.length := by simpa using (Array.getElem?_eq_some_iff.1 ho).1
    have := unlisted_set hs hlt h0
    omega
/-- A REGION, WHATEVER ITS ORDER. -/
theorem region {id : Nat} {Q : Exit → Act → World → Prop} {a : Act} {w : World} (p : Plan) (xs0 : Nat → Value) (hm : P.follows .mixedOrders = true) (hlow : lowB (l ++ [default]) l.length = true) (h0 : a = p.F xs0) (hC : p.C (Array.replicate l.length false) { w with drawn := w.drawn + 1 })
    (hputs : Puts p l 0) (hstab : ∀ i j x w w', j ≠ i → reach l.toArray 6 j i = false → p.Ext i w w' → p.E j x w → p.E j x w') (hst : Steps P p l xs0 l 0)
    (hend : ∀ xs w', p.C (Array.replicate l.length true) w' → (∀ j, j < l.length → p.E j (xs j) w') → Q .normal (p.F xs) w') : (Code.region id l.toArray true).wp P Q a w := by
  refine wp_region_any hm ?_
  have hput : ∀ i o, l[i]? = some o → ∀ xs v, (p.F xs).put o.dst v = p.F (upd xs i v) := fun i o ho => by
    have := puts_at l 0 hputs i o ho
    rwa [Nat.zero_add] at this
  have := any_of (Q' := Q) hlow hput hstab hst (fun a w ⟨xs, e, _, _, hC, hv, _⟩ => by
    subst e
    refine hend xs w hC fun j hj => hv j hj ?_
    rw [Array.getD_eq_getD_getElem?, Array.getElem?_replicate, if_pos hj]
    rfl) l.length (Array.replicate l.length false) a { w with drawn := w.drawn + 1 } (by simp) ⟨xs0, h0, by simp, Closed.start _ _, hC, fun j hj hl => (by rw [getD_replicate_false] at hl; cases hl), fun j _ => rfl⟩ (unlisted_all _)
  simpa using this
theorem puts_of {p : Plan} : ∀ (m : List Oper) (k : Nat), (∀ j d, (dsts m)[j]? = some d → ∀ xs v, (p.F xs).put d v = p.F (upd xs (k + j) v)) → Puts p m k
  | [], _, _ => trivial
  | o :: m, k, h => ⟨fun xs v => h 0 o.dst (by simp [dsts]) xs v, puts_of m (k + 1) fun j d hd xs v => by
      have := h (j + 1) d (by simpa [dsts] using hd) xs v
      rwa [show k + (j + 1) = k + 1 + j by omega] at this⟩
theorem list_of {Q' : Exit → Act → World → Prop} (hlow : lowB (l ++ [default]) l.length = true) (hput : ∀ i o, l[i]? = some o → ∀ xs v, (p.F xs).put o.dst v = p.F (upd xs i v)) (hstab : ∀ i j x w w', j ≠ i → reach l.toArray 6 j i = false → p.Ext i w w' → p.E j x w → p.E j x w') (hst : Steps P p l xs0 l 0) (hQ : ∀ a w, Inv p l xs0 (Array.replicate l.length true) a w → Q' .normal a w) :
    ∀ (m : List Oper) (k : Nat) (a : Act) (w : World), (∀ j, m[j]? = l[k + j]?) → k + m.length = l.length → Inv p l xs0 (headDone l k) a w → wpList P l.toArray Q' m a w := by
  intro m
  induction m with
  | nil =>
    intro k a w _ hk hI
    have : k = l.length := by simpa using hk
    subst this
    rw [head_all] at hI
    exact hQ a w hI
  | cons o m ih =>
    intro k a w hm hk hI
    have h0 : l.toArray[k]? = some o := by simpa using (hm 0).symm
    have hkl : k < l.length := by simp at hk; omega
    have h1 := wpOp_of (Q' := Q') (K' := wpList P l.toArray Q' m) hput hstab hst hI (head_ready hlow hkl) (fun a' w' hI' => by
      rw [head_set hkl] at hI'
      exact ih (k + 1) a' w' (fun j => by have := hm (j + 1); simpa [Nat.add_assoc, Nat.add_comm 1 j] using this) (by simp at hk; omega) hI')
    unfold wpOp at h1
    simp only [h0] at h1
    exact h1
/-- A region, the frame made of the operations' slots. -/
theorem regionF {id : Nat} {Q : Exit → Act → World → Prop} {a : Act} {w : World} (E : Nat → Value → World → Prop) (C : Array Bool → World → Prop) (X : Nat → World → World → Prop) (st : ∀ i j x w w', j ≠ i → reach l.toArray 6 j i = false → X i w w' → E j x w → E j x w')
    (hm : P.follows .mixedOrders = true) (hlow : lowB (l ++ [default]) l.length = true) (hap : apartB (dsts l) = true) (hC : C (Array.replicate l.length false) { w with drawn := w.drawn + 1 })
    (H : ∀ (F : (Nat → Value) → Act), (∀ xs, F xs = frame xs (dsts l) 0 a) → Steps P ⟨F, E, C, X⟩ l (fun i => match (dsts l)[i]? with | some (some d) => a.tmps.getD d undef | _ => undef) l 0 ∧
      (∀ xs w', C (Array.replicate l.length true) w' → (∀ j, j < l.length → E j (xs j) w') → Q .normal (F xs) w')) : (Code.region id l.toArray true).wp P Q a w := by
  obtain ⟨h1, h2⟩ := H (fun xs => frame xs (dsts l) 0 a) (fun _ => rfl)
  refine region ⟨fun xs => frame xs (dsts l) 0 a, E, C, X⟩ _ hm hlow (frame_start a hap) hC (puts_of l 0 fun j d hd xs v => ?_) st h1 h2
  have := frame_at xs v (dsts l) 0 a hap j d hd
  simpa using this
/-- A region whose order stands, walked likewise. -/
theorem regionU {id : Nat} {Q : Exit → Act → World → Prop} {a : Act} {w : World} (E : Nat → Value → World → Prop) (C : Array Bool → World → Prop) (X : Nat → World → World → Prop) (st : ∀ i j x w w', j ≠ i → reach l.toArray 6 j i = false → X i w w' → E j x w → E j x w')
    (hlow : lowB (l ++ [default]) l.length = true) (hap : apartB (dsts l) = true) (hC : C (Array.replicate l.length false) w)
    (H : ∀ (F : (Nat → Value) → Act), (∀ xs, F xs = frame xs (dsts l) 0 a) → Steps P ⟨F, E, C, X⟩ l (fun i => match (dsts l)[i]? with | some (some d) => a.tmps.getD d undef | _ => undef) l 0 ∧
      (∀ xs w', C (Array.replicate l.length true) w' → (∀ j, j < l.length → E j (xs j) w') → Q .normal (F xs) w')) : (Code.region id l.toArray false).wp P Q a w := by
  obtain ⟨h1, h2⟩ := H (fun xs => frame xs (dsts l) 0 a) (fun _ => rfl)
  have hput : ∀ i o, l[i]? = some o → ∀ xs v, ((Plan.mk (fun xs => frame xs (dsts l) 0 a) E C X).F xs).put o.dst v = (Plan.mk (fun xs => frame xs (dsts l) 0 a) E C X).F (upd xs i v) := fun i o ho xs v => by
    have := frame_at xs v (dsts l) 0 a hap i o.dst (by simp [dsts, ho])
    simpa using this
  refine wp_region_lit (list_of (p := ⟨fun xs => frame xs (dsts l) 0 a, E, C, X⟩) hlow hput st h1 (fun a' w' hI => ?_) l 0 a w (by simp) (by simp) ?_)
  · obtain ⟨xs, e, _, _, hC, hv, _⟩ := hI
    rw [e]
    refine h2 xs w' hC fun j hj => hv j hj ?_
    rw [Array.getD_eq_getD_getElem?, Array.getElem?_replicate, if_pos hj]
    rfl
  · rw [head_zero]
    exact ⟨_, frame_start a hap, by simp, Closed.start _ _, hC, fun j hj hl => (by rw [getD_replicate_false] at hl; cases hl), fun j _ => rfl⟩
end
end RegX
end Go.Proofs.YteinppjklhomnaaDoor
/- As RegX, within a fence that lets everything in. Of no program. -/
namespace Go.Proofs.YteinppjklhomnaaDoor
open Go.RowKit Go.ChangeShapes Go.WideShapes
namespace RegX
open Reg (upon upd Closed reach frame dsts apartB frame_at frame_start unlisted_all head_set head_at head_zero head_all head_ready noDefer)
section
variable {P : Program} {l : List Oper} {p : Plan} {xs0 : Nat → Value} {F : Fence} {n : Nat}
theorem wpOpIn_of {L : Array Bool} {a : Act} {w : World} {i : Nat} {K' : Act → World → Prop} {Q' : Exit → Act → World → Prop} (hfn : ∀ f, F.fn f) (hd : F.depth = none) (hcl : ∀ (f : FuncId) (args : Array Value) (w : World) (R : Ending → World → Prop), Calls P f args w R → CallsIn F (n - 1) P f args w R) (hnd : noDefer l = true) (hput : ∀ i o, l[i]? = some o → ∀ xs v, (p.F xs).put o.dst v = p.F (upd xs i v)) (hstab : ∀ i j x w w', j ≠ i → reach l.toArray 6 j i = false → p.Ext i w w' → p.E j x w → p.E j x w') (hst : Steps P p l xs0 l 0) (hI : Inv p l xs0 L a w) (hr : i ∈ Region.ready .any l.toArray L)
    (h : ∀ a' w', Inv p l xs0 (L.setIfInBounds i true) a' w' → K' a' w') : wpOpIn F n P l.toArray Q' i K' a w := by
  obtain ⟨xs, rfl, hs, hcl2, hC, hv, hold⟩ := hI
  have hcn := hcl2.next hr
  obtain ⟨_, o, ho, _⟩ := mem_ready.1 hr
  have ho' : l[i]? = some o := by simpa using ho
  have hkeep : ∀ {w' : World}, p.Ext i w w' → ∀ j, j ≠ i → L.getD j false = true → p.E j (xs j) w → p.E j (xs j) w' := fun hx j hji hl hE => by
    cases hre : reach l.toArray 6 j i with
    | false => exact hstab i j _ _ _ hji hre hx hE
    | true =>
      have h1 := hcl2.reach 6 j i hl hre
      have h2 := (mem_ready.1 hr).1
      have hlt : i < l.length := (List.getElem?_eq_some_iff.1 ho').1
      rw [getD_any (by rw [hs]; exact hlt), h2] at h1
      cases h1
  have hstep := steps_at l 0 hst i o ho'
  rw [Nat.zero_add] at hstep
  unfold wpOpIn
  simp only [ho]
  rcases hstep L w xs ⟨hs, hcl2, hr, hC, hv, hold⟩ with ⟨hw, hu⟩ | ⟨hw, hC', hE⟩
  · rw [if_pos hw]
    unfold Oper.wpIn
    refine ⟨fun f _ => hfn f, ?_⟩
    rw [Oper.semAt_plain F _ _ (Reg.noDefer_at hnd ho')]
    generalize (execOp (p.F xs).eval o).run P w = r at *
    cases r with
    | halt x w' => exact hu.elim
    | ok nx w' =>
      cases nx <;> simp only [upon] at hu <;> simp only [Oper.uponIn]
      case value u =>
        obtain ⟨h1, h2, h3⟩ := hu
        exact h _ _ (Inv.next hput ho' hs hcn hv hold h1 h2 (hkeep h3))
      case skip =>
        obtain ⟨h1, h2, h3⟩ := hu
        exact h _ _ (Inv.next hput ho' hs hcn hv hold h1 h2 (hkeep h3))
      case enter f args =>
        refine ⟨fun hh => (by rw [hd] at hh; cases hh), (hcl f args w' _ hu).mono fun e w'' ⟨v, he, h1, h2, h3⟩ => ?_⟩
        subst he
        exact h _ _ (Inv.next hput ho' hs hcn hv hold h1 h2 (hkeep h3))
  · rw [if_neg (by rw [hw]; exact Bool.false_ne_true)]
    exact ⟨fun f _ => hfn f, h _ _ (Inv.next hput ho' hs hcn hv hold hC' hE fun _ _ _ h => h)⟩
theorem anyIn_of {Q' : Exit → Act → World → Prop} (hfn : ∀ f, F.fn f) (hd : F.depth = none) (hcl : ∀ (f : FuncId) (args : Array Value) (w : World) (R : Ending → World → Prop), Calls P f args w R → CallsIn F (n - 1) P f args w R) (hnd : noDefer l = true) (hlow : lowB (l ++ [default]) l.length = true) (hput : ∀ i o, l[i]? = some o → ∀ xs v, (p.F xs).put o.dst v = p.F (upd xs i v)) (hstab : ∀ i j x w w', j ≠ i → reach l.toArray 6 j i = false → p.Ext i w w' → p.E j x w → p.E j x w') (hst : Steps P p l xs0 l 0) (hQ : ∀ a w, Inv p l xs0 (Array.replicate l.length true) a w → Q' .normal a w) :
    ∀ (f : Nat) (L : Array Bool) (a : Act) (w : World), L.size = l.length → Inv p l xs0 L a w → unlisted l.length L = f → wpAnyIn F n P .any l.toArray Q' f L a w := by
  have hend : ∀ (L : Array Bool) a w, L.size = l.length → Region.ready .any l.toArray L = [] → Inv p l xs0 L a w → Q' .normal a w := by
    intro L a w hs hr hI
    rw [Mix.all_listed hlow hs hr] at hI
    exact hQ a w hI
  intro f
  induction f with
  | zero =>
    intro L a w hs hI hu
    have hr : Region.ready .any l.toArray L = [] := by
      cases hc : Region.ready .any l.toArray L with
      | nil => rfl
      | cons i t =>
        have hi : i ∈ Region.ready .any l.toArray L := by rw [hc]; simp
        obtain ⟨h0, o, ho, _⟩ := mem_ready.1 hi
        have hlt : i < l.length := by simpa using (Array.getElem?_eq_some_iff.1 ho).1
        have := unlisted_zero hu i hlt
        rw [this] at h0
        cases h0
    exact ⟨hr, hend L a w hs hr hI⟩
  | succ f ih =>
    intro L a w hs hI hu
    refine ⟨fun hr => hend L a w hs hr hI, fun i hi => wpOpIn_of hfn hd hcl hnd hput hstab hst hI hi fun a' w' hI' => ih _ a' w' (by simpa using hs) hI' ?_⟩
    obtain ⟨h0, o, ho, _⟩ := mem_ready.1 hi
    have hlt : i < l.length := by simpa using (Array.getElem?_eq_some_iff.1 ho).1
    have := unlisted_set hs hlt h0
    omega
theorem regionIn {id : Nat} {Q : Exit → Act → World → Prop} {a : Act} {w : World} (hfn : ∀ f, F.fn f) (hd : F.depth = none) (hcl : ∀ (f : FuncId) (args : Array Value) (w : World) (R : Ending → World → Prop), Calls P f args w R → CallsIn F (n - 1) P f args w R) (hnd : noDefer l = true) (p : Plan) (xs0 : Nat → Value) (hm : P.follows .mixedOrders = true) (hlow : lowB (l ++ [default]) l.length = true) (h0 : a = p.F xs0) (hC : p.C (Array.replicate l.length false) { w with drawn := w.drawn + 1 })
    (hputs : Puts p l 0) (hstab : ∀ i j x w w', j ≠ i → reach l.toArray 6 j i = false → p.Ext i w w' → p.E j x w → p.E j x w') (hst : Steps P p l xs0 l 0)
    (hend : ∀ xs w', p.C (Array.replicate l.length true) w' → (∀ j, j < l.length → p.E j (xs j) w') → Q .normal (p.F xs) w') : (Code.region id l.toArray true).wpIn F n P Q a w := by
  refine wpIn_region_any hm ?_
  have hput : ∀ i o, l[i]? = some o → ∀ xs v, (p.F xs).put o.dst v = p.F (upd xs i v) := fun i o ho => by
    have := puts_at l 0 hputs i o ho
    rwa [Nat.zero_add] at this
  have := anyIn_of (Q' := Q) hfn hd hcl hnd hlow hput hstab hst (fun a w ⟨xs, e, _, _, hC, hv, _⟩ => by
    subst e
    refine hend xs w hC fun j hj => hv j hj ?_
    rw [Array.getD_eq_getD_getElem?, Array.getElem?_replicate, if_pos hj]
    rfl) l.length (Array.replicate l.length false) a { w with drawn := w.drawn + 1 } (by simp) ⟨xs0, h0, by simp, Closed.start _ _, hC, fun j hj hl => (by rw [getD_replicate_false] at hl; cases hl), fun j _ => rfl⟩ (unlisted_all _)
  simpa using this
theorem regionFIn {id : Nat} {Q : Exit → Act → World → Prop} {a : Act} {w : World} (hfn : ∀ f, F.fn f) (hd : F.depth = none) (hcl : ∀ (f : FuncId) (args : Array Value) (w : World) (R : Ending → World → Prop), Calls P f args w R → CallsIn F (n - 1) P f args w R) (hnd : noDefer l = true) (E : Nat → Value → World → Prop) (C : Array Bool → World → Prop) (X : Nat → World → World → Prop) (st : ∀ i j x w w', j ≠ i → reach l.toArray 6 j i = false → X i w w' → E j x w → E j x w')
    (hm : P.follows .mixedOrders = true) (hlow : lowB (l ++ [default]) l.length = true) (hap : apartB (dsts l) = true) (hC : C (Array.replicate l.length false) { w with drawn := w.drawn + 1 })
    (H : ∀ (F : (Nat → Value) → Act), (∀ xs, F xs = frame xs (dsts l) 0 a) → Steps P ⟨F, E, C, X⟩ l (fun i => match (dsts l)[i]? with | some (some d) => a.tmps.getD d undef | _ => undef) l 0 ∧
      (∀ xs w', C (Array.replicate l.length true) w' → (∀ j, j < l.length → E j (xs j) w') → Q .normal (F xs) w')) : (Code.region id l.toArray true).wpIn F n P Q a w := by
  obtain ⟨h1, h2⟩ := H (fun xs => frame xs (dsts l) 0 a) (fun _ => rfl)
  refine regionIn hfn hd hcl hnd ⟨fun xs => frame xs (dsts l) 0 a, E, C, X⟩ _ hm hlow (frame_start a hap) hC (puts_of l 0 fun j d hd xs v => ?_) st h1 h2
  have := frame_at xs v (dsts l) 0 a hap j d hd
  simpa using this
end
end RegX
end Go.Proofs.YteinppjklhomnaaDoor
/- A struct or an array that fills a block: loaded and stored whole. Of no program. -/
namespace Go.Proofs.YteinppjklhomnaaDoor
open Go.RowKit Go.ChangeShapes Go.WideShapes
theorem But.drew {g B : Nat} {w w' : World} (h : But g B w w') : But g B w w'.drew := ⟨h.os, h.tape, h.output, h.size, h.block⟩
theorem has_setCells (g : Nat) (t : TypeId) : ∀ (vs pre old : List Value) (w : World), Has w g (pre ++ old) t → old.length = vs.length → Has (w.setCells g pre.length vs) g (pre ++ vs) t
  | [], pre, old, w, h, hl => by
    have : old = [] := List.eq_nil_of_length_eq_zero hl
    subst this
    exact h
  | v :: vs, pre, old, w, h, hl => by
    cases old with
    | nil => simp at hl
    | cons o old =>
      have h1 := h.set pre.length v
      rw [List.set_append_right _ _ (Nat.le_refl _), Nat.sub_self, List.set_cons_zero] at h1
      have h2 := has_setCells g t vs (pre ++ [v]) old (w.setCell ⟨g, pre.length, none⟩ v) (by simpa using h1) (by simpa using hl)
      simpa [World.setCells] using h2
theorem but_setCells (g B : Nat) (w : World) : ∀ (vs : List Value) (o : Nat) (w' : World), But g B w w' → But g B w (w'.setCells g o vs)
  | [], _, _, h => h
  | v :: vs, o, w', h => but_setCells g B w vs (o + 1) _ (h.set o v)
theorem has_there {w : World} {g : Nat} {C : List Value} {t : TypeId} (h : Has w g C t) (n : Nat) (hn : n ≤ C.length) : w.there g 0 n := fun j hj => by
  rw [Nat.zero_add, h.cell j (C[j]'(by omega)) (List.getElem?_eq_getElem _)]
  exact ⟨rfl, h.free j⟩
section
variable {P : Program}
/-- 'x := *p', of a struct or an array that fills its block. -/
theorem wpList_load_has {ops : Array Oper} {rest : List Oper} {o : Oper} {a : Act} {w : World} {Q : Exit → Act → World → Prop} (hgd : o.guard = none) (ty : TypeId) (x : Operand) (ho : o.op = .load ty x)
    (g : Nat) (hx : a.eval x = .pointer (some ⟨g, 0, none⟩)) (t : TypeId) (C : List Value) (d : TypeDesc) (n : Nat) (hg : Has w g C t)
    (hu : P.underlying ty = some d) (hd : (match d with | .struct _ | .array _ _ => true | _ => false) = true) (hi : (P.info? ty).map (·.size) = some n) (hn : C.length = n)
    (h : wpList P ops Q rest (a.put o.dst (.agg C.toArray)) w) : wpList P ops Q (o :: rest) a w :=
  wpList_load_row hgd ty x ho g hx t C.toArray (0, 0) d hg hu hd (by rw [hi]; simp [hn]) h
/-- '*p = x'. -/
theorem wpList_store_has {ops : Array Oper} {rest : List Oper} {o : Oper} {a : Act} {w : World} {Q : Exit → Act → World → Prop} (hgd : o.guard = none) (ty : TypeId) (x y : Operand) (ho : o.op = .store ty x y)
    (g : Nat) (hx : a.eval x = .pointer (some ⟨g, 0, none⟩)) (t : TypeId) (old C : List Value) (n : Nat) (hy : a.eval y = .agg C.toArray) (hg : Has w g old t)
    (hi : (P.info? ty).map (·.size) = some n) (ho' : old.length = n) (hn : C.length = n) (h1 : ∀ v ∈ C, v.oneCell' = true)
    (h : ∀ w', Has w' g C t → But g w.heap.size w w' → wpList P ops Q rest (a.put o.dst undef) w') : wpList P ops Q (o :: rest) a w := by
  refine wpList_store_mid hgd ty x y ho g 0 C.toArray hx hy (has_there hg _ (by simp; omega)) (by rw [hi]; simp [hn]) (all_oneCell_toArray h1) ?_
  have h2 := has_setCells g t C [] old w hg (by omega)
  exact h _ (by simpa using h2) (but_setCells g w.heap.size w C 0 w (But.refl _ _ _))
theorem exec_load_has {ρ : Operand → Value} {o : Oper} {w : World} {ty : TypeId} {x : Operand} (ho : o.op = .load ty x) {g : Nat} (hx : ρ x = .pointer (some ⟨g, 0, none⟩)) {t : TypeId} {C : List Value} {d : TypeDesc} {n : Nat} (hg : Has w g C t)
    (hu : P.underlying ty = some d) (hd : (match d with | .struct _ | .array _ _ => true | _ => false) = true) (hi : (P.info? ty).map (·.size) = some n) (hn : C.length = n) : (execOp ρ o).run P w = .ok (.value (.agg C.toArray)) w := by
  unfold execOp
  simp only [ho, hx, Instr.loadAt, Instr.sureAddr, Sem.run_bind, Sem.run_pure, Result.andThen_ok, run_loadVar_row w g t ty C.toArray (0, 0) d hg hu hd (by rw [hi]; simp [hn])]
theorem results_has {fn : Func} {p : Tmp} {ty : TypeId} (h : fn.results = #[.cell p ty]) (tmps : Array Value) (w : World) (g : Nat) (t : TypeId) (C : List Value) (d : TypeDesc) (n : Nat)
    (hp : tmps.getD p undef = .pointer (some ⟨g, 0, none⟩)) (hg : Has w g C t)
    (hu : P.underlying ty = some d) (hd : (match d with | .struct _ | .array _ _ => true | _ => false) = true) (hi : (P.info? ty).map (·.size) = some n) (hn : C.length = n) :
    (results fn tmps).run P w = .ok (.agg C.toArray) w :=
  results_cell_row h tmps w g t C.toArray (0, 0) d hp hg hu hd (by rw [hi]; simp [hn])
end
end Go.Proofs.YteinppjklhomnaaDoor
