/- Texts put together: Aid, BasewP, BasewS, BordM, BoundC, ClonR, Frame, GraM, Grow, Lit, Mix, Obj, AppK, Elem, ElemA, IntC, OctK, Open, PairsC, PairsJ, PairsR, Reg, RegC, RegI, RegX, RegJ, Row, CluN, ElemS, RngO, ScalM, ScalarC, Repl, CellM, CellA, RowM, MarkM, ScalarR, CellO, CellT, CellU, Search, SegA, PropL, SegC, Tab. -/
import Derived.Handy
import Derived.Laws.BytesArg
import Derived.Laws.AppendOwnNone
import Derived.Lib.Hide
import Derived.Deep.QuietTactic
import Derived.BigQuiet
import Derived.OpenShut
import Derived.Deep.RegionWith
import Derived.WalkSpells
import Derived.Test.YtoeggiplcaegoaaGreatDoorProg
import Derived.Lib.LazyBuf
import Derived.Carry
import Derived.LaidMore
import Derived.LaidHandle
import Derived.Stop.Joined
import Derived.StillTail
import Derived.Below
import Derived.Laws.Tables
import Derived.Laws.Rows
import Derived.Deep.WholeRow
import Derived.Laws.AppendOwn
import Derived.OneCell
import Derived.Laws.OwnMore
import Derived.Deep.Slices
import Derived.Deep.Strs
import Derived.OwnWalkIn
import Derived.OrdersIn
import Derived.RangeFuncCalls
import Derived.Deep.MidRow
import Derived.Laws.StructEq
import Derived.ChangeKeysEq
import Derived.StillTailTactics
import Derived.RangeFuncNested
import Derived.RangeFuncBound
import Derived.RangeFuncLeaves
import Derived.WalkKit
import Derived.TacticsInMore
import Derived.LoopNIn
import Derived.LoopIn
import Derived.Shelf.Abstract
import Derived.Shelf.RegionOpen
import Derived.Lib.MinMax
import Derived.Deep.LoopGhost
import Derived.Lib.SmallJoins
/- Small lemmas of no program: a slice value that holds a list of numbers, and what keeps it; bits; results. -/
namespace Go.Proofs.YtoeggiplcaegoaaGreatDoor
open Go.RowKit Go.ChangeShapes Go.WideShapes

theorem ret_eq {a b : Value} (h : a = b) : Ending.returned a = .returned b := by rw [h]

/-- In the world w the slice value v holds the numbers xs (of kind k). -/
def Held (k : IntKind) (w : World) (v : Value) (xs : List Int) : Prop :=
  ∃ ao cap, v = .slice ao xs.length cap ∧ (ao = none → xs = [] ∧ cap = 0) ∧ ∀ i, i < xs.length → ∃ b off, ao = some ⟨b, off, none⟩ ∧ b < w.heap.size ∧ w.cell? ⟨b, off + i, none⟩ = some (.int k (xs.getD i 0))

theorem Held.nil (k : IntKind) (w : World) : Held k w (.slice none 0 0) [] := ⟨none, 0, rfl, fun _ => ⟨rfl, rfl⟩, fun i hi => by simp at hi⟩
theorem held_at {k : IntKind} {w : World} {b off cap : Nat} {xs : List Int} (hlt : b < w.heap.size) (hc : ∀ i, i < xs.length → w.cell? ⟨b, off + i, none⟩ = some (.int k (xs.getD i 0))) : Held k w (.slice (some ⟨b, off, none⟩) xs.length cap) xs :=
  ⟨_, cap, rfl, (fun h => by cases h), fun i hi => ⟨b, off, rfl, hlt, hc i hi⟩⟩
theorem Held.below {k : IntKind} {w w' : World} {v : Value} {xs : List Int} (h : Held k w v xs) (hb : Below w.heap.size w w') : Held k w' v xs := by
  obtain ⟨ao, cap, rfl, hn, hc⟩ := h
  refine ⟨ao, cap, rfl, hn, fun i hi => ?_⟩
  obtain ⟨b, off, rfl, hlt, hcell⟩ := hc i hi
  exact ⟨b, off, rfl, by have := hb.size; omega, (hb.cell (p := ⟨b, off + i, none⟩) hlt).trans hcell⟩
theorem Held.len {k : IntKind} {w : World} {v : Value} {xs : List Int} (h : Held k w v xs) : ∃ ao cap, v = .slice ao xs.length cap := by
  obtain ⟨ao, cap, rfl, _⟩ := h
  exact ⟨ao, cap, rfl⟩
/-- What a walk asks of a slice that it goes through: its shape, and, where there is an element, where it lies. -/
theorem Held.view {k : IntKind} {w : World} {v : Value} {xs : List Int} (h : Held k w v xs) :
    ∃ ao cap, v = .slice ao xs.length cap ∧ ∀ i, i < xs.length → ∃ b off, ao = some ⟨b, off, none⟩ ∧ b < w.heap.size ∧ w.cell? ⟨b, off + i, none⟩ = some (.int k (xs.getD i 0)) := by
  obtain ⟨ao, cap, rfl, _, hc⟩ := h
  exact ⟨ao, cap, rfl, hc⟩
theorem Held.spots {k : IntKind} {w : World} {ao : Option Addr} {n cap : Nat} {xs : List Int} (h : Held k w (.slice ao n cap) xs) :
    ∀ i, i < xs.length → ∃ b off, ao = some ⟨b, off, none⟩ ∧ b < w.heap.size ∧ w.cell? ⟨b, off + i, none⟩ = some (.int k (xs.getD i 0)) := by
  obtain ⟨ao', cap', he, _, hc⟩ := h
  cases he
  exact hc
/-- What the call owns it holds. -/
theorem held_of_owns {k : IntKind} {w : World} {B e : Nat} {v : Value} {n : Nat} {xs : List Int} (h : w.ownsRow B e 1 v n (xs.map (Value.int k))) : Held k w v xs := by
  have hl : xs.length = n := by have := h.1; simpa using this
  subst hl
  rcases h.2 with ⟨rfl, hn⟩ | ⟨g, cap, cur, rfl, hb, hg, h1, h2, h3, h4⟩
  · have : xs = [] := List.eq_nil_of_length_eq_zero hn
    subst this
    exact Held.nil k w
  · refine held_at (Array.getElem?_eq_some_iff.1 hg).1 fun i hi => ?_
    have := h.cells (g := g) rfl i (.int k (xs.getD i 0)) (by simp [List.getElem?_eq_getElem hi])
    rw [Addr.add_lit] at this
    simpa using this
theorem ownsRow_below {w w' : World} {B e size : Nat} {v : Value} {n : Nat} {xs : List Value} (h : w.ownsRow B e size v n xs) (hb : Below w.heap.size w w') : w'.ownsRow B e size v n xs := by
  refine ⟨h.1, ?_⟩
  rcases h.2 with hn | ⟨g, cap, cur, rfl, hB, hg, rest⟩
  · exact .inl hn
  · exact .inr ⟨g, cap, cur, rfl, hB, (hb.block g (Array.getElem?_eq_some_iff.1 hg).1).trans hg, rest⟩
/-- The cells of a block that was just laid. -/
theorem new_cells (w : World) (C : List Value) (t : TypeId) : ∀ j u, C[j]? = some u → (w.alloc (.cells C.toArray t)).cell? ((⟨w.heap.size, 0, none⟩ : Addr).add j) = some u := by
  intro j u hj
  rw [Addr.add_lit, cell_of_row (w.alloc (.cells C.toArray t)) w.heap.size (0 + j) C.toArray t (0, 0) (heap_alloc_new w _)]
  simpa using hj

/-- 'append(out, a, b, ..)' onto a row of the call's own (or nil): the new elements lie in a block that was just laid. -/
theorem wpList_append_new {P : Program} (w0 : World) {ops : Array Oper} {rest : List Oper} {o : Oper} {a : Act} {Q : Exit → Act → World → Prop} (hgd : o.guard = none) (s x : Operand) (t : TypeId)
    (ho : o.op = .call { callee := .builtin .append, args := #[s, x], argTypes := #[t, t] })
    (base : Nat) (e : TypeId) (z : Value) (bytes : Nat) (ht : P.underlying t = some (.slice e)) (hinfo : (P.info? e).map (fun i => (i.zero, i.size, i.bytes)) = some (some z, 1, bytes)) (hzs : z.cells.size = 1)
    (v : Value) (n : Nat) (xs : List Value) (hs : a.eval s = v) (hown : w0.ownsRow base e 1 v n xs)
    (C : List Value) (m c : Nat) (hx : a.eval x = .slice (some ⟨w0.heap.size, 0, none⟩) m c) (hl : C.length = m) (h1 : ∀ u ∈ C, u.oneCell' = true)
    (hbytes : (n + m) * bytes ≤ 140737488355328) (hb0 : n + m ≤ 140737488355328) (hbase : base ≤ w0.heap.size)
    (h : ∀ v' w', w'.ownsRow base e 1 v' (n + m) (xs ++ C) → Below base w0 w' → wpList P ops Q rest (a.put o.dst v') w') :
    wpList P ops Q (o :: rest) a (w0.alloc (.cells C.toArray e)) := by
  obtain ⟨i0, hi, hz0, hz1, hz2⟩ := info_parts hinfo
  refine wpList_append_own _ hgd s x t ho base e i0 z 1 bytes ht hi hz0 hz1 hz2 hzs (by decide) v n xs hs (hown.alloc _) ⟨w0.heap.size, 0, none⟩ m c C hx (by omega) (new_cells w0 C e) h1 (by unfold maxLen; omega) hbytes (by simp; omega) ?_
  intro v' w' hown' hgrow _
  refine h v' w' hown' (((Below.refl base w0).alloc hbase _).grown hgrow (by simp; omega) fun k hk => ((hown.alloc (.cells C.toArray e)).lt k hk).1)
/-- A block that was just laid holds its numbers. -/
theorem held_new (k : IntKind) (w : World) (C : List Value) (t : TypeId) (n cap : Nat) (xs : List Int) (hC : C = xs.map (Value.int k)) (hn : xs.length = n) : Held k (w.alloc (.cells C.toArray t)) (.slice (some ⟨w.heap.size, 0, none⟩) n cap) xs := by
  subst hC hn
  refine held_at (by simp) fun i hi => ?_
  have := new_cells w (xs.map (Value.int k)) t i (.int k (xs.getD i 0)) (by simp [List.getElem?_eq_getElem hi])
  rw [Addr.add_lit] at this
  exact this
theorem undrew {B : Nat} {w w' : World} (h : Below B w.drew w') : Below B w w' := ⟨h.os, h.tape, h.output, h.size, h.block⟩

/-- 'append(out, u...)' onto a row of the call's own (or nil), u a slice that holds the numbers ys. -/
theorem wpList_append_held {P : Program} (w : World) {ops : Array Oper} {rest : List Oper} {o : Oper} {a : Act} {Q : Exit → Act → World → Prop} (hgd : o.guard = none) (s x : Operand) (t : TypeId)
    (ho : o.op = .call { callee := .builtin .append, args := #[s, x], argTypes := #[t, t] })
    (base : Nat) (e : TypeId) (z : Value) (bytes : Nat) (ht : P.underlying t = some (.slice e)) (hinfo : (P.info? e).map (fun i => (i.zero, i.size, i.bytes)) = some (some z, 1, bytes)) (hzs : z.cells.size = 1)
    (k : IntKind) (v : Value) (n : Nat) (xs : List Int) (hs : a.eval s = v) (hown : w.ownsRow base e 1 v n (xs.map (Value.int k)))
    (u : Value) (ys : List Int) (hx : a.eval x = u) (hu : Held k w u ys)
    (hbytes : (n + ys.length) * bytes ≤ 140737488355328) (hb0 : n + ys.length ≤ 140737488355328) (hbase : base ≤ w.heap.size)
    (h : ∀ v' w', w'.ownsRow base e 1 v' (n + ys.length) ((xs ++ ys).map (Value.int k)) → Below base w w' → wpList P ops Q rest (a.put o.dst v') w') :
    wpList P ops Q (o :: rest) a w := by
  obtain ⟨i0, hi, hz0, hz1, hz2⟩ := info_parts hinfo
  obtain ⟨ao, cap, rfl, hn, hc⟩ := hu
  cases ao with
  | none =>
    obtain ⟨rfl, rfl⟩ := hn rfl
    exact wpList_append_own_none hgd s x t ho base e i0 1 ht hi v n _ hs hown hx (h v w (by simpa using hown) (Below.refl _ _))
  | some ad =>
    refine wpList_append_own _ hgd s x t ho base e i0 z 1 bytes ht hi hz0 hz1 hz2 hzs (by decide) v n _ hs hown ad ys.length cap (ys.map (Value.int k)) hx (by simp) ?_ (ints_oneCell k ys) (by unfold maxLen; omega) hbytes hbase ?_
    · intro j y hj
      have hjl : j < ys.length := by
        rcases Nat.lt_or_ge j ys.length with h | h
        · exact h
        · simp [List.getElem?_eq_none (show (ys.map (Value.int k)).length ≤ j by simpa using h)] at hj
      obtain ⟨b, off, e1, _, h1⟩ := hc j hjl
      cases e1
      rw [Addr.add_lit, h1]
      simp [List.getElem?_eq_getElem hjl] at hj
      subst hj
      simp [List.getD, List.getElem?_eq_getElem hjl]
    · intro v' w' hown' hgrow _
      exact h v' w' (by simpa using hown') ((Below.refl base w).grown hgrow hbase fun j hj => (hown.lt j hj).1)
/-- What hands back a slice of bytes that it made. -/
def Made (k : IntKind) (w : World) (xs : List Int) (e : Ending) (w' : World) : Prop := ∃ v', e = .returned v' ∧ Held k w' v' xs ∧ Below w.heap.size w w'

/-- What answers a value and turns nothing that was there. -/
def Gives (w : World) (v : Value) (e : Ending) (w' : World) : Prop := e = .returned v ∧ Below w.heap.size w w'
theorem _root_.Go.RowKit.Below.drewN {B : Nat} {w w' : World} (h : Below B w w') (n : Nat) : Below B w (w'.drewN n) := ⟨h.os, h.tape, h.output, h.size, h.block⟩
/-- A contract 'w = w'' inside a region that reads alone. -/
theorem callq {P : Program} {f : FuncId} {args : Array Value} {w : World} {n : Nat} {v : Value}
    (h : Calls P f args (w.drewN n) fun e w' => e = .returned v ∧ w.drewN n = w') : Calls P f args (w.drewN n) fun e w'' => e = .returned v ∧ ∃ m, w'' = w.drewN m :=
  h.mono fun _ _ ⟨he, hm⟩ => ⟨he, n, hm.symm⟩
theorem held_newAt (k : IntKind) (w : World) (g : Nat) (C : List Value) (t : TypeId) (n cap : Nat) (xs : List Int) (hg : g = w.heap.size) (hC : C = xs.map (Value.int k)) (hn : xs.length = n) : Held k (w.alloc (.cells C.toArray t)) (.slice (some ⟨g, 0, none⟩) n cap) xs := by
  subst hg
  exact held_new k w C t n cap xs hC hn
theorem ofInt_i32 (a : Nat) (h : a < 4294967296) : (BitVec.ofInt 32 (a : Int)).toNat = a := by
  rw [BitVec.toNat_ofInt]
  omega
theorem i32_join (a x : Int) (h0 : 0 ≤ a) (h1 : a < 1073741824) (ha : a % 64 = 0) (x0 : 0 ≤ x) (x1 : x < 64) : bits .or .i32 a x = a + x := by
  obtain ⟨A, rfl⟩ := Int.eq_ofNat_of_zero_le h0
  obtain ⟨X, rfl⟩ := Int.eq_ofNat_of_zero_le x0
  show IntKind.i32.wrap ((BitVec.ofInt 32 (A : Int) ||| BitVec.ofInt 32 (X : Int)).toNat : Int) = _
  rw [BitVec.toNat_or, ofInt_i32 A (by omega), ofInt_i32 X (by omega), nat_join 6 A X (by omega) (by omega), IntKind.wrap_i32]
  omega
theorem u8_and63 (x : Int) (x0 : 0 ≤ x) (x1 : x ≤ 255) : bits .and .u8 x 63 = x % 64 := by
  rw [u8_and x 63 x0 (by omega) (by decide) (by decide)]
  have : x.toNat &&& (63 : Int).toNat = x.toNat % 2 ^ 6 := Nat.and_two_pow_sub_one_eq_mod x.toNat 6
  rw [this]
  omega
/-- A slice that does not lie below block B. -/
def Fresh (B : Nat) (v : Value) : Prop := ∀ a n c, v = .slice (some a) n c → B ≤ a.block
theorem Fresh.nil (B : Nat) (n c : Nat) : Fresh B (.slice none n c) := fun a _ _ h => by cases h
theorem Fresh.at_ (B g off n c : Nat) (h : B ≤ g) : Fresh B (.slice (some ⟨g, off, none⟩) n c) := fun a _ _ e => by cases e; exact h
theorem Fresh.mono {B B' : Nat} {v : Value} (h : Fresh B v) (hb : B' ≤ B) : Fresh B' v := fun a n c e => Nat.le_trans hb (h a n c e)
end Go.Proofs.YtoeggiplcaegoaaGreatDoor
/- basew.Of; when a gauge grows wide. -/
namespace Go.Proofs.YtoeggiplcaegoaaGreatDoor
open Go.RowKit Go.ChangeShapes Go.WideShapes
def basewI (br ea : Int) : Int := if br = 1 ∨ br = 2 ∨ br = 3 ∨ br = 4 ∨ br = 5 ∨ br = 10 ∨ br = 11 then 0 else if ea = 1 ∨ ea = 2 then 2 else 1
theorem basew_cases (br ea : Int) : (br = 1 ∧ basewI br ea = 0) ∨ (br = 2 ∧ basewI br ea = 0) ∨ (br = 3 ∧ basewI br ea = 0) ∨ (br = 4 ∧ basewI br ea = 0) ∨ (br = 5 ∧ basewI br ea = 0) ∨ (br = 10 ∧ basewI br ea = 0) ∨ (br = 11 ∧ basewI br ea = 0)
    ∨ ((br == 1) = false ∧ (br == 2) = false ∧ (br == 3) = false ∧ (br == 4) = false ∧ (br == 5) = false ∧ (br == 10) = false ∧ (br == 11) = false ∧ (ea = 1 ∧ basewI br ea = 2 ∨ (ea == 1) = false ∧ ea = 2 ∧ basewI br ea = 2 ∨ (ea == 1) = false ∧ (ea == 2) = false ∧ basewI br ea = 1)) := by
  unfold basewI
  by_cases h1 : br = 1
  · exact .inl ⟨h1, by simp [h1]⟩
  by_cases h2 : br = 2
  · exact .inr (.inl ⟨h2, by simp [h2]⟩)
  by_cases h3 : br = 3
  · exact .inr (.inr (.inl ⟨h3, by simp [h3]⟩))
  by_cases h4 : br = 4
  · exact .inr (.inr (.inr (.inl ⟨h4, by simp [h4]⟩)))
  by_cases h5 : br = 5
  · exact .inr (.inr (.inr (.inr (.inl ⟨h5, by simp [h5]⟩))))
  by_cases h10 : br = 10
  · exact .inr (.inr (.inr (.inr (.inr (.inl ⟨h10, by simp [h10]⟩)))))
  by_cases h11 : br = 11
  · exact .inr (.inr (.inr (.inr (.inr (.inr (.inl ⟨h11, by simp [h11]⟩))))))
  refine .inr (.inr (.inr (.inr (.inr (.inr (.inr ⟨by simpa using h1, by simpa using h2, by simpa using h3, by simpa using h4, by simpa using h5, by simpa using h10, by simpa using h11, ?_⟩))))))
  by_cases e1 : ea = 1
  · exact .inl ⟨e1, by simp [h1, h2, h3, h4, h5, h10, h11, e1]⟩
  by_cases e2 : ea = 2
  · exact .inr (.inl ⟨by simpa using e1, e2, by simp [h1, h2, h3, h4, h5, h10, h11, e2]⟩)
  · exact .inr (.inr ⟨by simpa using e1, by simpa using e2, by simp [h1, h2, h3, h4, h5, h10, h11, e1, e2]⟩)
set_option maxRecDepth 100000 in
theorem bof_any (br : Int) (b : Bool) (cv ea : Int) (w : World) : Calls Tryz.prog 238 #[.agg #[.int .i64 br, .bool b, .int .i64 cv, .int .i64 ea]] w (Gives w (.int .i64 (basewI br ea))) := by
  have hbl : ∀ o, Below w.heap.size w (w.alloc o) := fun o => (Below.refl _ _).alloc (Nat.le_refl _) o
  have HBL := Lib.hid hbl
  clear hbl
  rcases basew_cases br ea with ⟨rfl, hs⟩ | ⟨rfl, hs⟩ | ⟨rfl, hs⟩ | ⟨rfl, hs⟩ | ⟨rfl, hs⟩ | ⟨rfl, hs⟩ | ⟨rfl, hs⟩ | ⟨h1, h2, h3, h4, h5, h6, h7, ⟨rfl, hs⟩ | ⟨h8, rfl, hs⟩ | ⟨h8, h9, hs⟩⟩
  all_goals
    rw [hs]
    clear hs
    go_enter Tryz.func238, Tryz.ntmps238
    go_wp2
    go_ret
    exact ⟨(ret_eq (by first | rfl | (simp <;> omega))), HBL.out _⟩
def widB (told pic : Bool) (r br : Int) (pc : Bool) (ea : Int) : Bool := basewI br ea == 2 || ((r == 65039 && pic) || (told && (pc || br == 6)))
theorem wid_cases (told pic : Bool) (r br : Int) (pc : Bool) (ea : Int) : ((basewI br ea == 2) = true ∧ widB told pic r br pc ea = true) ∨ ((basewI br ea == 2) = false ∧ (r == 65039) = true ∧ pic = true ∧ widB told pic r br pc ea = true)
    ∨ ((basewI br ea == 2) = false ∧ ((r == 65039) = true ∧ pic = false ∨ (r == 65039) = false) ∧ (told = false ∧ widB told pic r br pc ea = false ∨ told = true ∧ pc = true ∧ widB told pic r br pc ea = true ∨ told = true ∧ pc = false ∧ widB told pic r br pc ea = (br == 6))) := by
  unfold widB
  cases h1 : (basewI br ea == 2) <;> cases h2 : (r == 65039) <;> cases pic <;> cases told <;> cases pc <;> simp
end Go.Proofs.YtoeggiplcaegoaaGreatDoor
/- basew.Silent, the reference's. -/
namespace Go.Proofs.YtoeggiplcaegoaaGreatDoor
open Go.RowKit Go.ChangeShapes Go.WideShapes
def silB (r : Int) : Bool := (decide (0 ≤ r) && decide (r ≤ 31)) || (decide (127 ≤ r) && decide (r ≤ 159))
theorem sil_cases (r : Int) : (decide (0 ≤ r) = true ∧ decide (r ≤ 31) = true ∧ silB r = true) ∨ (decide (0 ≤ r) = true ∧ decide (r ≤ 31) = false ∧ decide (127 ≤ r) = true ∧ decide (r ≤ 159) = true ∧ silB r = true)
    ∨ (decide (0 ≤ r) = true ∧ decide (r ≤ 31) = false ∧ decide (127 ≤ r) = true ∧ decide (r ≤ 159) = false ∧ silB r = false) ∨ (decide (0 ≤ r) = true ∧ decide (r ≤ 31) = false ∧ decide (127 ≤ r) = false ∧ silB r = false)
    ∨ (decide (0 ≤ r) = false ∧ decide (127 ≤ r) = false ∧ silB r = false) := by
  unfold silB
  simp only [decide_eq_true_eq, decide_eq_false_iff_not, Bool.or_eq_true, Bool.and_eq_true, Bool.or_eq_false_iff, Bool.and_eq_false_iff]
  omega
set_option maxRecDepth 100000 in
theorem bsil_any (r : Int) (w : World) : Calls Tryz.prog 147 #[.int .i32 r] w (Gives w (.bool (silB r))) := by
  rcases sil_cases r with ⟨h1, h2, hs⟩ | ⟨h1, h2, h3, h4, hs⟩ | ⟨h1, h2, h3, h4, hs⟩ | ⟨h1, h2, h3, hs⟩ | ⟨h1, h2, hs⟩
  all_goals
    have HS := Lib.hid hs
    clear hs
    go_enter Tryz.func147, Tryz.ntmps147
    go_wp2
    go_ret
    exact ⟨ret_eq (by rw [HS.out]; first | rfl | simp), Below.refl _ _⟩
end Go.Proofs.YtoeggiplcaegoaaGreatDoor
/- Borders of a row, by numbers alone: the next one, the one ahead, the one at a place or ahead of it. Of no program. -/
namespace Go.Proofs.YtoeggiplcaegoaaGreatDoor
end Go.Proofs.YtoeggiplcaegoaaGreatDoor
/- Contracts of bound's functions, of the reference's Side. -/
namespace Go.Proofs.YtoeggiplcaegoaaGreatDoor
open Go.RowKit Go.ChangeShapes Go.WideShapes
def sideI (n : Int) : Int := if n < 1 then 1 else if 1024 < n then 1024 else n
theorem sideI_cases (n : Int) : (n < 1 ∧ sideI n = 1) ∨ (1 ≤ n ∧ n ≤ 1024 ∧ sideI n = n) ∨ (1024 < n ∧ sideI n = 1024) := by unfold sideI; omega
theorem sideI_bd (n : Int) : 1 ≤ sideI n ∧ sideI n ≤ 1024 := by unfold sideI; omega
end Go.Proofs.YtoeggiplcaegoaaGreatDoor
/- slices.Clone of scalar values. -/
namespace Go.Proofs.YtoeggiplcaegoaaGreatDoor
open Go.RowKit Go.ChangeShapes Go.WideShapes
theorem heldAlloc {k : IntKind} {w : World} {v : Value} {xs : List Int} (h : Held k w v xs) (o : Obj) : Held k (w.alloc o) v xs := h.below ((Below.refl _ _).alloc (Nat.le_refl _) _)
theorem own_newK (w : World) (t : TypeId) (k : IntKind) (B : Nat) (hB : B ≤ w.heap.size) : (w.alloc (.cells #[] t)).ownsRow B t 1 (.slice (some ⟨w.heap.size, 0, none⟩) 0 0) 0 (([] : List Int).map (Value.int k)) :=
  ⟨rfl, .inr ⟨w.heap.size, 0, #[], rfl, hB, heap_alloc_new w _, Nat.le_refl _, by unfold maxLen; omega, rfl, rfl⟩⟩
theorem Tryz.info_r : (Tryz.prog.info? 21).map (fun i => (i.zero, i.size, i.bytes)) = some (some (.int .i32 0), 1, 4) := by kernel_rfl
/-- What hands back a slice of its own that holds these. -/
def Cloned (t : TypeId) (k : IntKind) (w : World) (xs : List Int) (e : Ending) (w' : World) : Prop := ∃ v', e = .returned v' ∧ w'.ownsRow w.heap.size t 1 v' xs.length (xs.map (Value.int k)) ∧ Below w.heap.size w w'
set_option maxRecDepth 100000 in
theorem rclone_any (v : Value) (xs : List Int) (w : World) (hv : Held .i32 w v xs) (hl : xs.length ≤ 1000000000) : Calls Tryz.prog 138 #[v] w (Cloned 21 .i32 w xs) := by
  obtain ⟨ao, cap, rfl, hn, _⟩ := id hv
  cases ao with
  | none =>
    obtain ⟨rfl, rfl⟩ := hn rfl
    clear hv hn
    have q := fun w => run_eql_slice_nil (P := Tryz.prog) w 27 21 none 0 0 Tryz.underlying27
    go_enter Tryz.func138, Tryz.ntmps138
    go_wp2
    go_ret
    exact ⟨_, rfl, World.ownsRow_nil _ _ _ _, Below.refl _ _⟩
  | some a =>
    have hv' := heldAlloc hv (.cells #[] 21)
    clear hv hn
    have q := fun w => run_eql_slice_nil (P := Tryz.prog) w 27 21 (some a) xs.length cap Tryz.underlying27
    go_enter Tryz.func138, Tryz.ntmps138
    go_wp2_with (at_builtin; refine wpList_append_held (w.alloc (.cells #[] 21)) rfl (.tmp 5) (.tmp 6) 27 rfl w.heap.size 21 (.int .i32 0) 4 Tryz.underlying27 Tryz.info_r rfl .i32 _ 0 [] rfl (own_newK w 21 .i32 _ (Nat.le_refl _)) _ xs rfl hv' (by omega) (by omega) (by simp) ?_)
    intro v5 w5 ho5 hb5
    have ho6 : w5.ownsRow w.heap.size 21 1 v5 xs.length (xs.map (Value.int .i32)) := by simpa using ho5
    clear ho5
    go_wp2
    go_ret
    exact ⟨_, rfl, ho6, ((Below.refl _ _).alloc (Nat.le_refl _) _).trans hb5⟩
end Go.Proofs.YtoeggiplcaegoaaGreatDoor
/- A law's frame, of whatever program: from a walk that answers true and turns nothing that was there to the row's statement. -/
namespace Go.Proofs.YtoeggiplcaegoaaGreatDoor
open Go.ChangeShapes Go.WideShapes Go.ChangeAt Go.RowKit

/-- What answers true, and turns nothing that was there. -/
def Yes (w : World) (e : Ending) (w' : World) : Prop := e = .returned (.bool true) ∧ Below w.heap.size w w'

section
variable {H : Type} {enc : TypeId × Value → H} {P : Program}
theorem trodAll_below {W W' : World} (hl : laidOutB P = true) (hb : Below W.heap.size W W') : ∀ (ts : List TypeId) (vs : List Value) (ds : List (DataW H)) (ps : List MemPlace),
    (∀ t ∈ ts, P.readableRec t = true ∧ t < P.types.size) → (∀ x ∈ ps, x.block < W.heap.size) → DataW.TrodAll enc P W 0 (fun _ => true) true ts vs ds ps → DataW.TrodAll enc P W' 0 (fun b => decide (b < W.heap.size)) true ts vs ds ps := by
  intro ts
  induction ts with
  | nil =>
    intro vs ds ps _ _ h
    obtain ⟨rfl, rfl, rfl⟩ := trodAll_nil h
    exact trodAll_mk0
  | cons t ts ih =>
    intro vs ds ps hr hlt h
    obtain ⟨v, vs', d, ds', p, q, rfl, rfl, rfl, h0, h1⟩ := trodAll_cons h
    exact trodAll_cons_mk (Below.trod hl (hr t (by simp)).1 (hr t (by simp)).2 h0 hb (fun x hx => hlt x (by simp [hx])))
      (ih vs' ds' q (fun u hu => hr u (by simp [hu])) (fun x hx => hlt x (by simp [hx])) h1)
theorem trodAll_length {w : World} {b : Nat} {sp : Nat → Bool} {hd : Bool} : ∀ (ts : List TypeId) (vs : List Value) (ds : List (DataW H)) (ps : List MemPlace), DataW.TrodAll enc P w b sp hd ts vs ds ps → ds.length = ts.length := by
  intro ts
  induction ts with
  | nil =>
    intro vs ds ps h
    obtain ⟨rfl, rfl, rfl⟩ := trodAll_nil h
    rfl
  | cons t ts ih =>
    intro vs ds ps h
    obtain ⟨v, vs', d, ds', p, q, rfl, rfl, rfl, _, h1⟩ := trodAll_cons h
    simp [ih vs' ds' q h1]
end

theorem law_frame {H : Type} {enc : TypeId × Value → H} {C : Checked} {os : Os} {f : FuncId} {fn : Func} {s : ChangeSpec} {laid : List (String × DataW Unit)} {tb : TypeId}
    (own : ownKnob C.prog.godebug = none) (started : os.Started) (noInit : C.prog.inits.idxOf? f = none) (hfn : C.prog.funcs[f]? = some fn)
    (hl : laidOutB C.prog = true) (hres : fn.resultTypes = #[tb]) (hbool : C.prog.underlying tb = some .bool) (hvars : s.vars = [])
    (hread : ∀ t ∈ fn.params.toList, C.prog.readableRec t = true ∧ t < C.prog.types.size)
    (hspec : ∀ ds : List (DataW H), ds.length = fn.params.size → s.fn H ds = { results := [.lit (.bool true)], args := ds })
    (witness : ∃ (w : World) (tape : Tape) (i : Input), w.os = os ∧ (w.forCall tape i).Shaped C.prog ∧ i.vars = [] ∧ Input.okWide C.prog (w.forCall tape i) .any w.heap.size f i ∧
      ((s.pre enc C.prog fn [] false (w.forCall tape i).memory i.args ∧ laidMetH C.prog laid (w.forCall tape i).memory) ∧ sizedMet enc C.prog fn (OpenSpec.ofChange s) false (w.forCall tape i).memory i.args) ∧ ({} : Assume).holds C.prog (lone (Frame.enter C.prog f i.args .normal) [] (w.forCall tape i)))
    (walk : ∀ (W : World) (base : Nat) (args : Array Value) (ds : List (DataW H)) (before : List MemPlace),
      (∀ (j : Nat) t v, fn.params[j]? = some t → args[j]? = some v → Value.okWide C.prog W .any base t v) →
      DataW.TrodAll enc C.prog W 0 (fun _ => true) true fn.params.toList args.toList ds before →
      (DataW.weightsEach C.prog (fn.params.toList ++ s.plain.varTypes C.prog) (ds ++ [])).all (· ≤ reachBytes) = true → laidMetH C.prog laid W → Calls C.prog f args W (Yes W)) :
    ReturnsInHanded {} C os f .any (fun w args => (s.pre enc C.prog fn [] false w args ∧ laidMetH C.prog laid w) ∧ sizedMet enc C.prog fn (OpenSpec.ofChange s) false w args) (s.post enc C.prog fn false true false false) := by
  refine returnsInHanded_of_change_and (C := C) (X := fun w _ => laidMetH C.prog laid w) (fun _ _ _ hh h => h.of_heap hh) own started noInit hfn witness ?_
  intro W base args ds gs before hval hW _ hsz hL _
  have hW' := hW
  obtain ⟨p, q, hA, hV, rfl, hfz, hnd⟩ := hW
  rw [hvars] at hV
  obtain ⟨rfl, rfl⟩ := trodVars_none hV
  refine (walk W base args ds p hval hA hsz hL).mono fun e W' he => ?_
  obtain ⟨rfl, hb⟩ := he
  have hlt : ∀ x ∈ p, x.block < W.heap.size := fun x hx => hW'.lt x (by simpa using hx)
  have e1 : s.fn H (ds ++ []) = { results := [.lit (.bool true)], args := ds } := by
    rw [List.append_nil]
    exact hspec ds (by simpa using trodAll_length _ _ _ _ hA)
  refine ⟨_, rfl, ds, [], p ++ [], [], p, [], hW', ?_, ?_, ?_, hb.frame _, fun h => by cases h⟩
  · rw [e1, hres]
    exact trodAll_mk1 (shut_bool hbool true)
  · rw [e1]
    exact trodAll_below hl hb _ _ _ _ hread hlt hA
  · rw [e1, hvars]
    rfl
end Go.Proofs.YtoeggiplcaegoaaGreatDoor
/- Clusters of a row, by where they begin and end: numbers alone. -/
namespace Go.Proofs.YtoeggiplcaegoaaGreatDoor
open Go.RowKit Go.ChangeShapes Go.WideShapes
/-- Where the last one begins, k numbers having come; the spans that are over then. -/
def lastS (j : Nat → Bool) : Nat → Nat
  | 0 => 0
  | k + 1 => if j k = true ∨ k = 0 then lastS j k else k
def doneS (j : Nat → Bool) : Nat → List (Nat × Nat)
  | 0 => []
  | k + 1 => if j k = true ∨ k = 0 then doneS j k else doneS j k ++ [(lastS j k, k)]
def spansB (j : Nat → Bool) (n : Nat) : List (Nat × Nat) := if n = 0 then [] else doneS j n ++ [(lastS j n, n)]
theorem lastS_succ (j : Nat → Bool) (k : Nat) : lastS j (k + 1) = if j k = true ∨ k = 0 then lastS j k else k := rfl
theorem doneS_succ (j : Nat → Bool) (k : Nat) : doneS j (k + 1) = if j k = true ∨ k = 0 then doneS j k else doneS j k ++ [(lastS j k, k)] := rfl
theorem lastS_lt (j : Nat → Bool) : ∀ k, 0 < k → lastS j k < k
  | 0, h => absurd h (Nat.lt_irrefl _)
  | k + 1, _ => by
    rw [lastS_succ]
    split
    · rcases Nat.eq_zero_or_pos k with e | e
      · subst e; exact Nat.zero_lt_one
      · have := lastS_lt j k e; omega
    · omega
theorem lastS_le (j : Nat → Bool) (k : Nat) : lastS j k ≤ k := by
  rcases Nat.eq_zero_or_pos k with e | e
  · subst e; exact Nat.le_refl _
  · exact Nat.le_of_lt (lastS_lt j k e)
/-- All that come: none is empty, each begins where the one ahead ends. -/
theorem doneS_ok (j : Nat → Bool) : ∀ k p, p ∈ doneS j k → p.1 < p.2 ∧ p.2 < k
  | 0, p, h => by simp [doneS] at h
  | k + 1, p, h => by
    rw [doneS_succ] at h
    split at h
    · have := doneS_ok j k p h; omega
    · rename_i hk
      rcases List.mem_append.1 h with h | h
      · have := doneS_ok j k p h; omega
      · simp at h
        subst h
        have : k ≠ 0 := fun e => hk (.inr e)
        have := lastS_lt j k (by omega)
        exact ⟨this, by simp⟩
/-- The part of a list from one place to another. -/
def sliceL {α : Type} (T : List α) (p : Nat × Nat) : List α := (T.drop p.1).take (p.2 - p.1)
theorem sliceL_len {α : Type} (T : List α) (p : Nat × Nat) (h1 : p.1 ≤ p.2) (h2 : p.2 ≤ T.length) : (sliceL T p).length = p.2 - p.1 := by unfold sliceL; rw [List.length_take, List.length_drop]; omega
theorem doneS_congr (j j' : Nat → Bool) : ∀ k, (∀ i, i < k → j i = j' i) → doneS j k = doneS j' k ∧ lastS j k = lastS j' k
  | 0, _ => ⟨rfl, rfl⟩
  | k + 1, h => by
    obtain ⟨h1, h2⟩ := doneS_congr j j' k fun i hi => h i (by omega)
    rw [lastS_succ, doneS_succ, lastS_succ, doneS_succ, h1, h2, h k (by omega)]
    exact ⟨rfl, rfl⟩
end Go.Proofs.YtoeggiplcaegoaaGreatDoor
/- Regions that draw their order, whose operations but the last ones read, or call what makes memory and turns nothing: one walk of the order of the text serves all orders. Of no program. -/
namespace Go.Proofs.YtoeggiplcaegoaaGreatDoor
open Go Go.RowKit

/-- The first n of a region's operations wait for, and are guarded by, operations ahead of them. -/
def lowB (l : List Oper) (n : Nat) : Bool :=
  (List.range n).all fun i => match l[i]? with
    | some o => (o.after.all fun e => !Region.binds .any e || decide (e.on < i)) && (match o.guard with
      | none => true
      | some (j, _) => decide (j < n))
    | none => false
theorem low_at {l : List Oper} {n i : Nat} {o : Oper} (h : lowB l n = true) (hi : i < n) (ho : l[i]? = some o) :
    (∀ e ∈ o.after, Region.binds .any e = true → e.on < i) ∧ ∀ j b, o.guard = some (j, b) → j < n := by
  have h1 := List.all_eq_true.1 h i (List.mem_range.2 hi)
  rw [ho] at h1
  simp only [Bool.and_eq_true] at h1
  refine ⟨fun e he hb => ?_, fun j b hg => ?_⟩
  · have := Array.all_eq_true'.1 h1.1 e he
    simpa [hb] using this
  · have := h1.2
    rw [hg] at this
    simpa using this
theorem take_at {l : List Oper} {n i : Nat} (hi : i < n) : (l.take n)[i]? = l[i]? := by
  rw [List.getElem?_take, if_pos hi]
theorem wanted_take {l : List Oper} {n i : Nat} {o : Oper} (h : lowB l n = true) (hi : i < n) (ho : l[i]? = some o) (tmps : Array Value) :
    Region.wanted o (yielded (l.take n).toArray tmps) = Region.wanted o (yielded l.toArray tmps) := by
  unfold Region.wanted
  cases hg : o.guard with
  | none => rfl
  | some jb =>
    obtain ⟨j, b⟩ := jb
    have hj := (low_at h hi ho).2 j b hg
    have e : yielded (l.take n).toArray tmps j = yielded l.toArray tmps j := by
      unfold yielded
      simp only [List.getElem?_toArray]
      rw [take_at hj]
    simp only [e]
def unlisted (n : Nat) (listed : Array Bool) : Nat := ((List.range n).filter fun i => !listed.getD i true).length
theorem unlisted_zero {n : Nat} {listed : Array Bool} (h : unlisted n listed = 0) : ∀ i, i < n → listed.getD i true = true := by
  intro i hi
  cases hl : listed.getD i true with
  | true => rfl
  | false =>
    have : i ∈ (List.range n).filter fun i => !listed.getD i true := List.mem_filter.2 ⟨List.mem_range.2 hi, by simp [hl]⟩
    rw [List.length_eq_zero_iff.1 h] at this
    cases this
theorem unlisted_pos {n : Nat} {listed : Array Bool} (h : 0 < unlisted n listed) : ∃ i, i < n ∧ listed.getD i true = false ∧ ∀ j, j < i → listed.getD j true = true := by
  obtain ⟨i, hi⟩ := List.exists_mem_of_length_pos h
  obtain ⟨h1, h2⟩ := List.mem_filter.1 hi
  have h3 : i < n ∧ listed.getD i true = false := ⟨List.mem_range.1 h1, by simpa using h2⟩
  clear hi h1 h2 h
  induction i using Nat.strongRecOn with
  | _ i ih =>
    by_cases hex : ∃ j, j < i ∧ listed.getD j true = false
    · obtain ⟨j, hj, hf⟩ := hex
      exact ih j hj ⟨by omega, hf⟩
    · refine ⟨i, h3.1, h3.2, fun j hj => ?_⟩
      cases hl : listed.getD j true with
      | true => rfl
      | false => exact absurd ⟨j, hj, hl⟩ hex
theorem filter_one_less {α : Type} (p q : α → Bool) (x : α) : ∀ (l : List α), l.Nodup → x ∈ l → p x = true → q x = false → (∀ y, y ≠ x → q y = p y) → (l.filter q).length + 1 = (l.filter p).length
  | [], _, hx, _, _, _ => by cases hx
  | y :: l, hnd, hx, hp, hq, hs => by
    obtain ⟨hy, hnd'⟩ := List.nodup_cons.1 hnd
    by_cases he : y = x
    · subst he
      have : l.filter q = l.filter p := List.filter_congr fun z hz => hs z (fun e => hy (e ▸ hz))
      rw [List.filter_cons_of_neg (by simp [hq]), List.filter_cons_of_pos hp, this]
      simp
    · have hx' : x ∈ l := by
        rcases List.mem_cons.1 hx with h | h
        · exact absurd h.symm he
        · exact h
      have := filter_one_less p q x l hnd' hx' hp hq hs
      rw [List.filter_cons, List.filter_cons, hs y he]
      split
      · rw [List.length_cons, List.length_cons]; omega
      · exact this
theorem unlisted_set {n i : Nat} {listed : Array Bool} (hsz : listed.size = n) (hi : i < n) (hu : listed.getD i true = false) : unlisted n (listed.setIfInBounds i true) + 1 = unlisted n listed := by
  unfold unlisted
  refine filter_one_less _ _ i _ List.nodup_range (List.mem_range.2 hi) (by simp [hu]) ?_ ?_
  · have : (listed.setIfInBounds i true).getD i true = true := by
      rw [Array.getD_eq_getD_getElem?, Array.getElem?_setIfInBounds_self_of_lt (by omega)]
      rfl
    rw [this]; rfl
  · intro y hy
    rw [getD_set_ne true (by omega)]
theorem getD_any {listed : Array Bool} {i : Nat} (h : i < listed.size) : listed.getD i false = listed.getD i true := by
  rw [Array.getD_eq_getD_getElem?, Array.getD_eq_getD_getElem?, Array.getElem?_eq_getElem h]
  rfl
section
variable {P : Program} {l : List Oper} {n : Nat} {C : World → Prop}
theorem ready_take (hlow : lowB l n = true) {listed₀ listed : Array Bool} (hsame : ∀ i, i < n → listed.getD i true = listed₀.getD i true) (hs0 : listed₀.size = n) (hs : listed.size = l.length) (hn : n < l.length) {i : Nat} (hi : i < n)
    (hr : i ∈ Region.ready .any l.toArray listed) : i ∈ Region.ready .any (l.take n).toArray listed₀ := by
  obtain ⟨h1, o, ho, hall⟩ := mem_ready.1 hr
  have ho' : l[i]? = some o := by simpa using ho
  refine mem_ready.2 ⟨(hsame i hi).symm.trans h1, o, by simpa [take_at hi] using ho', fun e he hb => ?_⟩
  have hlt := (low_at hlow hi ho').1 e he hb
  have h2 := hall e he hb
  have h3 := hsame e.on (by omega)
  rw [getD_any (by omega)] at h2 ⊢
  rw [← h3]; exact h2
theorem some_ready (hlow : lowB l n = true) {listed : Array Bool} (hs : listed.size = l.length) (hn : n < l.length) {i : Nat} (hi : i < n) (hu : listed.getD i true = false) (hb : ∀ j, j < i → listed.getD j true = true) :
    i ∈ Region.ready .any l.toArray listed := by
  have hl : l[i]? = some l[i] := List.getElem?_eq_getElem (by omega)
  refine mem_ready.2 ⟨hu, l[i], by simp, fun e he hbi => ?_⟩
  have hlt := (low_at hlow hi hl).1 e he hbi
  have := hb e.on hlt
  rw [Array.getD_eq_getD_getElem?, Array.getElem?_eq_getElem (by omega)] at this ⊢
  exact this
theorem qOp_take (hlow : lowB l n = true) {i : Nat} (hi : i < n) {K : Act → Prop} {a : Act} (h : qOp P (l.take n).toArray C i K a) : qOp P l.toArray C i K a := by
  unfold qOp at *
  simp only [List.getElem?_toArray] at *
  rw [take_at hi] at h
  cases ho : l[i]? with
  | none => rw [ho] at h; exact h
  | some o =>
    rw [ho] at h
    simp only at h ⊢
    rw [wanted_take hlow hi ho] at h
    exact h
def headDone (l : List Oper) (n : Nat) : Array Bool := ((List.range l.length).map fun i => decide (i < n)).toArray
theorem headDone_of {listed : Array Bool} (hs : listed.size = l.length) (hd : ∀ i, i < n → listed.getD i true = true) (inv : HeadInv .any l.toArray n listed) : listed = headDone l n := by
  apply Array.ext
  · simp [headDone, hs]
  · intro i h1 h2
    have h3 : (headDone l n)[i] = decide (i < n) := by simp [headDone]
    rw [h3]
    by_cases hi : i < n
    · have := hd i hi
      rw [Array.getD_eq_getD_getElem?, Array.getElem?_eq_getElem h1] at this
      rw [decide_eq_true hi]; exact this
    · have := inv.tail i (by omega) (by simp; omega)
      rw [Array.getD_eq_getD_getElem?, Array.getElem?_eq_getElem h1] at this
      rw [decide_eq_false hi]; exact this
theorem any_of_head {g : Nat} {Q' : Exit → Act → World → Prop} {T : Act → Prop} (hn : n < l.length) (hlow : lowB l n = true) (hs : Region.sinkB .any l.toArray n = true) (hc : Region.chainB .any l.toArray n = true)
    (hT : ∀ a w, C w → T a → wpAny P .any l.toArray Q' g (headDone l n) a w) :
    ∀ (f : Nat) (listed₀ listed : Array Bool) (a : Act) (w : World), C w → HeadInv .any l.toArray n listed → listed₀.size = n → (∀ i, i < n → listed.getD i true = listed₀.getD i true) → unlisted n listed₀ = f →
      wpAnyQ P .any (l.take n).toArray C T f listed₀ a → wpAny P .any l.toArray Q' (f + g) listed a w := by
  intro f
  induction f with
  | zero =>
    intro listed₀ listed a w hw inv hs0 hsame hu h
    have hsz : listed.size = l.length := by simpa using inv.size
    rw [Nat.zero_add, headDone_of hsz (fun i hi => (hsame i hi).trans (unlisted_zero hu i hi)) inv]
    exact hT a w hw h.2
  | succ f ih =>
    intro listed₀ listed a w hw inv hs0 hsame hu h
    have hsz : listed.size = l.length := by simpa using inv.size
    obtain ⟨m, hm, hmu, hmb⟩ := unlisted_pos (n := n) (listed := listed₀) (by omega)
    have hmr := some_ready hlow hsz hn hm ((hsame m hm).trans hmu) (fun j hj => (hsame j (by omega)).trans (hmb j hj))
    rw [show f + 1 + g = (f + g) + 1 by omega]
    refine ⟨(fun h0 => by rw [h0] at hmr; cases hmr), fun i hi => ?_⟩
    have hin : i < n := by
      rcases Nat.lt_or_ge i n with h' | h'
      · exact h'
      · exact absurd hi (tail_waits hs hc (by simpa using hn) inv _ m rfl hm ((hsame m hm).trans hmu) i h')
    have hi0 := ready_take hlow hsame hs0 hsz hn hin hi
    have hq := qOp_take hlow hin (h.2 i hi0)
    refine wpOp_of_qOp hw (fun a' w' hw' hK => ih _ _ a' w' hw' (inv.set hi hin) (by simpa using hs0) (fun j hj => ?_) ?_ hK) hq
    · by_cases hji : i = j
      · subst hji
        rw [Array.getD_eq_getD_getElem?, Array.getD_eq_getD_getElem?, Array.getElem?_setIfInBounds_self_of_lt (by omega), Array.getElem?_setIfInBounds_self_of_lt (by omega)]
      · rw [getD_set_ne true hji, getD_set_ne true hji]; exact hsame j hj
    · have := unlisted_set hs0 hin ((hsame i hin).symm.trans (mem_ready.1 hi).1)
      omega
/-- A REGION WHOSE FIRST n OPERATIONS ARE QUIET IN A CLASS OF WORLDS, AND WHOSE LAST ONES COME IN ONE ORDER, BEHIND THEM. -/
theorem wp_region_tail {id : Nat} {Q : Exit → Act → World → Prop} {a : Act} {w : World} (n : Nat) (hm : P.follows .mixedOrders = true) (hn : n < l.length) (hB : Region.lexB .any (l.take n).toArray = true) (hlow : lowB l n = true)
    (hs : Region.sinkB .any l.toArray n = true) (hc : Region.chainB .any l.toArray n = true) (hseq : Region.seqB .any l.toArray (l.length - n) n (headDone l n) = true) (hC : C { w with drawn := w.drawn + 1 })
    (h : wpQuiet P (l.take n).toArray C (fun a' => ∀ w', C w' → wpList P l.toArray Q (l.drop n) a' w') (l.take n) a) : (Code.region id l.toArray true).wp P Q a w := by
  simp only [Region.lexB, Bool.and_eq_true] at hB
  have htl : (l.take n).length = n := by simp; omega
  have hdl : (l.drop n).length = l.length - n := by simp
  have H := wpAnyQ_lex (C := C) (md := .any) hB.1 (l.take n) 0 (Array.replicate (l.take n).toArray.size false) a (by simp) (by simpa using hB.2) h
  have inv0 : HeadInv .any l.toArray n (Array.replicate l.toArray.size false) :=
    ⟨by simp, fun j oj _ hl => (by rw [getD_replicate_false] at hl; cases hl), fun t _ ht => getD_in (by simpa using ht) (getD_replicate_false _ _)⟩
  refine wp_region_any hm ?_
  have := any_of_head (C := C) (Q' := Q) (g := l.length - n) hn hlow hs hc (fun a' w' hw' hT => by
    have := wpAny_of_seq (md := .any) (Q' := Q) (l.drop n) n (headDone l n) a' w' (fun j => by simp [List.getElem?_drop]) (by rw [hdl]; exact hseq) (hT w' hw')
    rwa [hdl] at this) (l.take n).length (Array.replicate (l.take n).toArray.size false) (Array.replicate l.toArray.size false) a _ hC inv0 (by simp; omega) (fun i hi => by
      rw [getD_in (by simpa using (by omega : i < l.length)) (getD_replicate_false _ _), getD_in (by simp; omega) (getD_replicate_false _ _)]) (by
      unfold unlisted
      rw [List.filter_eq_self.2 (fun i hi => by
        have := List.mem_range.1 hi
        rw [getD_in (by simp; omega) (getD_replicate_false _ _)]; rfl), List.length_range]
      omega) H
  rw [htl, show n + (l.length - n) = l.toArray.size by simp; omega] at this
  exact this
end
/-- New memory, and nothing else. -/
structure Growth (w : World) where
  tz9 : World
  ok : Below w.heap.size w tz9
instance (w : World) : Nonempty (Growth w) := ⟨⟨w, Below.refl _ _⟩⟩
/-- A world that is w but for new memory. -/
def ext (w : World) (u : Growth w) : World := u.tz9
theorem ext_cell {w : World} {a : Addr} {v : Value} (h : w.cell? a = some v) (u : Growth w) : (ext w u).cell? a = some v :=
  (u.ok.cell (World.block_lt_of_cell? w a h)).trans h
theorem ext_free {w : World} {a : Addr} {b : Bool} (hl : a.block < w.heap.size) (h : w.frozen? a = b) (u : Growth w) : (ext w u).frozen? a = b :=
  (u.ok.frozen (p := a) hl).trans h
theorem callx {P : Program} {f : FuncId} {args : Array Value} {w : World} {u : Growth w} {v : Value}
    (h : Calls P f args (ext w u) fun e w' => e = .returned v ∧ Below (ext w u).heap.size (ext w u) w') : Calls P f args (ext w u) fun e w'' => e = .returned v ∧ ∃ u', w'' = ext w u' :=
  h.mono fun _ w' ⟨he, hb⟩ => ⟨he, ⟨w', u.ok.trans (hb.mono u.ok.size)⟩, rfl⟩
theorem callx_same {P : Program} {f : FuncId} {args : Array Value} {w : World} {u : Growth w} {v : Value}
    (h : Calls P f args (ext w u) fun e w' => e = .returned v ∧ ext w u = w') : Calls P f args (ext w u) fun e w'' => e = .returned v ∧ ∃ u', w'' = ext w u' :=
  h.mono fun _ w' ⟨he, hb⟩ => ⟨he, u, hb.symm⟩
def drew1 (w : World) : Growth w := ⟨{ w with drawn := w.drawn + 1 }, ⟨rfl, rfl, rfl, Nat.le_refl _, fun _ _ => rfl⟩⟩
theorem wp_region_ext {P : Program} {id : Nat} {Q : Exit → Act → World → Prop} {a : Act} {w : World} {l : List Oper} (hm : P.follows .mixedOrders = true) (hB : Region.lexB .any l.toArray = true)
    (h : wpQuiet P l.toArray (fun w' => ∃ u, w' = ext w u) (fun a' => ∀ w', (∃ u, w' = ext w u) → Q .normal a' w') l a) : (Code.region id l.toArray true).wp P Q a w :=
  wp_region_quiet (C := fun w' => ∃ u, w' = ext w u) hm hB ⟨drew1 w, rfl⟩ (by simpa using h)
theorem wp_region_ext_tail {P : Program} {id : Nat} {Q : Exit → Act → World → Prop} {a : Act} {w : World} {l : List Oper} (n : Nat) (hm : P.follows .mixedOrders = true) (hn : n < l.length) (hB : Region.lexB .any (l.take n).toArray = true) (hlow : lowB l n = true)
    (hs : Region.sinkB .any l.toArray n = true) (hc : Region.chainB .any l.toArray n = true) (hseq : Region.seqB .any l.toArray (l.length - n) n (headDone l n) = true)
    (h : wpQuiet P (l.take n).toArray (fun w' => ∃ u, w' = ext w u) (fun a' => ∀ w', (∃ u, w' = ext w u) → wpList P l.toArray Q (l.drop n) a' w') (l.take n) a) : (Code.region id l.toArray true).wp P Q a w :=
  wp_region_tail n hm hn hB hlow hs hc hseq ⟨drew1 w, rfl⟩ h
theorem ext_below {w W : World} (h : Below w.heap.size w W) (u : Growth W) : Below w.heap.size w (ext W u) := h.trans (u.ok.mono h.size)
end Go.Proofs.YtoeggiplcaegoaaGreatDoor
/- Long composite literals: a region of many 'build's by one reckoning, no matter how many. Of no program. -/
namespace Go.Proofs.YtoeggiplcaegoaaGreatDoor
open Go Go.RowKit
/-- What the operations, all of them 'build's without a guard, leave. -/
def builds (P : Program) : List Oper → Act → Option Act
  | [], a => some a
  | o :: l, a => match o.guard, o.op with
    | none, .build t parts => match P.built t (parts.map fun (i, x) => (i, a.eval x)).toList with
      | some cells => builds P l (a.put o.dst (.agg cells))
      | none => none
    | _, _ => none
section
variable {P : Program} {ops : Array Oper} {Q : Exit → Act → World → Prop} {w : World}
theorem wpList_builds_append : ∀ (l rest : List Oper) (a a' : Act), builds P l a = some a' → wpList P ops Q rest a' w → wpList P ops Q (l ++ rest) a w
  | [], rest, a, a', hb, h => by
    simp only [builds, Option.some.injEq] at hb
    subst hb
    exact h
  | o :: l, rest, a, a', hb, h => by
    unfold builds at hb
    split at hb
    · rename_i t parts hg ho
      split at hb
      · rename_i cells hc
        refine wpList_build hg t parts ho (by rw [hc]; rfl) ?_
        rw [hc]
        exact wpList_builds_append l rest _ a' hb h
      · cases hb
    · cases hb
theorem wpList_builds {L : List Oper} {a : Act} (n : Nat) (hb : (builds P (L.take n) a).isSome = true) (h : wpList P ops Q (L.drop n) ((builds P (L.take n) a).getD a) w) : wpList P ops Q L a w := by
  obtain ⟨a', ha⟩ := Option.isSome_iff_exists.1 hb
  rw [ha] at h
  have := wpList_builds_append (ops := ops) (Q := Q) (L.take n) (L.drop n) a a' ha h
  rwa [List.take_append_drop] at this
theorem wpList_alloc_zero {o : Oper} {rest : List Oper} {a : Act} (hg : o.guard = none) (t : TypeId) (ho : o.op = .alloc t) (z : Value) (n : Nat) (hi : (P.info? t).map (fun i => (i.zero, i.size)) = some (some z, n))
    (h : wpList P ops Q rest (a.put o.dst (.pointer (some ⟨w.heap.size, 0, none⟩))) (w.alloc (.cells z.cells t))) : wpList P ops Q (o :: rest) a w := by
  refine wpList_plain hg fun K hK => ?_
  have hz := (zero_of_info (P := P) hi).1 w
  unfold Oper.wp execOp
  simp only [ho, Instr.alloc, newVar, newRow, newObj, Sem.run_bind, hz, Result.andThen_ok]
  exact hK _ _ h
end
end Go.Proofs.YtoeggiplcaegoaaGreatDoor
/- Regions that draw their order, some of whose operations write: one walk of the order of the text serves all orders, where each operation has one value, and what it does to the world is told by which operations are done. Of no program. -/
namespace Go.Proofs.YtoeggiplcaegoaaGreatDoor
open Go.RowKit Go.ChangeShapes Go.WideShapes
namespace Mix
/-- What an operation that was carried out has left: its value, and a world of the class. -/
def upon (P : Program) (C : World → Prop) (v : Value) : Result Next → Prop
  | .ok (.value u) w' => C w' ∧ u = v
  | .ok .skip w' => C w' ∧ v = undef
  | .ok (.enter f args) w' => Calls P f args w' (fun e w'' => e = .returned v ∧ C w'')
  | _ => False
section
variable (P : Program) (ops : Array Oper) (CL : Array Bool → World → Prop)
/-- Operation i has the value v, whichever of the others are done that it need not wait for. -/
def Gives (i : Nat) (o : Oper) (v : Value) (a : Act) : Prop :=
  (Region.wanted o (yielded ops a.tmps) = true ∧ ∀ L w, L.size = ops.size → i ∈ Region.ready .any ops L → CL L w → upon P (CL (L.setIfInBounds i true)) v ((execOp a.eval o).run P w)) ∨
  (Region.wanted o (yielded ops a.tmps) = false ∧ v = undef ∧ ∀ L w, L.size = ops.size → i ∈ Region.ready .any ops L → CL L w → CL (L.setIfInBounds i true) w)
def At (i : Nat) (K : Act → Prop) (a : Act) : Prop := ∃ o v, ops[i]? = some o ∧ Gives P ops CL i o v a ∧ K (a.put o.dst v)
def Any (Q : Act → Prop) : Nat → Array Bool → Act → Prop
  | 0, L, a => Region.ready .any ops L = [] ∧ Q a
  | f + 1, L, a => (Region.ready .any ops L = [] → Q a) ∧ ∀ i ∈ Region.ready .any ops L, At P ops CL i (Any Q f (L.setIfInBounds i true)) a
def Walk (Q : Act → Prop) : List Oper → Nat → Act → Prop
  | [], _, a => Q a
  | o :: rest, k, a => ∃ v, Gives P ops CL k o v a ∧ Walk Q rest (k + 1) (a.put o.dst v)
end
section
variable {P : Program} {ops : Array Oper} {CL : Array Bool → World → Prop}
theorem At.mono {i : Nat} {K K' : Act → Prop} {a : Act} (h : ∀ a, K a → K' a) (hh : At P ops CL i K a) : At P ops CL i K' a := by
  obtain ⟨o, v, ho, hy, hk⟩ := hh
  exact ⟨o, v, ho, hy, h _ hk⟩
theorem Gives.same {i : Nat} {o : Oper} {v : Value} {a a' : Act} (h : Gives P ops CL i o v a) (he : execOp a'.eval o = execOp a.eval o) (hw : Region.wanted o (yielded ops a'.tmps) = Region.wanted o (yielded ops a.tmps)) : Gives P ops CL i o v a' := by
  unfold Gives at *
  rw [he, hw]
  exact h
theorem wpOp_of {i : Nat} {L : Array Bool} {a : Act} {w : World} {K : Act → Prop} {K' : Act → World → Prop} {Q' : Exit → Act → World → Prop} (hL : L.size = ops.size) (hr : i ∈ Region.ready .any ops L) (hC : CL L w)
    (h : ∀ a w', CL (L.setIfInBounds i true) w' → K a → K' a w') (hh : At P ops CL i K a) : wpOp P ops Q' i K' a w := by
  obtain ⟨o, v, ho, hy, hk⟩ := hh
  unfold wpOp
  simp only [ho]
  rcases hy with ⟨hw, hv⟩ | ⟨hw, rfl, hv⟩
  · rw [if_pos hw]
    refine .inl ?_
    have h3 := hv L w hL hr hC
    unfold Oper.wp
    generalize (execOp a.eval o).run P w = r at *
    cases r with
    | halt x w' => exact h3.elim
    | ok n w' =>
      cases n <;> simp only [upon] at h3 <;> simp only [Oper.upon]
      case value u =>
        obtain ⟨h4, rfl⟩ := h3
        exact h _ _ h4 hk
      case skip =>
        obtain ⟨h4, rfl⟩ := h3
        exact h _ _ h4 hk
      case enter f args =>
        exact h3.mono fun e w'' ⟨he, hw''⟩ => by subst he; exact h _ _ hw'' hk
  · rw [if_neg (by rw [hw]; exact Bool.false_ne_true)]
    exact h _ _ (hv L w hL hr hC) hk
theorem any_sound {Q : Act → Prop} {Q' : Exit → Act → World → Prop} (hQ : ∀ L a w, L.size = ops.size → Region.ready .any ops L = [] → CL L w → Q a → Q' .normal a w) :
    ∀ (f : Nat) (L : Array Bool) (a : Act) (w : World), L.size = ops.size → CL L w → Any P ops CL Q f L a → wpAny P .any ops Q' f L a w := by
  intro f
  induction f with
  | zero => exact fun L a w hs hC h => ⟨h.1, hQ L a w hs h.1 hC h.2⟩
  | succ f ih =>
    exact fun L a w hs hC h => ⟨fun h0 => hQ L a w hs h0 hC (h.1 h0), fun i hi => wpOp_of hs hi hC (fun a' w' hC' hK => ih _ a' w' (by simpa using hs) hC' hK) (h.2 i hi)⟩
/-- Operation i, taken ahead of j, which it has nothing to do with. -/
theorem At.swap {i j : Nat} {oi oj : Oper} {v : Value} {K : Act → Prop} {a : Act} (hj : ops[j]? = some oj) (hap : oi.apart ops oj = true) (hsi : ∀ cs b, oi.op ≠ .select cs b) (hsj : ∀ cs b, oj.op ≠ .select cs b)
    (hy : Gives P ops CL i oi v a) (h : At P ops CL j K (a.put oi.dst v)) : At P ops CL j (fun a' => Gives P ops CL i oi v a' ∧ K (a'.put oi.dst v)) a := by
  obtain ⟨p1, p2, p3⟩ := Oper.apart_spec hap
  obtain ⟨o, u, ho, hg, hk⟩ := h
  obtain rfl : o = oj := Option.some.inj (ho.symm.trans hj)
  refine ⟨o, u, ho, hg.same (execOp_put o hsj a oi.dst v p1).symm (wanted_put o a oi.dst v p1).symm, ?_, ?_⟩
  · exact hy.same (execOp_put oi hsi a o.dst u p3) (wanted_put oi a o.dst u p3)
  · rw [← Act.put_comm a v u p2]
    exact hk
theorem Any.first {Q : Act → Prop} {i : Nat} {oi : Oper} {v : Value} (hi : ops[i]? = some oi) (hsel : ∀ (j : Nat) (o : Oper) cs b, ops[j]? = some o → o.op ≠ .select cs b) :
    ∀ (f : Nat) (L : Array Bool) (a : Act),
      (∀ j oj, ops[j]? = some oj → j ≠ i → L.getD j true = false → (∀ e ∈ oj.after, Region.binds .any e = true → e.on ≠ i) → oi.apart ops oj = true) →
      i ∈ Region.ready .any ops L → Gives P ops CL i oi v a → Any P ops CL Q f (L.setIfInBounds i true) (a.put oi.dst v) → Any P ops CL Q (f + 1) L a := by
  intro f
  induction f with
  | zero =>
    intro L a _ hr hy H
    refine ⟨fun h => (by rw [h] at hr; cases hr), fun j hj => ?_⟩
    rcases Nat.decEq j i with hji | hji
    · have := ready_mono hj hji
      rw [H.1] at this
      cases this
    · subst hji
      exact ⟨oi, v, hi, hy, H⟩
  | succ f ih =>
    intro L a hfree hr hy H
    refine ⟨fun h => (by rw [h] at hr; cases hr), fun j hj => ?_⟩
    rcases Nat.decEq j i with hji | hji
    · obtain ⟨hun, oj, hoj, hall⟩ := mem_ready.1 hj
      obtain ⟨hiu, _⟩ := mem_ready.1 hr
      have hno : ∀ e ∈ oj.after, Region.binds .any e = true → e.on ≠ i := by
        intro e he hb heq
        have h1 := hall e he hb
        rw [heq] at h1
        rcases Nat.lt_or_ge i L.size with h' | h'
        · simp [h'] at hiu h1
          rw [hiu] at h1
          cases h1
        · simp [Array.getElem?_eq_none h'] at h1
      have h2 := At.swap hoj (hfree j oj hoj hji hun hno) (fun cs b => hsel i oi cs b hi) (fun cs b => hsel j oj cs b hoj) hy (H.2 j (ready_mono hj hji))
      refine h2.mono fun a' h3 => ih (L.setIfInBounds j true) a' (fun k ok hk hki hu hn => ?_) (ready_mono hr (Ne.symm hji)) h3.1 ?_
      · refine hfree k ok hk hki ?_ hn
        by_cases hjk : j = k
        · subst hjk; exact hun
        · rw [getD_set_ne true hjk] at hu; exact hu
      · rw [Array.setIfInBounds_comm _ _ hji]
        exact h3.2
    · subst hji
      exact ⟨oi, v, hi, hy, H⟩
theorem Any.lex {Q : Act → Prop} (hs : Region.noSelect ops = true) : ∀ (l : List Oper) (k : Nat) (L : Array Bool) (a : Act), (∀ j, l[j]? = ops[k + j]?) →
    Region.lexFrom .any ops l.length k L = true → Walk P ops CL Q l k a → Any P ops CL Q l.length L a := by
  intro l
  induction l with
  | nil => exact fun k L a _ hB h => ⟨by simpa [Region.lexFrom] using hB, h⟩
  | cons o l ih =>
    intro k L a hl hB h
    have h0 : ops[k]? = some o := by simpa using (hl 0).symm
    simp only [List.length_cons, Region.lexFrom, Bool.and_eq_true] at hB
    obtain ⟨⟨hr, hf⟩, hB'⟩ := hB
    obtain ⟨v, hy, hK⟩ := h
    exact Any.first h0 (Region.noSelect_spec hs) l.length L a (Region.free_spec h0 hf) (by simpa using hr) hy
      (ih (k + 1) _ _ (fun j => by have := hl (j + 1); simpa [Nat.add_assoc, Nat.add_comm 1 j] using this) hB' hK)
end
theorem all_listed {l : List Oper} {L : Array Bool} (hlow : lowB (l ++ [default]) l.length = true) (hs : L.size = l.length) (h : Region.ready .any l.toArray L = []) : L = Array.replicate l.length true := by
  have h0 : ∀ i, i < l.length → L.getD i true = true := by
    intro i
    induction i using Nat.strongRecOn with
    | _ i ih =>
      intro hi
      cases hl : L.getD i true with
      | true => rfl
      | false =>
        exfalso
        have ho : l[i]? = some l[i] := List.getElem?_eq_getElem hi
        have ho' : (l ++ [default])[i]? = some l[i] := by rw [List.getElem?_append_left hi]; exact ho
        have hm : i ∈ Region.ready .any l.toArray L := by
          refine mem_ready.2 ⟨hl, l[i], by simp, fun e he hb => ?_⟩
          have hlt := (low_at hlow hi ho').1 e he hb
          have := ih e.on hlt (by omega)
          rw [getD_any (by omega)]
          exact this
        rw [h] at hm
        cases hm
  apply Array.ext
  · simp [hs]
  · intro i h1 h2
    have := h0 i (by omega)
    rw [Array.getD_eq_getD_getElem?, Array.getElem?_eq_getElem h1] at this
    simpa using this
/-- A REGION WHOSE OPERATIONS MAY WRITE, WALKED ONCE. -/
theorem region {P : Program} {id : Nat} {Q : Exit → Act → World → Prop} {a : Act} {w : World} {l : List Oper} (CL : Array Bool → World → Prop) (hm : P.follows .mixedOrders = true) (hB : Region.lexB .any l.toArray = true) (hlow : lowB (l ++ [default]) l.length = true)
    (hC : CL (Array.replicate l.length false) { w with drawn := w.drawn + 1 }) (h : Walk P l.toArray CL (fun a' => ∀ w', CL (Array.replicate l.length true) w' → Q .normal a' w') l 0 a) : (Code.region id l.toArray true).wp P Q a w := by
  simp only [Region.lexB, Bool.and_eq_true] at hB
  refine wp_region_any hm ?_
  have := Any.lex (CL := CL) hB.1 l 0 (Array.replicate l.toArray.size false) a (by simp) (by simpa using hB.2) h
  refine any_sound (Q := fun a' => ∀ w', CL (Array.replicate l.length true) w' → Q .normal a' w') (fun L a' w' hs hr hC' hq => ?_) _ _ _ _ (by simp) (by simpa using hC) (by simpa using this)
  rw [all_listed hlow (by simpa using hs) hr] at hC'
  exact hq w' hC'
section
variable {P : Program} {ops : Array Oper} {CL : Array Bool → World → Prop} {Q : Act → Prop}
/-- May this operation do more than read and reckon? -/
def calls (o : Oper) : Bool := match o.op with | .move _ | .assign _ | .load _ _ | .binOp _ _ _ _ _ | .unOp _ _ _ | .convert _ _ _ | .slice _ _ _ _ _ | .fieldAddr _ _ _ | .field _ _ _ | .indexAddr _ _ _ | .index _ _ _ | .extract _ _ | .build _ _ | .makeInterface _ _ | .pick _ _ _ => false | _ => true
/-- A world of the class, whichever operations are done. -/
structure Spot (CL : Array Bool → World → Prop) where
  listed : Array Bool
  tz9 : World
  ok : CL listed tz9
end
theorem put_lit (l : List Value) (d : List Deferred) (n : Nat) (v : Value) : (Act.mk l.toArray d).put (some n) v = ⟨(l.set n v).toArray, d⟩ := by
  unfold Act.put
  simp
/-- Is operation i done? As a number. -/
def one (L : Array Bool) (i : Nat) : Nat := if L.getD i false = true then 1 else 0
theorem one_ne {L : Array Bool} {i j : Nat} (h : i ≠ j) : one (L.setIfInBounds i true) j = one L j := by
  unfold one
  rw [getD_set_ne false h]
theorem one_set {L : Array Bool} {i : Nat} (h : i < L.size) : one (L.setIfInBounds i true) i = 1 := by
  unfold one
  rw [Array.getD_eq_getD_getElem?, Array.getElem?_setIfInBounds_self_of_lt h]
  rfl
theorem one_ready {P : Array Oper} {L : Array Bool} {i : Nat} (h : i ∈ Region.ready .any P L) : one L i = 0 := by
  unfold one
  have h0 := (mem_ready.1 h).1
  rcases Nat.lt_or_ge i L.size with h' | h'
  · rw [getD_any h', h0]; rfl
  · rw [Array.getD_eq_getD_getElem?, Array.getElem?_eq_none h'] at h0
    cases h0
theorem one_un {L : Array Bool} {i : Nat} (h : L.getD i false = false) : one L i = 0 := by
  unfold one
  rw [h]; rfl
theorem one_none (n i : Nat) : one (Array.replicate n false) i = 0 := by
  unfold one
  rw [getD_replicate_false]
  rfl
theorem one_all {n i : Nat} (h : i < n) : one (Array.replicate n true) i = 1 := by
  unfold one
  rw [Array.getD_eq_getD_getElem?, Array.getElem?_replicate, if_pos h]
  rfl
end Mix
end Go.Proofs.YtoeggiplcaegoaaGreatDoor
/- A struct in a block of its own: what its cells hold, that they may be written; what turns nothing but it. Of no program. -/
namespace Go.Proofs.YtoeggiplcaegoaaGreatDoor
open Go.RowKit

/-- Block g holds the cells C, all of which may be written. -/
def Has (w : World) (g : Nat) (C : List Value) (t : TypeId) : Prop := w.heap[g]? = some (.cells C.toArray t (0, 0))
theorem Has.lt {w : World} {g : Nat} {C : List Value} {t : TypeId} (h : Has w g C t) : g < w.heap.size := (Array.getElem?_eq_some_iff.1 h).1
theorem Has.cell {w : World} {g : Nat} {C : List Value} {t : TypeId} (h : Has w g C t) (i : Nat) (v : Value) (hv : C[i]? = some v) : w.cell? ⟨g, i, none⟩ = some v := by
  rw [cell_of_row w g i C.toArray t (0, 0) h]; simpa using hv
theorem Has.free {w : World} {g : Nat} {C : List Value} {t : TypeId} (h : Has w g C t) (i : Nat) : w.frozen? ⟨g, i, none⟩ = false := frozen_of_row w g i C.toArray t h
theorem Has.new (w : World) (C : List Value) (t : TypeId) : Has (w.alloc (.cells C.toArray t)) w.heap.size C t := heap_alloc_new w _
theorem Has.set {w : World} {g : Nat} {C : List Value} {t : TypeId} (h : Has w g C t) (i : Nat) (v : Value) : Has (w.setCell ⟨g, i, none⟩ v) g (C.set i v) t := by
  have := heap_setCell_same w g i C.toArray t v h
  unfold Has
  rw [this]
  simp
theorem Has.setOther {w : World} {g : Nat} {C : List Value} {t : TypeId} (h : Has w g C t) (a : Addr) (v : Value) (hne : g ≠ a.block) : Has (w.setCell a v) g C t := by
  unfold Has
  rw [heap_setCell_other w a g v hne]; exact h
theorem Has.alloc {w : World} {g : Nat} {C : List Value} {t : TypeId} (h : Has w g C t) (o : Obj) : Has (w.alloc o) g C t := by
  have hl := h.lt
  unfold Has World.alloc at *
  simp only
  rw [Array.getElem?_push_lt hl, ← Array.getElem?_eq_getElem hl]
  exact h
theorem Has.drewN {w : World} {g : Nat} {C : List Value} {t : TypeId} (h : Has w g C t) (n : Nat) : Has (w.drewN n) g C t := h
theorem Has.below {w w' : World} {g B : Nat} {C : List Value} {t : TypeId} (h : Has w g C t) (hb : Below B w w') (hg : g < B) : Has w' g C t := (hb.block g hg).trans h

/-- Below block B nothing but block g has turned. -/
structure But (g B : Nat) (w w' : World) : Prop where
  os : w'.os = w.os
  tape : w'.tape = w.tape
  output : w'.output = w.output
  size : w.heap.size ≤ w'.heap.size
  block : ∀ k, k < B → k ≠ g → w'.heap[k]? = w.heap[k]?
theorem But.refl (g B : Nat) (w : World) : But g B w w := ⟨rfl, rfl, rfl, Nat.le_refl _, fun _ _ _ => rfl⟩
theorem But.trans {g B : Nat} {a b c : World} (h : But g B a b) (k : But g B b c) : But g B a c :=
  ⟨k.os.trans h.os, k.tape.trans h.tape, k.output.trans h.output, Nat.le_trans h.size k.size, fun i hi hn => (k.block i hi hn).trans (h.block i hi hn)⟩
theorem But.ofBelow {g B : Nat} {w w' : World} (h : Below B w w') : But g B w w' := ⟨h.os, h.tape, h.output, h.size, fun k hk _ => h.block k hk⟩
theorem But.mono {g B B' : Nat} {w w' : World} (h : But g B w w') (hb : B' ≤ B) : But g B' w w' := ⟨h.os, h.tape, h.output, h.size, fun k hk hn => h.block k (by omega) hn⟩
theorem But.below {g B B' : Nat} {w w' : World} (h : But g B w w') (hb : B' ≤ B) (hg : B' ≤ g) : Below B' w w' := ⟨h.os, h.tape, h.output, h.size, fun k hk => h.block k (by omega) (by omega)⟩
theorem But.set {g B : Nat} {w w' : World} (h : But g B w w') (i : Nat) (v : Value) : But g B w (w'.setCell ⟨g, i, none⟩ v) :=
  ⟨h.os, h.tape, h.output, by rw [World.size_setCell]; exact h.size, fun k hk hn => by rw [heap_setCell_other w' ⟨g, i, none⟩ k v hn]; exact h.block k hk hn⟩
theorem But.alloc {g B : Nat} {w w' : World} (h : But g B w w') (hB : B ≤ w.heap.size) (o : Obj) : But g B w (w'.alloc o) := by
  have := h.size
  exact h.trans (.ofBelow ((Below.refl B w').alloc (by omega) o))
theorem But.drewN {g B : Nat} {w w' : World} (h : But g B w w') (n : Nat) : But g B w (w'.drewN n) := ⟨h.os, h.tape, h.output, h.size, h.block⟩
theorem Has.but {w w' : World} {g g' B : Nat} {C : List Value} {t : TypeId} (h : Has w g C t) (hb : But g' B w w') (hg : g < B) (hn : g ≠ g') : Has w' g C t := (hb.block g hg hn).trans h
theorem own_but {w w' : World} {g B e size : Nat} {v : Value} {n : Nat} {xs : List Value} (h : w.ownsRow B e size v n xs) (hb : But g w.heap.size w w') (hg : g < B) : w'.ownsRow B e size v n xs := by
  refine ⟨h.1, ?_⟩
  rcases h.2 with hn | ⟨r, cap, cur, rfl, hB, hr, rest⟩
  · exact .inl hn
  · exact .inr ⟨r, cap, cur, rfl, hB, (hb.block r (Array.getElem?_eq_some_iff.1 hr).1 (by omega)).trans hr, rest⟩
theorem zero3 (w : World) (g : Nat) (x y z : Value) : But g w.heap.size w (((w.setCell ⟨g, 0, none⟩ x).setCell ⟨g, 1, none⟩ y).setCell ⟨g, 2, none⟩ z) :=
  (((But.refl _ _ _).set 0 _).set 1 _).set 2 _
end Go.Proofs.YtoeggiplcaegoaaGreatDoor
/- An append leaves the elder row's own cells as they were: in place it writes behind them, else it makes a new block. Of no program. -/
namespace Go.Proofs.YtoeggiplcaegoaaGreatDoor
open Go.RowKit Go.ChangeShapes Go.WideShapes
/-- What an append leaves: each row of its own whose cells are a head of the new row's; and a full row that holds what was appended. -/
def Kept (w w' : World) (base : Nat) (e : TypeId) (size : Nat) (D C : List Value) (m : Nat) : Prop :=
  (∀ v n xs, w.ownsRow base e size v n xs → xs <+: D → w'.ownsRow base e size v n xs) ∧ ∀ g, w.ownsRow base e size (.slice (some ⟨g, 0, none⟩) m m) m C → w'.ownsRow base e size (.slice (some ⟨g, 0, none⟩) m m) m C
theorem Kept.refl (w : World) (base : Nat) (e : TypeId) (size : Nat) (D C : List Value) (m : Nat) : Kept w w base e size D C m := ⟨fun _ _ _ h _ => h, fun _ h => h⟩
theorem Kept.below {w w' : World} (hb : Below w.heap.size w w') (base : Nat) (e : TypeId) (size : Nat) (D C : List Value) (m : Nat) : Kept w w' base e size D C m := ⟨fun _ _ _ h _ => ownsRow_below h hb, fun _ h => ownsRow_below h hb⟩
end Go.Proofs.YtoeggiplcaegoaaGreatDoor
/- Lists in memory, of whatever elements: how they lie, in which blocks; what keeps them. Of no program. -/
namespace Go.Proofs.YtoeggiplcaegoaaGreatDoor
open Go.RowKit Go.ChangeShapes Go.WideShapes
/-- Blocks that data may lie in. -/
abbrev Zone := Nat → Prop
/-- What lies in the zone is as it was. -/
structure KeepZ (Z : Zone) (w w' : World) : Prop where
  size : w.heap.size ≤ w'.heap.size
  block : ∀ b, b < w.heap.size → Z b → w'.heap[b]? = w.heap[b]?
theorem KeepZ.refl (Z : Zone) (w : World) : KeepZ Z w w := ⟨Nat.le_refl _, fun _ _ _ => rfl⟩
theorem KeepZ.trans {Z : Zone} {a b c : World} (h : KeepZ Z a b) (k : KeepZ Z b c) : KeepZ Z a c :=
  ⟨Nat.le_trans h.size k.size, fun i hi hz => (k.block i (Nat.lt_of_lt_of_le hi h.size) hz).trans (h.block i hi hz)⟩
theorem KeepZ.mono {Z Y : Zone} {w w' : World} (h : KeepZ Z w w') (hz : ∀ b, b < w.heap.size → Y b → Z b) : KeepZ Y w w' := ⟨h.size, fun b hb hy => h.block b hb (hz b hb hy)⟩
theorem KeepZ.below {B : Nat} {w w' : World} (h : Below B w w') : KeepZ (fun b => b < B) w w' := ⟨h.size, fun b _ hz => h.block b hz⟩
theorem KeepZ.all {w w' : World} (h : Below w.heap.size w w') (Z : Zone) : KeepZ Z w w' := ⟨h.size, fun b hb _ => h.block b hb⟩
theorem KeepZ.grown {w w' : World} {row : Option Nat} (h : w.grownBy w' row) : KeepZ (fun b => row ≠ some b) w w' := ⟨h.size, fun b hb hz => h.block b hb (Ne.symm hz)⟩
theorem KeepZ.but {g : Nat} {w w' : World} (h : But g w.heap.size w w') : KeepZ (fun b => b ≠ g) w w' := ⟨h.size, fun b hb hz => h.block b hb hz⟩
theorem KeepZ.cell {Z : Zone} {w w' : World} (h : KeepZ Z w w') {b o : Nat} (hb : b < w.heap.size) (hz : Z b) : w'.cell? ⟨b, o, none⟩ = w.cell? ⟨b, o, none⟩ := World.cell?_of_block (a := ⟨b, o, none⟩) (h.block b hb hz)
theorem KeepZ.has {Z : Zone} {w w' : World} (h : KeepZ Z w w') {g : Nat} {C : List Value} {t : TypeId} (hg : Has w g C t) (hz : Z g) : Has w' g C t := (h.block g hg.lt hz).trans hg
theorem KeepZ.own {Z : Zone} {w w' : World} (h : KeepZ Z w w') {B e size n : Nat} {v : Value} {xs : List Value} (ho : w.ownsRow B e size v n xs) (hz : ∀ b, v.ownBlock = some b → Z b) : w'.ownsRow B e size v n xs := by
  refine ⟨ho.1, ?_⟩
  rcases ho.2 with hn | ⟨g, cap, cur, rfl, hB, hg, rest⟩
  · exact .inl hn
  · exact .inr ⟨g, cap, cur, rfl, hB, (h.block g (Array.getElem?_eq_some_iff.1 hg).1 (hz g rfl)).trans hg, rest⟩
/-- How an element of a list lies in its cells. -/
structure Elem (α : Type) where
  size : Nat
  zero : α
  rep : Zone → World → List Value → α → Prop
  len : ∀ {Z : Zone} {w : World} {C : List Value} {x : α}, rep Z w C x → C.length = size
  one : ∀ {Z : Zone} {w : World} {C : List Value} {x : α}, rep Z w C x → ∀ u ∈ C, u.oneCell' = true
  keep : ∀ {Z Y : Zone} {w w' : World} {C : List Value} {x : α}, KeepZ Z w w' → (∀ b, b < w.heap.size → Z b → Y b) → rep Z w C x → rep Y w' C x
/-- The slice value v holds the list L, all of whose memory lies in the zone. -/
def HeldE {α : Type} (E : Elem α) (Z : Zone) (w : World) (v : Value) (L : List α) : Prop :=
  ∃ ao cap, v = .slice ao L.length cap ∧ L.length ≤ cap ∧ cap ≤ maxLen ∧ (ao = none → L = [] ∧ cap = 0) ∧
    ∀ i, i < L.length → ∃ b off, ao = some ⟨b, off, none⟩ ∧ b < w.heap.size ∧ Z b ∧ ∃ C, (∀ j, j < E.size → w.cell? ⟨b, off + i * E.size + j, none⟩ = C[j]?) ∧ E.rep Z w C (L.getD i E.zero)
section
variable {α : Type} {E : Elem α} {Z Y : Zone} {w w' : World} {v u : Value} {L M : List α}
theorem HeldE.nil (E : Elem α) (Z : Zone) (w : World) : HeldE E Z w (.slice none 0 0) [] := ⟨none, 0, rfl, Nat.le_refl _, Nat.zero_le _, fun _ => ⟨rfl, rfl⟩, fun i hi => absurd hi (Nat.not_lt_zero _)⟩
theorem HeldE.keep (h : HeldE E Z w v L) (hk : KeepZ Z w w') (hy : ∀ b, b < w.heap.size → Z b → Y b) : HeldE E Y w' v L := by
  obtain ⟨ao, cap, rfl, hl, hm, hn, hc⟩ := h
  refine ⟨ao, cap, rfl, hl, hm, hn, fun i hi => ?_⟩
  obtain ⟨b, off, rfl, hb, hz, C, hC, hr⟩ := hc i hi
  exact ⟨b, off, rfl, Nat.lt_of_lt_of_le hb hk.size, hy b hb hz, C, fun j hj => (hk.cell hb hz).trans (hC j hj), E.keep hk hy hr⟩
theorem HeldE.kept (h : HeldE E Z w v L) (hk : KeepZ Z w w') : HeldE E Z w' v L := h.keep hk fun _ _ hz => hz
theorem HeldE.below (h : HeldE E Z w v L) (hb : Below w.heap.size w w') : HeldE E Z w' v L := h.kept (.all hb Z)
theorem HeldE.zone (h : HeldE E Z w v L) (hy : ∀ b, b < w.heap.size → Z b → Y b) : HeldE E Y w v L := h.keep (.refl _ _) hy
theorem HeldE.len (h : HeldE E Z w v L) : ∃ ao cap, v = .slice ao L.length cap := by
  obtain ⟨ao, cap, rfl, _⟩ := h
  exact ⟨ao, cap, rfl⟩
theorem HeldE.max (h : HeldE E Z w v L) : L.length ≤ 9223372036854775807 := by
  obtain ⟨ao, cap, rfl, hl, hm, _⟩ := h
  unfold maxLen at hm
  omega
theorem HeldE.spots {ao : Option Addr} {n cap : Nat} (h : HeldE E Z w (.slice ao n cap) L) : n = L.length ∧ n ≤ cap ∧ ∀ i, i < L.length → ∃ b off, ao = some ⟨b, off, none⟩ ∧ b < w.heap.size ∧ Z b ∧ ∃ C, (∀ j, j < E.size → w.cell? ⟨b, off + i * E.size + j, none⟩ = C[j]?) ∧ E.rep Z w C (L.getD i E.zero) := by
  obtain ⟨ao', cap', he, hl, _, _, hc⟩ := h
  cases he
  exact ⟨rfl, hl, hc⟩
theorem HeldE.nilL {n cap : Nat} (h : HeldE E Z w (.slice none n cap) L) : L = [] ∧ n = 0 ∧ cap = 0 := by
  obtain ⟨ao', cap', he, hl, _, hn, hc⟩ := h
  cases he
  obtain ⟨rfl, rfl⟩ := hn rfl
  exact ⟨rfl, rfl, rfl⟩
/-- A part of a slice. -/
theorem HeldE.part {ao : Option Addr} {n cap : Nat} (h : HeldE E Z w (.slice ao n cap) L) (lo hi : Nat) (h1 : lo ≤ hi) (h2 : hi ≤ L.length) :
    ∀ a' cap', (ao = none → a' = none ∧ cap' = 0) → (∀ b off, ao = some ⟨b, off, none⟩ → lo < hi → a' = some ⟨b, off + lo * E.size, none⟩) → (∀ a, ao = some a → a' ≠ none) → hi - lo ≤ cap' → cap' ≤ maxLen → HeldE E Z w (.slice a' (hi - lo) cap') ((L.drop lo).take (hi - lo)) := by
  intro a' cap' hn hs hne hc hm
  obtain ⟨_, _, hsp⟩ := h.spots
  have hlen : ((L.drop lo).take (hi - lo)).length = hi - lo := by simp; omega
  refine ⟨a', cap', by rw [hlen], by rw [hlen]; exact hc, hm, fun he => ?_, fun i hi' => ?_⟩
  · cases ao with
    | none =>
      obtain ⟨rfl, rfl, rfl⟩ := h.nilL
      exact ⟨by simp, (hn rfl).2⟩
    | some a => exact absurd he (hne a rfl)
  · rw [hlen] at hi'
    obtain ⟨b, off, rfl, hb, hz, C, hC, hr⟩ := hsp (lo + i) (by omega)
    refine ⟨b, off + lo * E.size, hs b off rfl (by omega), hb, hz, C, fun j hj => ?_, ?_⟩
    · rw [← hC j hj, Nat.add_mul, Nat.add_assoc off]
    · rw [show ((L.drop lo).take (hi - lo)).getD i E.zero = L.getD (lo + i) E.zero from by simp [List.getD, List.getElem?_take, hi', List.getElem?_drop]]
      exact hr
end
/-- Integers. -/
def intE (k : IntKind) : Elem Int where
  size := 1
  zero := 0
  rep := fun _ _ C x => C = [.int k x]
  len := by rintro _ _ _ _ rfl; rfl
  one := by
    rintro _ _ _ _ rfl u hu
    simp at hu
    subst hu; rfl
  keep := fun _ _ h => h
def boolE : Elem Bool where
  size := 1
  zero := false
  rep := fun _ _ C x => C = [.bool x]
  len := by rintro _ _ _ _ rfl; rfl
  one := by
    rintro _ _ _ _ rfl u hu
    simp at hu
    subst hu; rfl
  keep := fun _ _ h => h
/-- Slices. -/
def slE {α : Type} (E : Elem α) : Elem (List α) where
  size := 1
  zero := []
  rep := fun Z w C L => ∃ v, C = [v] ∧ HeldE E Z w v L
  len := by rintro _ _ _ _ ⟨v, rfl, _⟩; rfl
  one := by
    rintro _ _ _ _ ⟨v, rfl, h⟩ u hu
    simp at hu
    subst hu
    obtain ⟨ao, cap, rfl, _⟩ := h
    rfl
  keep := by
    rintro _ _ _ _ _ _ hk hy ⟨v, rfl, h⟩
    exact ⟨v, rfl, h.keep hk hy⟩
/-- Structs. -/
def prE {α β : Type} (E : Elem α) (F : Elem β) : Elem (α × β) where
  size := E.size + F.size
  zero := (E.zero, F.zero)
  rep := fun Z w C x => ∃ C1 C2, C = C1 ++ C2 ∧ E.rep Z w C1 x.1 ∧ F.rep Z w C2 x.2
  len := by
    rintro _ _ _ _ ⟨C1, C2, rfl, h1, h2⟩
    rw [List.length_append, E.len h1, F.len h2]
  one := by
    rintro _ _ _ _ ⟨C1, C2, rfl, h1, h2⟩ u hu
    rcases List.mem_append.1 hu with h | h
    · exact E.one h1 u h
    · exact F.one h2 u h
  keep := by
    rintro _ _ _ _ _ _ hk hy ⟨C1, C2, rfl, h1, h2⟩
    exact ⟨C1, C2, rfl, E.keep hk hy h1, F.keep hk hy h2⟩
theorem HeldE.ints {k : IntKind} {Z : Zone} {w : World} {v : Value} {xs : List Int} (h : HeldE (intE k) Z w v xs) : Held k w v xs := by
  obtain ⟨ao, cap, rfl, _, _, hn, hc⟩ := h
  refine ⟨ao, cap, rfl, hn, fun i hi => ?_⟩
  obtain ⟨b, off, rfl, hb, _, C, hC, rfl⟩ := hc i hi
  refine ⟨b, off, rfl, hb, ?_⟩
  have := hC 0 (Nat.lt_succ_self 0)
  simpa [intE] using this
/- Rows of the call's own. -/
theorem flat_len {s : Nat} : ∀ {CS : List (List Value)}, (∀ C ∈ CS, C.length = s) → CS.flatten.length = CS.length * s
  | [], _ => by simp
  | C :: CS, h => by
    rw [List.flatten_cons, List.length_append, flat_len (fun D hD => h D (List.mem_cons_of_mem _ hD)), h C (by simp), List.length_cons, Nat.add_mul]
    omega
theorem flat_at {s : Nat} : ∀ {CS : List (List Value)}, (∀ C ∈ CS, C.length = s) → ∀ i j, i < CS.length → j < s → CS.flatten[i * s + j]? = (CS.getD i [])[j]?
  | [], _, i, _, hi, _ => absurd hi (Nat.not_lt_zero _)
  | C :: CS, h, 0, j, _, hj => by
    rw [List.flatten_cons, Nat.zero_mul, Nat.zero_add, List.getElem?_append_left (by rw [h C (by simp)]; exact hj)]
    rfl
  | C :: CS, h, i + 1, j, hi, hj => by
    have := flat_at (fun D hD => h D (List.mem_cons_of_mem _ hD)) i j (by simpa using hi) hj
    rw [List.flatten_cons, List.getElem?_append_right (by rw [h C (by simp), Nat.add_mul]; omega), h C (by simp), show (i + 1) * s + j - s = i * s + j by rw [Nat.add_mul]; omega, this]
    rfl
/-- The row v is the call's own (from block B on), and holds L; what its elements lead to lies in the zone, and in no block of the row's own. -/
def OwnE {α : Type} (E : Elem α) (Z : Zone) (w : World) (B : Nat) (ty : TypeId) (v : Value) (L : List α) : Prop :=
  ∃ CS : List (List Value), w.ownsRow B ty E.size v L.length CS.flatten ∧ CS.length = L.length ∧ ∀ i, i < L.length → E.rep (fun b => Z b ∧ v.ownBlock ≠ some b) w (CS.getD i []) (L.getD i E.zero)
section
variable {α : Type} {E : Elem α} {Z Y : Zone} {w w' : World} {v u : Value} {L M : List α} {B : Nat} {ty : TypeId}
theorem own_lens {Z : Zone} {CS : List (List Value)} (hl : CS.length = L.length) (h : ∀ i, i < L.length → E.rep Z w (CS.getD i []) (L.getD i E.zero)) : ∀ C ∈ CS, C.length = E.size := by
  intro C hC
  obtain ⟨i, hi, rfl⟩ := List.getElem_of_mem hC
  have := E.len (h i (by omega))
  rwa [show CS.getD i [] = CS[i] from by simp [List.getD, List.getElem?_eq_getElem hi]] at this
theorem own_ones {Z : Zone} {CS : List (List Value)} (hl : CS.length = L.length) (h : ∀ i, i < L.length → E.rep Z w (CS.getD i []) (L.getD i E.zero)) : ∀ u ∈ CS.flatten, u.oneCell' = true := by
  intro u hu
  obtain ⟨C, hC, hu⟩ := List.mem_flatten.1 hu
  obtain ⟨i, hi, rfl⟩ := List.getElem_of_mem hC
  refine E.one (h i (by omega)) u ?_
  rwa [show CS.getD i [] = CS[i] from by simp [List.getD, List.getElem?_eq_getElem hi]]
theorem OwnE.nil (E : Elem α) (Z : Zone) (w : World) (B : Nat) (ty : TypeId) : OwnE E Z w B ty (.slice none 0 0) [] := ⟨[], World.ownsRow_nil _ _ _ _, rfl, fun i hi => absurd hi (Nat.not_lt_zero _)⟩
theorem OwnE.empty (h : w.ownsRow B ty E.size v 0 []) : OwnE E Z w B ty v [] := ⟨[], h, rfl, fun i hi => absurd hi (Nat.not_lt_zero _)⟩
theorem OwnE.lt (h : OwnE E Z w B ty v L) : ∀ k, v.ownBlock = some k → B ≤ k ∧ k < w.heap.size := by
  obtain ⟨CS, h, _⟩ := h
  exact h.lt
theorem OwnE.keep (h : OwnE E Z w B ty v L) (hk : KeepZ (fun b => Z b ∨ v.ownBlock = some b) w w') (hy : ∀ b, b < w.heap.size → Z b → Y b) : OwnE E Y w' B ty v L := by
  obtain ⟨CS, h1, h2, h3⟩ := h
  refine ⟨CS, hk.own h1 fun b hb => .inr hb, h2, fun i hi => E.keep (hk.mono fun b _ hz => .inl hz.1) (fun b hb hz => ⟨hy b hb hz.1, hz.2⟩) (h3 i hi)⟩
theorem OwnE.below (h : OwnE E Z w B ty v L) (hb : Below w.heap.size w w') : OwnE E Z w' B ty v L := h.keep (.all hb _) fun _ _ hz => hz
theorem OwnE.base (h : OwnE E Z w B ty v L) {B' : Nat} (hb : B' ≤ B) : OwnE E Z w B' ty v L := by
  obtain ⟨CS, ⟨h1, h2⟩, h3, h4⟩ := h
  refine ⟨CS, ⟨h1, ?_⟩, h3, h4⟩
  rcases h2 with h2 | ⟨g, cap, cur, rfl, hB, rest⟩
  · exact .inl h2
  · exact .inr ⟨g, cap, cur, rfl, by omega, rest⟩
theorem OwnE.held (h : OwnE E Z w B ty v L) (hz : ∀ b, B ≤ b → b < w.heap.size → Z b) : HeldE E Z w v L := by
  obtain ⟨CS, h1, h2, h3⟩ := h
  have hls := own_lens h2 h3
  rcases h1.2 with ⟨rfl, h0⟩ | ⟨g, cap, cur, rfl, hB, hg, hn, hmx, _⟩
  · have : L = [] := List.eq_nil_of_length_eq_zero h0
    subst this
    exact HeldE.nil _ _ _
  · refine ⟨some ⟨g, 0, none⟩, cap, rfl, hn, hmx, (fun e => by cases e), fun i hi => ?_⟩
    have hgl := (Array.getElem?_eq_some_iff.1 hg).1
    refine ⟨g, 0, rfl, hgl, hz g hB hgl, CS.getD i [], fun j hj => ?_, E.keep (.refl _ _) (fun b _ h => h.1) (h3 i hi)⟩
    rw [Nat.zero_add, h1.cellAt (i * E.size + j) (by have : i * E.size + E.size ≤ L.length * E.size := by rw [← Nat.succ_mul]; exact Nat.mul_le_mul_right _ hi
                                                     omega)]
    exact flat_at hls i j (by omega) hj
/-- The cells of a held list, one behind the other. -/
theorem HeldE.news {a : Addr} {n cap : Nat} (h : HeldE E Z w (.slice (some a) n cap) L) (h0 : 0 < E.size) : ∃ CS : List (List Value), CS.length = L.length ∧ n = L.length ∧ (∀ j u, CS.flatten[j]? = some u → w.cell? (a.add j) = some u) ∧ ∀ i, i < L.length → E.rep Z w (CS.getD i []) (L.getD i E.zero) := by
  obtain ⟨hn, _, hc⟩ := h.spots
  have hch : ∀ i : Fin L.length, ∃ C, (∀ j, j < E.size → w.cell? (a.add (i * E.size + j)) = C[j]?) ∧ E.rep Z w C (L.getD i E.zero) := by
    intro i
    obtain ⟨b, off, e, _, _, C, h1, h2⟩ := hc i.1 i.2
    cases e
    refine ⟨C, fun j hj => ?_, h2⟩
    rw [Addr.add_lit, ← h1 j hj, Nat.add_assoc]
  refine ⟨List.ofFn fun i => Classical.choose (hch i), by simp, hn, fun j u hj => ?_, fun i hi => ?_⟩
  · have hlens : ∀ C ∈ (List.ofFn fun i => Classical.choose (hch i)), C.length = E.size := by
      intro C hC
      obtain ⟨i, rfl⟩ := List.mem_ofFn.1 hC
      exact E.len (Classical.choose_spec (hch i)).2
    have hfl := flat_len hlens
    have hjl : j < (List.ofFn fun i => Classical.choose (hch i)).flatten.length := (List.getElem?_eq_some_iff.1 hj).1
    rw [hfl, List.length_ofFn] at hjl
    have hi : j / E.size < L.length := (Nat.div_lt_iff_lt_mul h0).2 hjl
    have hjj : j = j / E.size * E.size + j % E.size := by rw [Nat.mul_comm]; exact (Nat.div_add_mod j E.size).symm
    have hmod : j % E.size < E.size := Nat.mod_lt _ h0
    have h1 := (Classical.choose_spec (hch ⟨j / E.size, hi⟩)).1 (j % E.size) hmod
    have h2 := flat_at hlens (j / E.size) (j % E.size) (by simpa using hi) hmod
    rw [← hjj, hj] at h2
    simp only [List.getD, List.getElem?_ofFn, hi, dif_pos, Option.getD_some] at h2
    rw [hjj]
    exact h1.trans h2.symm
  · simp only [List.getD, List.getElem?_ofFn, hi, dif_pos, Option.getD_some]
    exact (Classical.choose_spec (hch ⟨i, hi⟩)).2
theorem flat_ints (k : IntKind) : ∀ xs : List Int, (xs.map fun x => [Value.int k x]).flatten = xs.map (Value.int k)
  | [] => rfl
  | x :: xs => by rw [List.map_cons, List.flatten_cons, flat_ints k xs]; rfl
theorem ownE_ints {k : IntKind} {Z : Zone} {w : World} {B n : Nat} {ty : TypeId} {v : Value} {xs : List Int} (h : w.ownsRow B ty 1 v n (xs.map (Value.int k))) : OwnE (intE k) Z w B ty v xs := by
  have hn : xs.length = n := by have := h.1; simpa using this
  subst hn
  refine ⟨xs.map fun x => [.int k x], ?_, by simp, fun i hi => ?_⟩
  · rw [flat_ints]
    exact h
  · show _ = _
    simp [List.getD, List.getElem?_eq_getElem hi, intE]
theorem OwnE.ints {k : IntKind} {Z : Zone} {w : World} {B : Nat} {ty : TypeId} {v : Value} {xs : List Int} (h : OwnE (intE k) Z w B ty v xs) : w.ownsRow B ty 1 v xs.length (xs.map (Value.int k)) := by
  obtain ⟨CS, h1, h2, h3⟩ := h
  have e : CS.flatten = xs.map (Value.int k) := by
    apply List.ext_getElem?
    intro i
    have hls : ∀ C ∈ CS, C.length = 1 := own_lens h2 h3
    by_cases hi : i < xs.length
    · have := flat_at hls i 0 (by omega) (by omega)
      rw [Nat.mul_one, Nat.add_zero] at this
      rw [this, show CS.getD i [] = [.int k (xs.getD i 0)] from h3 i hi]
      simp [List.getD, List.getElem?_eq_getElem hi]
    · rw [List.getElem?_eq_none (by rw [flat_len hls]; omega), List.getElem?_eq_none (by simp; omega)]
  rw [← e]
  exact h1
/-- A block that was just laid. -/
theorem OwnE.lit (w : World) (E : Elem α) (CS : List (List Value)) (L : List α) (n : Nat) (hn : L.length = n) (hl : CS.length = n) (hb : B ≤ w.heap.size) (hm : n ≤ maxLen) (hr : ∀ i, i < n → E.rep Z w (CS.getD i []) (L.getD i E.zero)) (C : Array Value) (hC : C = CS.flatten.toArray) :
    OwnE E Z (w.alloc (.cells C ty)) B ty (.slice (some ⟨w.heap.size, 0, none⟩) n n) L := by
  subst hC hn
  have hls := own_lens hl hr
  refine ⟨CS, ?_, hl, fun i hi => E.keep (Z := fun b => Z b ∧ b < w.heap.size) (.all ((Below.refl _ _).alloc (Nat.le_refl _) _) _) (fun b hb hz => ⟨hz.1, fun e => ?_⟩) (E.keep (.refl _ _) (fun b hb hz => ⟨hz, hb⟩) (hr i hi))⟩
  · have := World.ownsRow_lit (base := B) (e := ty) (size := E.size) w CS.flatten.toArray L.length hb hm (by simp only [List.size_toArray]; rw [flat_len hls, hl])
    simpa using this
  · simp only [Value.ownBlock, Option.some.injEq] at e
    omega
end
end Go.Proofs.YtoeggiplcaegoaaGreatDoor
/- Appends to a row of the call's own, of whatever elements. Of no program. -/
namespace Go.Proofs.YtoeggiplcaegoaaGreatDoor
open Go.RowKit Go.ChangeShapes Go.WideShapes
theorem run_append_full {P : Program} (w : World) (base : Nat) (t ty e : TypeId) (i : TypeInfo) (z : Value) (size bytes : Nat) (ht : P.underlying t = some (.slice e)) (hi : P.info? e = some i) (hz : i.zero = some z)
    (hsize : i.size = size) (hby : i.bytes = bytes) (hzs : z.cells.size = size) (hsz : 0 < size)
    (v : Value) (n : Nat) (xs : List Value) (hown : w.ownsRow base e size v n xs)
    (a : Addr) (m c : Nat) (news : List Value) (hl : news.length = m * size) (hnews : ∀ j u, news[j]? = some u → w.cell? (a.add j) = some u) (h1 : ∀ u ∈ news, u.oneCell' = true)
    (h63 : n + m ≤ maxLen) (hbytes : (n + m) * bytes ≤ 140737488355328) (hbase : base ≤ w.heap.size) :
    ∃ v' w', (Builtin.append_ #[t, t] ty #[v, .slice (some a) m c]).run P w = .ok v' w' ∧ w'.ownsRow base e size v' (n + m) (xs ++ news) ∧ w.grownBy w' v.ownBlock ∧ ∀ b, b < w.heap.size → v.ownBlock ≠ some b → v'.ownBlock ≠ some b := by
  have hsmall : n + m ≤ 9223372036854775807 := by simp only [maxLen] at h63; omega
  rcases id hown.2 with ⟨rfl, rfl⟩ | ⟨g, cap, cur, rfl, hb, hg, hnc, hcm, hcs, htk⟩
  · have hx : xs = [] := List.eq_nil_of_length_eq_zero (by simpa using hown.1)
    subst hx
    obtain ⟨v', w', hr, h2, h3, _⟩ := run_append_own (P := P) w w.heap.size t ty e i z size bytes ht hi hz hsize hby hzs hsz _ 0 [] (World.ownsRow_nil _ _ _ _) a m c news hl hnews h1 h63 hbytes (Nat.le_refl _)
    refine ⟨v', w', hr, ⟨h2.1, ?_⟩, h3, fun b hb _ e => by have := (h2.lt b e).1; omega⟩
    rcases h2.2 with h | ⟨g, cap, cur, rfl, hg, rest⟩
    · exact .inl h
    · exact .inr ⟨g, cap, cur, rfl, by omega, rest⟩
  · by_cases hroom : n + m ≤ cap
    · obtain ⟨w2, hr2, h4, h5⟩ := run_append_fits (P := P) w base t ty e i size ht hi hsize g n cap xs hown a m c news hl hnews h1 hroom
      exact ⟨_, _, hr2, h4, h5, fun b _ hn => hn⟩
    · obtain ⟨v', w', hr, h2, h3, _⟩ := run_append_own (P := P) w base t ty e i z size bytes ht hi hz hsize hby hzs hsz _ n xs hown a m c news hl hnews h1 h63 hbytes hbase
      subst hsize
      subst hby
      have hr2 := run_append_grow (P := P) w t ty e i z ht hi hz ⟨g, 0, none⟩ n cap xs hown.1 (hown.cells (g := g) rfl) a m c news hl hnews (by omega) (by omega) (growslice_fits (by omega) hbytes)
      rw [hr2] at hr
      cases hr
      refine ⟨_, _, hr2, h2, h3, fun b hb _ e => ?_⟩
      simp [Value.ownBlock] at e
      omega
section
variable {α : Type} {E : Elem α} {Z Y : Zone} {w w' : World} {v u : Value} {L M : List α} {B : Nat} {ty : TypeId}
theorem getD_app {β : Type} (xs ys : List β) (d : β) (i : Nat) : (xs ++ ys).getD i d = if i < xs.length then xs.getD i d else ys.getD (i - xs.length) d := by
  simp only [List.getD]
  split <;> rename_i h
  · rw [List.getElem?_append_left h]
  · rw [List.getElem?_append_right (by omega)]
/-- An append of a held list. -/
theorem run_append_e {P : Program} (t tt : TypeId) (z : Value) (bytes : Nat) (ht : P.underlying t = some (.slice ty)) (hinfo : (P.info? ty).map (fun i => (i.zero, i.size, i.bytes)) = some (some z, E.size, bytes)) (hzs : z.cells.size = E.size) (h0 : 0 < E.size)
    (hv : OwnE E Z w B ty v L) (hu : HeldE E (fun b => Z b ∧ v.ownBlock ≠ some b) w u M) (hn : (L.length + M.length) * bytes ≤ 140737488355328) (hn0 : L.length + M.length ≤ 140737488355328) (hB : B ≤ w.heap.size) :
    ∃ v' w', (Builtin.append_ #[t, t] tt #[v, u]).run P w = .ok v' w' ∧ OwnE E Z w' B ty v' (L ++ M) ∧ Below B w w' ∧ KeepZ (fun b => v.ownBlock ≠ some b) w w' ∧ ∀ b, b < w.heap.size → v.ownBlock ≠ some b → v'.ownBlock ≠ some b := by
  obtain ⟨i0, hi, hz0, hz1, hz2⟩ := info_parts hinfo
  obtain ⟨CS, h1, h2, h3⟩ := id hv
  obtain ⟨ao, cap, rfl, hlc, _, hnn, hc⟩ := id hu
  cases ao with
  | none =>
    obtain ⟨rfl, rfl⟩ := hnn rfl
    have hr := run_append_owned_none (P := P) w B t tt ty i0 E.size ht hi v L.length CS.flatten h1
    exact ⟨v, w, hr, by simpa using hv, Below.refl _ _, .refl _ _, fun _ _ h => h⟩
  | some ad =>
    obtain ⟨DS, d1, _, d3, d4⟩ := hu.news h0
    have hls := own_lens d1 d4
    have hls1 := own_lens h2 h3
    obtain ⟨v', w', hr, k1, k2, k3⟩ := run_append_full (P := P) w B t tt ty i0 z E.size bytes ht hi hz0 hz1 hz2 hzs h0 v L.length CS.flatten h1 ad M.length cap DS.flatten (by rw [flat_len hls, d1]) d3 (own_ones d1 d4) (by unfold maxLen; omega) hn hB
    have kz : KeepZ (fun b => v.ownBlock ≠ some b) w w' := .grown k2
    refine ⟨v', w', hr, ⟨CS ++ DS, ?_, by simp [h2, d1], fun i hi => ?_⟩, (Below.refl B w).grown k2 hB fun k hk => (hv.lt k hk).1, kz, k3⟩
    · rw [List.flatten_append, List.length_append]
      exact k1
    · rw [getD_app, getD_app, h2]
      simp only [List.length_append] at hi
      split
      · rename_i hlt
        exact E.keep (kz.mono fun b _ hz => hz.2) (fun b hb hz => ⟨hz.1, k3 b hb hz.2⟩) (h3 i hlt)
      · rename_i hge
        exact E.keep (kz.mono fun b _ hz => hz.2) (fun b hb hz => ⟨hz.1, k3 b hb hz.2⟩) (d4 (i - L.length) (by omega))
/-- What lies below the row's base is apart from it. -/
theorem HeldE.apart {B : Nat} (h : HeldE E (fun b => b < B) w u M) (ho : ∀ k, v.ownBlock = some k → B ≤ k ∧ k < w'.heap.size) : HeldE E (fun b => True ∧ v.ownBlock ≠ some b) w u M := h.zone fun b _ hz => ⟨trivial, fun e => by have := (ho b e).1; omega⟩
/-- A block that was just laid, of one element. -/
theorem heldE_one (C : List Value) (x : α) (hr : E.rep Y w C x) (hy : ∀ b, b < w.heap.size → Y b → Z b) (hz : Z w.heap.size) : HeldE E Z (w.alloc (.cells C.toArray ty)) (.slice (some ⟨w.heap.size, 0, none⟩) 1 1) [x] := by
  refine ⟨_, 1, rfl, Nat.le_refl _, (by decide), (fun h => by cases h), fun i hi => ?_⟩
  have hi0 : i = 0 := by simpa using hi
  subst hi0
  refine ⟨w.heap.size, 0, rfl, by simp, hz, C, fun j hj => ?_, ?_⟩
  · rw [cell_of_row (w.alloc (.cells C.toArray ty)) w.heap.size (0 + 0 * E.size + j) C.toArray ty (0, 0) (heap_alloc_new w _)]
    simp
  · exact E.keep (.all ((Below.refl _ _).alloc (Nat.le_refl _) _) Y) hy hr
end
section
variable {P : Program} {α : Type} {E : Elem α} {Z Y : Zone} {w : World} {v u : Value} {L M : List α} {B : Nat} {ty : TypeId}
theorem exec_app {ρ : Operand → Value} {o : Oper} {s x : Operand} {t : TypeId} {w w' : World} {v u v' : Value} (ho : o.op = .call { callee := .builtin .append, args := #[s, x], argTypes := #[t, t] }) (hs : ρ s = v) (hx : ρ x = u)
    (hr : (Builtin.append_ #[t, t] o.type #[v, u]).run P w = .ok v' w') : (execOp ρ o).run P w = .ok (.value v') w' := by
  unfold execOp
  simp only [ho, resolve, invoke, builtin, Sem.run_bind, Sem.run_pure, Result.andThen_ok, List.map_toArray, List.map_cons, List.map_nil, hs, hx, hr]
theorem wpList_of_exec {ops : Array Oper} {rest : List Oper} {o : Oper} {a : Act} {Q : Exit → Act → World → Prop} {w w' : World} {v : Value} (hgd : o.guard = none) (he : (execOp a.eval o).run P w = .ok (.value v) w') (h : wpList P ops Q rest (a.put o.dst v) w') : wpList P ops Q (o :: rest) a w := by
  refine wpList_plain hgd fun K hK => ?_
  unfold Oper.wp
  rw [he]
  exact hK _ _ h
/-- 'append(v, u...)'. -/
theorem wpList_append_e {ops : Array Oper} {rest : List Oper} {o : Oper} {a : Act} {Q : Exit → Act → World → Prop} (hgd : o.guard = none) (s x : Operand) (t : TypeId)
    (ho : o.op = .call { callee := .builtin .append, args := #[s, x], argTypes := #[t, t] })
    (z : Value) (bytes : Nat) (ht : P.underlying t = some (.slice ty)) (hinfo : (P.info? ty).map (fun i => (i.zero, i.size, i.bytes)) = some (some z, E.size, bytes)) (hzs : z.cells.size = E.size) (h0 : 0 < E.size)
    (hs : a.eval s = v) (hx : a.eval x = u) (hv : OwnE E Z w B ty v L) (hu : HeldE E (fun b => Z b ∧ v.ownBlock ≠ some b) w u M) (hn : (L.length + M.length) * bytes ≤ 140737488355328) (hn0 : L.length + M.length ≤ 140737488355328) (hB : B ≤ w.heap.size)
    (h : ∀ v' w', OwnE E Z w' B ty v' (L ++ M) → Below B w w' → KeepZ (fun b => v.ownBlock ≠ some b) w w' → (∀ b, b < w.heap.size → v.ownBlock ≠ some b → v'.ownBlock ≠ some b) → wpList P ops Q rest (a.put o.dst v') w') :
    wpList P ops Q (o :: rest) a w := by
  obtain ⟨v', w', hr, h1, h2, h3, h4⟩ := run_append_e (P := P) t o.type z bytes ht hinfo hzs h0 hv hu hn hn0 hB
  refine wpList_of_exec hgd ?_ (h v' w' h1 h2 h3 h4)
  exact exec_app ho hs hx hr
end
end Go.Proofs.YtoeggiplcaegoaaGreatDoor
/- A row of numbers copied onto an empty one of the call's own. -/
namespace Go.Proofs.YtoeggiplcaegoaaGreatDoor
open Go.RowKit Go.ChangeShapes Go.WideShapes
end Go.Proofs.YtoeggiplcaegoaaGreatDoor
/- Contracts of octet's functions and of the reference's. -/
namespace Go.Proofs.YtoeggiplcaegoaaGreatDoor
open Go.RowKit Go.ChangeShapes Go.WideShapes
def leadI (b : Int) : Int := if b ≤ 127 then 1 else if b < 194 then 0 else if b ≤ 223 then 2 else if b ≤ 239 then 3 else if b ≤ 244 then 4 else 0
theorem lead_cases (b : Int) : (b ≤ 127 ∧ leadI b = 1) ∨ (127 < b ∧ b < 194 ∧ leadI b = 0) ∨ (194 ≤ b ∧ b ≤ 223 ∧ leadI b = 2) ∨ (224 ≤ b ∧ b ≤ 239 ∧ leadI b = 3) ∨ (240 ≤ b ∧ b ≤ 244 ∧ leadI b = 4) ∨ (244 < b ∧ leadI b = 0) := by
  unfold leadI; omega
theorem lead_any (b : Int) (w : World) (h0 : 0 ≤ b) (h1 : b ≤ 255) : Calls Tryz.prog 206 #[.int .u8 b] w fun e w' => e = .returned (.int .i64 (leadI b)) ∧ w = w' := by
  rcases lead_cases b with ⟨h2, hs⟩ | ⟨h2, h3, hs⟩ | ⟨h2, h3, hs⟩ | ⟨h2, h3, hs⟩ | ⟨h2, h3, hs⟩ | ⟨h2, hs⟩
  all_goals
    rw [hs]; clear hs
    go_enter Tryz.func206, Tryz.ntmps206
    go_wp2
    go_ret
    exact ⟨rfl, rfl⟩
def tailO (b : Int) : Bool := decide (128 ≤ b) && decide (b ≤ 191)
theorem tail_any (b : Int) (w : World) (h0 : 0 ≤ b) (h1 : b ≤ 255) : Calls Tryz.prog 250 #[.int .u8 b] w fun e w' => e = .returned (.bool (tailO b)) ∧ w = w' := by
  have hv : (b < 128 ∧ tailO b = false) ∨ (128 ≤ b ∧ b ≤ 191 ∧ tailO b = true) ∨ (191 < b ∧ tailO b = false) := by unfold tailO; simp; omega
  rcases hv with ⟨h2, hs⟩ | ⟨h2, h3, hs⟩ | ⟨h2, hs⟩
  all_goals
    rw [hs]; clear hs
    go_enter Tryz.func250, Tryz.ntmps250
    go_wp2
    go_ret
    exact ⟨ret_eq (by first | rfl | (simp; omega)), rfl⟩
def bitsI (b : Int) : Int := if leadI b = 1 then b else if leadI b = 2 then b % 32 else if leadI b = 3 then b % 16 else if leadI b = 4 then b % 8 else 0
theorem bits_any (b : Int) (w : World) (h0 : 0 ≤ b) (h1 : b ≤ 255) : Calls Tryz.prog 252 #[.int .u8 b] w fun e w' => e = .returned (.int .i64 (bitsI b)) ∧ w = w' := by
  rcases lead_cases b with ⟨h2, hs⟩ | ⟨h2, h3, hs⟩ | ⟨h2, h3, hs⟩ | ⟨h2, h3, hs⟩ | ⟨h2, h3, hs⟩ | ⟨h2, hs⟩
  all_goals
    have hb : bitsI b = bitsI b := rfl
    conv at hb => rhs; unfold bitsI; rw [hs]
    simp at hb
    rw [hb]; clear hb
    have HS := Lib.hid hs
    clear hs
    go_enter Tryz.func252, Tryz.ntmps252
    go_wp2_with fail
    refine (lead_any b _ h0 h1).mono ?_
    rintro e w' ⟨rfl, rfl⟩
    rw [HS.out]
    go_wp2
    go_ret
    exact ⟨rfl, rfl⟩
def lo2 (b : Int) : Int := if leadI b < 2 then 0 else if b = 224 then 160 else if b = 240 then 144 else 128
def hi2 (b : Int) : Int := if leadI b < 2 then 0 else if b = 244 then 143 else if b = 237 then 159 else 191
theorem lowest_any (b : Int) (w : World) (h0 : 0 ≤ b) (h1 : b ≤ 255) (hl : 2 ≤ leadI b) : Calls Tryz.prog 286 #[.int .u8 b] w fun e w' => e = .returned (.int .u8 (lo2 b)) ∧ w = w' := by
  have hv : (b = 224 ∧ lo2 b = 160) ∨ (b = 240 ∧ lo2 b = 144) ∨ (b ≠ 224 ∧ b ≠ 240 ∧ lo2 b = 128) := by unfold lo2; omega
  clear hl
  rcases hv with ⟨rfl, hs⟩ | ⟨rfl, hs⟩ | ⟨h2, h3, hs⟩
  all_goals
    rw [hs]; clear hs
    go_enter Tryz.func286, Tryz.ntmps286
    go_wp2
    go_ret
    exact ⟨rfl, rfl⟩
theorem highest_any (b : Int) (w : World) (h0 : 0 ≤ b) (h1 : b ≤ 255) (hl : 2 ≤ leadI b) : Calls Tryz.prog 287 #[.int .u8 b] w fun e w' => e = .returned (.int .u8 (hi2 b)) ∧ w = w' := by
  have hv : (b = 244 ∧ hi2 b = 143) ∨ (b = 237 ∧ hi2 b = 159) ∨ (b ≠ 244 ∧ b ≠ 237 ∧ hi2 b = 191) := by unfold hi2; omega
  clear hl
  rcases hv with ⟨rfl, hs⟩ | ⟨rfl, hs⟩ | ⟨h2, h3, hs⟩
  all_goals
    rw [hs]; clear hs
    go_enter Tryz.func287, Tryz.ntmps287
    go_wp2
    go_ret
    exact ⟨rfl, rfl⟩
theorem second_any (b : Int) (w : World) (h0 : 0 ≤ b) (h1 : b ≤ 255) : Calls Tryz.prog 251 #[.int .u8 b] w fun e w' => e = .returned (.tuple #[.int .u8 (lo2 b), .int .u8 (hi2 b)]) ∧ w = w' := by
  by_cases hl : 2 ≤ leadI b
  · have H := Lib.hid hl
    go_enter Tryz.func251, Tryz.ntmps251
    go_wp2_with fail
    refine (lead_any b _ h0 h1).mono ?_
    rintro e w' ⟨rfl, rfl⟩
    go_wp2_with fail
    refine (lowest_any b _ h0 h1 H.out).mono ?_
    rintro e w' ⟨rfl, rfl⟩
    go_wp2_with fail
    refine (highest_any b _ h0 h1 H.out).mono ?_
    rintro e w' ⟨rfl, rfl⟩
    go_wp2
    go_ret2
    exact ⟨rfl, rfl⟩
  · have e1 : lo2 b = 0 := by unfold lo2; omega
    have e2 : hi2 b = 0 := by unfold hi2; omega
    rw [e1, e2]; clear e1 e2
    go_enter Tryz.func251, Tryz.ntmps251
    go_wp2_with fail
    refine (lead_any b _ h0 h1).mono ?_
    rintro e w' ⟨rfl, rfl⟩
    go_wp2
    go_ret2
    exact ⟨rfl, rfl⟩
end Go.Proofs.YtoeggiplcaegoaaGreatDoor
/- What comes in reads as a list, of whatever elements. Of no program. -/
namespace Go.Proofs.YtoeggiplcaegoaaGreatDoor
open Go.RowKit Go.ChangeShapes Go.WideShapes
open Go.Deep
section
variable {P : Program} {α β γ : Type} {E : Elem α} {F : Elem β} {G : Elem γ} {ok : α → Prop} {ok' : β → Prop} {ok'' : γ → Prop} {t e : TypeId}
end
end Go.Proofs.YtoeggiplcaegoaaGreatDoor
/- Contracts of pairs' functions and of the reference's. -/
namespace Go.Proofs.YtoeggiplcaegoaaGreatDoor
open Go.RowKit Go.ChangeShapes Go.WideShapes
def clI (n : Int) : Int := if n < 0 ∨ 13 < n then 0 else n
theorem clI_bd (n : Int) : 0 ≤ clI n ∧ clI n ≤ 13 := by unfold clI; omega
theorem class14_any (n : Int) (w : World) : Calls Tryz.prog 283 #[.int .i64 n] w fun e w' => e = .returned (.int .i64 (clI n)) ∧ w = w' := by
  have hv : (n < 0 ∧ clI n = 0) ∨ (0 ≤ n ∧ n ≤ 13 ∧ clI n = n) ∨ (13 < n ∧ clI n = 0) := by unfold clI; omega
  rcases hv with ⟨h2, hs⟩ | ⟨h2, h3, hs⟩ | ⟨h2, hs⟩
  all_goals
    rw [hs]; clear hs
    go_enter Tryz.func283, Tryz.ntmps283
    go_wp2
    go_ret
    exact ⟨(ret_eq (by first | rfl | (simp <;> omega))), rfl⟩
def brB (n : Int) : Bool := decide (1 ≤ n) && decide (n ≤ 3)
theorem brB_cases (n : Int) : (n = 1 ∧ brB n = true) ∨ (n = 2 ∧ brB n = true) ∨ (n = 3 ∧ brB n = true) ∨ (n ≠ 1 ∧ n ≠ 2 ∧ n ≠ 3 ∧ brB n = false) := by unfold brB; simp; omega
theorem breaks_any (n : Int) (w : World) : Calls Tryz.prog 284 #[.int .i64 n] w fun e w' => e = .returned (.bool (brB n)) ∧ w = w' := by
  rcases brB_cases n with ⟨rfl, hs⟩ | ⟨rfl, hs⟩ | ⟨rfl, hs⟩ | ⟨h1, h2, h3, hs⟩
  all_goals
    rw [hs]; clear hs
    go_enter Tryz.func284, Tryz.ntmps284
    go_wp2
    go_ret
    exact ⟨(ret_eq (by first | rfl | (simp <;> omega))), rfl⟩
def sylB (a b : Int) : Bool :=
  if a = 9 then decide (b = 9 ∨ b = 10 ∨ b = 12 ∨ b = 13)
  else if a = 12 ∨ a = 10 then decide (b = 10 ∨ b = 11)
  else if a = 13 ∨ a = 11 then decide (b = 11) else false
theorem sylB_cases (a b : Int) : (a = 9 ∧ b = 9 ∧ sylB a b = true) ∨ (a = 9 ∧ b = 10 ∧ sylB a b = true) ∨ (a = 9 ∧ b = 12 ∧ sylB a b = true) ∨ (a = 9 ∧ b = 13 ∧ sylB a b = true) ∨ (a = 9 ∧ b ≠ 9 ∧ b ≠ 10 ∧ b ≠ 12 ∧ b ≠ 13 ∧ sylB a b = false)
    ∨ ((a = 12 ∨ a = 10) ∧ b = 10 ∧ sylB a b = true) ∨ ((a = 12 ∨ a = 10) ∧ b = 11 ∧ sylB a b = true) ∨ ((a = 12 ∨ a = 10) ∧ b ≠ 10 ∧ b ≠ 11 ∧ sylB a b = false)
    ∨ ((a = 13 ∨ a = 11) ∧ b = 11 ∧ sylB a b = true) ∨ ((a = 13 ∨ a = 11) ∧ b ≠ 11 ∧ sylB a b = false)
    ∨ (a ≠ 9 ∧ a ≠ 10 ∧ a ≠ 11 ∧ a ≠ 12 ∧ a ≠ 13 ∧ sylB a b = false) := by
  unfold sylB
  by_cases h9 : a = 9
  · subst h9; simp; omega
  · by_cases h12 : a = 12 ∨ a = 10
    · simp [h9, h12]; omega
    · by_cases h13 : a = 13 ∨ a = 11
      · simp [h9, h12, h13]; omega
      · simp [h9, h12, h13]; omega
theorem syl_any (a b : Int) (w : World) : Calls Tryz.prog 285 #[.int .i64 a, .int .i64 b] w fun e w' => e = .returned (.bool (sylB a b)) ∧ w = w' := by
  rcases sylB_cases a b with ⟨rfl, rfl, hs⟩ | ⟨rfl, rfl, hs⟩ | ⟨rfl, rfl, hs⟩ | ⟨rfl, rfl, hs⟩ | ⟨rfl, h1, h2, h3, h4, hs⟩ | ⟨rfl | rfl, rfl, hs⟩ | ⟨rfl | rfl, rfl, hs⟩ | ⟨rfl | rfl, h1, h2, hs⟩ | ⟨rfl | rfl, rfl, hs⟩ | ⟨rfl | rfl, h1, hs⟩ | ⟨h1, h2, h3, h4, h5, hs⟩
  all_goals
    rw [hs]; clear hs
    go_enter Tryz.func285, Tryz.ntmps285
    go_wp2
    go_ret
    exact ⟨(ret_eq (by first | rfl | (simp <;> omega))), rfl⟩
/-- Whether two classes go together. -/
def pairI (a b : Int) : Int :=
  if a = 1 ∧ b = 2 then 1 else if brB a = true ∨ brB b = true then 0 else if sylB a b = true then 1
  else if b = 4 ∨ b = 5 ∨ b = 8 ∨ a = 7 then 1 else if (b = 0 ∧ (a = 5 ∨ a = 4)) ∨ (a = 6 ∧ b = 6) then 2 else 0
def joinI (a b : Int) : Int := pairI (clI a) (clI b)
theorem pairI_cases (a b : Int) : (a = 1 ∧ b = 2 ∧ pairI a b = 1) ∨ (¬ (a = 1 ∧ b = 2) ∧ brB a = true ∧ pairI a b = 0) ∨ (a ≠ 1 ∧ brB a = false ∧ brB b = true ∧ pairI a b = 0)
    ∨ (a ≠ 1 ∧ brB a = false ∧ brB b = false ∧ sylB a b = true ∧ pairI a b = 1) ∨ (a ≠ 1 ∧ brB a = false ∧ brB b = false ∧ sylB a b = false ∧ pairI a b = (if b = 4 ∨ b = 5 ∨ b = 8 ∨ a = 7 then 1 else if (b = 0 ∧ (a = 5 ∨ a = 4)) ∨ (a = 6 ∧ b = 6) then 2 else 0)) := by
  unfold pairI
  by_cases h : a = 1 ∧ b = 2
  · simp [h]
  · have h1 : brB a = false → a ≠ 1 := by intro hb he; subst he; simp [brB] at hb
    rw [if_neg h]
    cases ha : brB a with
    | true => simp [h]
    | false =>
      have h1 := h1 ha
      cases hb : brB b with
      | true => simp [h1]
      | false =>
        cases hs : sylB a b with
        | true => simp [h1]
        | false => simp [h1]
end Go.Proofs.YtoeggiplcaegoaaGreatDoor
/- pairs.Join: what two classes answer; works of layer 14. -/
namespace Go.Proofs.YtoeggiplcaegoaaGreatDoor
open Go.RowKit Go.ChangeShapes Go.WideShapes
set_option maxRecDepth 100000 in
set_option maxHeartbeats 2000000 in
theorem join_any (a b : Int) (w : World) : Calls Tryz.prog 249 #[.int .i64 a, .int .i64 b] w fun e w' => e = .returned (.int .i64 (joinI a b)) ∧ w = w' := by
  have ka := clI_bd a
  have kb := clI_bd b
  have hj : joinI a b = pairI (clI a) (clI b) := rfl
  rw [hj]
  clear hj
  obtain ⟨x, hx⟩ : ∃ x, x = clI a := ⟨_, rfl⟩
  obtain ⟨y, hy⟩ : ∃ y, y = clI b := ⟨_, rfl⟩
  rw [← hx, ← hy]
  rw [← hx] at ka
  rw [← hy] at kb
  have HX := Lib.hid hx
  have HY := Lib.hid hy
  clear hx hy
  rcases pairI_cases x y with ⟨h1, h2, hs⟩ | ⟨h1, h2, hs⟩ | ⟨h1, h2, h3, hs⟩ | ⟨h1, h2, h3, h4, hs⟩ | ⟨h1, h2, h3, h4, hs⟩
  · subst h1; subst h2
    rw [hs]
    go_enter Tryz.func249, Tryz.ntmps249
    go_wp2_with fail
    refine (class14_any a _).mono ?_
    rintro e w' ⟨rfl, rfl⟩
    rw [← HX.out]
    go_wp2_with fail
    refine (class14_any b _).mono ?_
    rintro e w' ⟨rfl, rfl⟩
    rw [← HY.out]
    go_wp2
    go_ret
    exact ⟨(ret_eq (by first | rfl | (simp <;> omega))), rfl⟩
  · rw [hs]
    have hq : ((x == 1) && (y == 2)) = false := by simp; omega
    have H2 := Lib.hid h2
    clear h2 hs
    by_cases e1 : x = 1
    · have e2 : y ≠ 2 := by omega
      subst e1
      go_enter Tryz.func249, Tryz.ntmps249
      go_wp2_with fail
      refine (class14_any a _).mono ?_
      rintro e w' ⟨rfl, rfl⟩
      rw [← HX.out]
      go_wp2_with fail
      refine (class14_any b _).mono ?_
      rintro e w' ⟨rfl, rfl⟩
      rw [← HY.out]
      go_wp2_with fail
      refine (breaks_any _ _).mono ?_
      rintro e w' ⟨rfl, rfl⟩
      rw [H2.out]
      go_wp2
      go_ret
      exact ⟨(ret_eq (by first | rfl | (simp <;> omega))), rfl⟩
    · clear hq
      have e2 : (x == 1) = false := by simp; omega
      clear e1 h1
      go_enter Tryz.func249, Tryz.ntmps249
      go_wp2_with fail
      refine (class14_any a _).mono ?_
      rintro e w' ⟨rfl, rfl⟩
      rw [← HX.out]
      go_wp2_with fail
      refine (class14_any b _).mono ?_
      rintro e w' ⟨rfl, rfl⟩
      rw [← HY.out]
      go_wp2_with fail
      refine (breaks_any _ _).mono ?_
      rintro e w' ⟨rfl, rfl⟩
      rw [H2.out]
      go_wp2
      go_ret
      exact ⟨(ret_eq (by first | rfl | (simp <;> omega))), rfl⟩
  · rw [hs]
    have H2 := Lib.hid h2
    have H3 := Lib.hid h3
    clear h2 h3 hs
    have e2 : (x == 1) = false := by simp; omega
    clear h1
    go_enter Tryz.func249, Tryz.ntmps249
    go_wp2_with fail
    refine (class14_any a _).mono ?_
    rintro e w' ⟨rfl, rfl⟩
    rw [← HX.out]
    go_wp2_with fail
    refine (class14_any b _).mono ?_
    rintro e w' ⟨rfl, rfl⟩
    rw [← HY.out]
    go_wp2_with fail
    refine (breaks_any _ _).mono ?_
    rintro e w' ⟨rfl, rfl⟩
    rw [H2.out]
    go_wp2_with fail
    refine (breaks_any _ _).mono ?_
    rintro e w' ⟨rfl, rfl⟩
    rw [H3.out]
    go_wp2
    go_ret
    exact ⟨(ret_eq (by first | rfl | (simp <;> omega))), rfl⟩
  · rw [hs]
    have H2 := Lib.hid h2
    have H3 := Lib.hid h3
    have H4 := Lib.hid h4
    clear h2 h3 h4 hs
    have e2 : (x == 1) = false := by simp; omega
    clear h1
    go_enter Tryz.func249, Tryz.ntmps249
    go_wp2_with fail
    refine (class14_any a _).mono ?_
    rintro e w' ⟨rfl, rfl⟩
    rw [← HX.out]
    go_wp2_with fail
    refine (class14_any b _).mono ?_
    rintro e w' ⟨rfl, rfl⟩
    rw [← HY.out]
    go_wp2_with fail
    refine (breaks_any _ _).mono ?_
    rintro e w' ⟨rfl, rfl⟩
    rw [H2.out]
    go_wp2_with fail
    refine (breaks_any _ _).mono ?_
    rintro e w' ⟨rfl, rfl⟩
    rw [H3.out]
    go_wp2_with fail
    refine (syl_any _ _ _).mono ?_
    rintro e w' ⟨rfl, rfl⟩
    rw [H4.out]
    go_wp2
    go_ret
    exact ⟨(ret_eq (by first | rfl | (simp <;> omega))), rfl⟩
  · have H2 := Lib.hid h2
    have H3 := Lib.hid h3
    have H4 := Lib.hid h4
    have HS := Lib.hid hs
    clear h2 h3 h4 hs
    have hc : (y = 4 ∧ pairI x y = 1) ∨ (y = 5 ∧ pairI x y = 1) ∨ (y = 8 ∧ pairI x y = 1) ∨ (x = 7 ∧ y ≠ 4 ∧ y ≠ 5 ∧ y ≠ 8 ∧ pairI x y = 1) ∨ (y = 0 ∧ x = 5 ∧ pairI x y = 2) ∨ (y = 0 ∧ x = 4 ∧ pairI x y = 2) ∨ (x = 6 ∧ y = 6 ∧ pairI x y = 2) ∨ (y = 0 ∧ x ≠ 7 ∧ x ≠ 4 ∧ x ≠ 5 ∧ x ≠ 6 ∧ pairI x y = 0) ∨ (y = 0 ∧ x = 6 ∧ pairI x y = 0) ∨ (y ≠ 4 ∧ y ≠ 5 ∧ y ≠ 8 ∧ x ≠ 7 ∧ y ≠ 0 ∧ x ≠ 6 ∧ pairI x y = 0) ∨ (y ≠ 4 ∧ y ≠ 5 ∧ y ≠ 8 ∧ x = 6 ∧ y ≠ 6 ∧ y ≠ 0 ∧ pairI x y = 0) := by
      rw [HS.out]
      by_cases a1 : y = 4
      · exact .inl ⟨a1, by rw [if_pos (.inl a1)]⟩
      by_cases a2 : y = 5
      · exact .inr (.inl ⟨a2, by rw [if_pos (.inr (.inl a2))]⟩)
      by_cases a3 : y = 8
      · exact .inr (.inr (.inl ⟨a3, by rw [if_pos (.inr (.inr (.inl a3)))]⟩))
      by_cases a4 : x = 7
      · exact .inr (.inr (.inr (.inl ⟨a4, a1, a2, a3, by rw [if_pos (.inr (.inr (.inr a4)))]⟩)))
      rw [if_neg (by omega)]
      refine .inr (.inr (.inr (.inr ?_)))
      by_cases a5 : y = 0
      · by_cases b1 : x = 5
        · exact .inl ⟨a5, b1, by rw [if_pos (.inl ⟨a5, .inl b1⟩)]⟩
        by_cases b2 : x = 4
        · exact .inr (.inl ⟨a5, b2, by rw [if_pos (.inl ⟨a5, .inr b2⟩)]⟩)
        rw [if_neg (by omega)]
        by_cases b3 : x = 6
        · exact .inr (.inr (.inr (.inr (.inl ⟨a5, b3, rfl⟩))))
        · exact .inr (.inr (.inr (.inl ⟨a5, a4, b2, b1, b3, rfl⟩)))
      · by_cases b3 : x = 6
        · by_cases b4 : y = 6
          · exact .inr (.inr (.inl ⟨b3, b4, by rw [if_pos (.inr ⟨b3, b4⟩)]⟩))
          · rw [if_neg (by omega)]
            exact .inr (.inr (.inr (.inr (.inr (.inr ⟨a1, a2, a3, b3, b4, a5, rfl⟩)))))
        · rw [if_neg (by omega)]
          exact .inr (.inr (.inr (.inr (.inr (.inl ⟨a1, a2, a3, a4, a5, b3, rfl⟩)))))
    have HC := Lib.hid hc
    have e2 : (x == 1) = false := by simp; omega
    clear hc HS
    go_enter Tryz.func249, Tryz.ntmps249
    go_wp2_with fail
    refine (class14_any a _).mono ?_
    rintro e w' ⟨rfl, rfl⟩
    rw [← HX.out]
    go_wp2_with fail
    refine (class14_any b _).mono ?_
    rintro e w' ⟨rfl, rfl⟩
    rw [← HY.out]
    go_wp2_with fail
    refine (breaks_any _ _).mono ?_
    rintro e w' ⟨rfl, rfl⟩
    rw [H2.out]
    go_wp2_with fail
    refine (breaks_any _ _).mono ?_
    rintro e w' ⟨rfl, rfl⟩
    rw [H3.out]
    go_wp2_with fail
    refine (syl_any _ _ _).mono ?_
    rintro e w' ⟨rfl, rfl⟩
    rw [H4.out]
    clear HX HY H2 H3 H4
    rcases HC.out with ⟨g1, hs⟩ | ⟨g1, hs⟩ | ⟨g1, hs⟩ | ⟨g1, g2, g3, g4, hs⟩ | ⟨g1, g2, hs⟩ | ⟨g1, g2, hs⟩ | ⟨g1, g2, hs⟩ | ⟨g1, g2, g3, g4, g5, hs⟩ | ⟨g1, g2, hs⟩ | ⟨g1, g2, g3, g4, g5, g6, hs⟩ | ⟨g1, g2, g3, g4, g5, g6, hs⟩
    all_goals
      clear HC
      have HS := Lib.hid hs
      clear hs
      try subst g1
      try subst g2
      try subst g4
      try have t1 : (x == 1) = false := by simp; omega
      try have t2 : (x == 7) = false := by simp; omega
      try have t3 : (x == 5) = false := by simp; omega
      try have t4 : (x == 4) = false := by simp; omega
      try have t5 : (x == 6) = false := by simp; omega
      try have t6 : (y == 2) = false := by simp; omega
      try have t7 : (y == 4) = false := by simp; omega
      try have t8 : (y == 5) = false := by simp; omega
      try have t9 : (y == 8) = false := by simp; omega
      try have t10 : (y == 0) = false := by simp; omega
      try have t11 : (y == 6) = false := by simp; omega
      clear ka kb
      try clear g1
      try clear g2
      try clear g3
      try clear g4
      try clear g5
      try clear g6
      try clear h1
      go_wp2
      go_ret
      exact ⟨ret_eq (by rw [HS.out]; rfl), rfl⟩
end Go.Proofs.YtoeggiplcaegoaaGreatDoor
/- Contracts of the reference's functions of layer 14; pairs.Join; works. -/
namespace Go.Proofs.YtoeggiplcaegoaaGreatDoor
open Go.RowKit Go.ChangeShapes Go.WideShapes
end Go.Proofs.YtoeggiplcaegoaaGreatDoor
/- Regions that draw their order, walked operation by operation, in whatever order: each operation's value is told by a relation that later ones keep. Of no program. -/
namespace Go.Proofs.YtoeggiplcaegoaaGreatDoor
open Go.RowKit Go.ChangeShapes Go.WideShapes
namespace Reg
/-- What an operation that was carried out has left. -/
def upon (P : Program) (Post : Value → World → Prop) : Result Next → Prop
  | .ok (.value u) w' => Post u w'
  | .ok .skip w' => Post undef w'
  | .ok (.enter f args) w' => Calls P f args w' (fun e w'' => ∃ v, e = .returned v ∧ Post v w'')
  | _ => False
/-- A region's plan: the frame by its values, what each value is, what the world is, what an operation may do to it. -/
structure Plan where
  F : (Nat → Value) → Act
  E : Nat → Value → World → Prop
  C : Array Bool → World → Prop
  Ext : World → World → Prop
  stable : ∀ j x w w', Ext w w' → E j x w → E j x w'
def upd (xs : Nat → Value) (i : Nat) (v : Value) : Nat → Value := fun j => if j = i then v else xs j
/-- What is done has what it waits for done. -/
def Closed (l : List Oper) (L : Array Bool) : Prop := ∀ j o, l[j]? = some o → L.getD j false = true → ∀ e ∈ o.after, Region.binds .any e = true → L.getD e.on false = true
theorem Closed.next {l : List Oper} {L : Array Bool} {i : Nat} (h : Closed l L) (hr : i ∈ Region.ready .any l.toArray L) : Closed l (L.setIfInBounds i true) := by
  intro j o ho hl e he hb
  by_cases hij : i = j
  · subst hij
    obtain ⟨_, o', ho', hall⟩ := mem_ready.1 hr
    obtain rfl : o = o' := Option.some.inj (ho.symm.trans (by simpa using ho'))
    exact getD_set_true (hall e he hb)
  · rw [getD_set_ne false hij] at hl
    exact getD_set_true (h j o ho hl e he hb)
theorem Closed.start (l : List Oper) (n : Nat) : Closed l (Array.replicate n false) := fun j o _ hl => by rw [getD_replicate_false] at hl; cases hl
/-- Operation i waits for j, in at most so many steps. -/
def reach (ops : Array Oper) : Nat → Nat → Nat → Bool
  | 0, _, _ => false
  | f + 1, i, j => Region.waitsFor .any ops i j || match ops[i]? with
    | some o => o.after.any fun e => Region.binds .any e && reach ops f e.on j
    | none => false
theorem Closed.reach {l : List Oper} {L : Array Bool} (h : Closed l L) : ∀ (f i j : Nat), L.getD i false = true → reach l.toArray f i j = true → L.getD j false = true
  | 0, _, _, _, hr => by simp [Reg.reach] at hr
  | f + 1, i, j, hi, hr => by
    unfold Reg.reach at hr
    rw [Bool.or_eq_true] at hr
    rcases hr with hr | hr
    · obtain ⟨o, ho, e, he, hb, hon⟩ := Region.waitsFor_spec hr
      rw [← hon]
      exact h i o (by simpa using ho) hi e he hb
    · cases ho : l.toArray[i]? with
      | none => rw [ho] at hr; cases hr
      | some o =>
        rw [ho] at hr
        obtain ⟨e, he, hb⟩ := Array.any_eq_true'.1 hr
        rw [Bool.and_eq_true] at hb
        exact Closed.reach h f e.on j (h i o (by simpa using ho) hi e he hb.1) hb.2
/-- What is known when operation i comes up. -/
structure Here (p : Plan) (l : List Oper) (xs0 : Nat → Value) (i : Nat) (L : Array Bool) (w : World) (xs : Nat → Value) : Prop where
  size : L.size = l.length
  closed : Closed l L
  ready : i ∈ Region.ready .any l.toArray L
  cls : p.C L w
  vals : ∀ j, j < l.length → L.getD j false = true → p.E j (xs j) w
  olds : ∀ j, L.getD j false = false → xs j = xs0 j
theorem Here.dep {p : Plan} {l : List Oper} {xs0 : Nat → Value} {i : Nat} {L : Array Bool} {w : World} {xs : Nat → Value} (h : Here p l xs0 i L w xs) (j : Nat) (hj : reach l.toArray 6 i j = true) : L.getD j false = true := by
  obtain ⟨_, o, ho, hall⟩ := mem_ready.1 h.ready
  unfold reach at hj
  rw [Bool.or_eq_true] at hj
  rcases hj with hj | hj
  · obtain ⟨o', ho', e, he, hb, hon⟩ := Region.waitsFor_spec hj
    obtain rfl : o = o' := Option.some.inj (ho.symm.trans ho')
    rw [← hon]
    exact hall e he hb
  · rw [ho] at hj
    obtain ⟨e, he, hb⟩ := Array.any_eq_true'.1 hj
    rw [Bool.and_eq_true] at hb
    exact h.closed.reach 5 e.on j (hall e he hb.1) hb.2
theorem Here.val {p : Plan} {l : List Oper} {xs0 : Nat → Value} {i : Nat} {L : Array Bool} {w : World} {xs : Nat → Value} (h : Here p l xs0 i L w xs) (j : Nat) (hj : reach l.toArray 6 i j = true) (hl : decide (j < l.length) = true) : p.E j (xs j) w :=
  h.vals j (of_decide_eq_true hl) (h.dep j hj)
theorem Here.un {p : Plan} {l : List Oper} {xs0 : Nat → Value} {i : Nat} {L : Array Bool} {w : World} {xs : Nat → Value} (h : Here p l xs0 i L w xs) : Mix.one L i = 0 := Mix.one_ready h.ready
theorem Here.isDone {p : Plan} {l : List Oper} {xs0 : Nat → Value} {i : Nat} {L : Array Bool} {w : World} {xs : Nat → Value} (h : Here p l xs0 i L w xs) (j : Nat) (hj : reach l.toArray 6 i j = true) : Mix.one L j = 1 := by
  unfold Mix.one
  rw [if_pos (h.dep j hj)]
/-- What waits for this operation is not done. -/
theorem Here.notYet {p : Plan} {l : List Oper} {xs0 : Nat → Value} {i : Nat} {L : Array Bool} {w : World} {xs : Nat → Value} (h : Here p l xs0 i L w xs) (j : Nat) (hj : reach l.toArray 6 j i = true) : L.getD j false = false := by
  cases hl : L.getD j false with
  | false => rfl
  | true =>
    have h1 := h.closed.reach 6 j i hl hj
    have h2 := (mem_ready.1 h.ready).1
    obtain ⟨o', ho', _⟩ := (mem_ready.1 h.ready).2
    have hlt : i < l.length := by simpa using (Array.getElem?_eq_some_iff.1 ho').1
    rw [getD_any (by rw [h.size]; exact hlt), h2] at h1
    cases h1
theorem Here.old {p : Plan} {l : List Oper} {xs0 : Nat → Value} {i : Nat} {L : Array Bool} {w : World} {xs : Nat → Value} (h : Here p l xs0 i L w xs) (j : Nat) (hj : reach l.toArray 6 j i = true) : xs j = xs0 j := h.olds j (h.notYet j hj)
/-- Operation i goes through. -/
def Step (P : Program) (p : Plan) (l : List Oper) (xs0 : Nat → Value) (i : Nat) (o : Oper) : Prop :=
  ∀ L w xs, Here p l xs0 i L w xs →
    (Region.wanted o (yielded l.toArray (p.F xs).tmps) = true ∧ upon P (fun v w' => p.C (L.setIfInBounds i true) w' ∧ p.E i v w' ∧ p.Ext w w') ((execOp (p.F xs).eval o).run P w)) ∨
    (Region.wanted o (yielded l.toArray (p.F xs).tmps) = false ∧ p.C (L.setIfInBounds i true) w ∧ p.E i undef w)
def Steps (P : Program) (p : Plan) (l : List Oper) (xs0 : Nat → Value) : List Oper → Nat → Prop
  | [], _ => True
  | o :: rest, i => Step P p l xs0 i o ∧ Steps P p l xs0 rest (i + 1)
/-- Each operation's slot is its own. -/
def Puts (p : Plan) : List Oper → Nat → Prop
  | [], _ => True
  | o :: rest, i => (∀ xs v, (p.F xs).put o.dst v = p.F (upd xs i v)) ∧ Puts p rest (i + 1)
theorem puts_at {p : Plan} : ∀ (m : List Oper) (k : Nat), Puts p m k → ∀ j o, m[j]? = some o → ∀ xs v, (p.F xs).put o.dst v = p.F (upd xs (k + j) v)
  | [], _, _, j, o, h => by simp at h
  | q :: m, k, hs, j, o, h => by
    cases j with
    | zero => simp at h; subst h; exact hs.1
    | succ j =>
      have := puts_at m (k + 1) hs.2 j o (by simpa using h)
      rwa [show k + 1 + j = k + (j + 1) by omega] at this
theorem steps_at {P : Program} {p : Plan} {l : List Oper} {xs0 : Nat → Value} : ∀ (m : List Oper) (k : Nat), Steps P p l xs0 m k → ∀ j o, m[j]? = some o → Step P p l xs0 (k + j) o
  | [], _, _, j, o, h => by simp at h
  | q :: m, k, hs, j, o, h => by
    cases j with
    | zero => simp at h; subst h; exact hs.1
    | succ j =>
      have := steps_at m (k + 1) hs.2 j o (by simpa using h)
      rwa [show k + 1 + j = k + (j + 1) by omega] at this
section
variable {P : Program} {l : List Oper} {p : Plan} {xs0 : Nat → Value}
/-- The plan holds so far. -/
def Inv (p : Plan) (l : List Oper) (xs0 : Nat → Value) (L : Array Bool) (a : Act) (w : World) : Prop := ∃ xs, a = p.F xs ∧ L.size = l.length ∧ Closed l L ∧ p.C L w ∧ (∀ j, j < l.length → L.getD j false = true → p.E j (xs j) w) ∧ ∀ j, L.getD j false = false → xs j = xs0 j
theorem Inv.next {L : Array Bool} {w w' : World} {xs : Nat → Value} {i : Nat} {o : Oper} {v : Value} (hput : ∀ i o, l[i]? = some o → ∀ xs v, (p.F xs).put o.dst v = p.F (upd xs i v)) (ho : l[i]? = some o) (hs : L.size = l.length) (hc : Closed l (L.setIfInBounds i true))
    (hv : ∀ j, j < l.length → L.getD j false = true → p.E j (xs j) w) (hold : ∀ j, L.getD j false = false → xs j = xs0 j) (hC : p.C (L.setIfInBounds i true) w') (hE : p.E i v w') (hx : ∀ j, p.E j (xs j) w → p.E j (xs j) w') : Inv p l xs0 (L.setIfInBounds i true) ((p.F xs).put o.dst v) w' := by
  refine ⟨upd xs i v, hput i o ho xs v, by simpa using hs, hc, hC, fun j hj hl => ?_, fun j hl => ?_⟩
  · unfold upd
    by_cases h : j = i
    · subst h
      rw [if_pos rfl]; exact hE
    · rw [if_neg h]
      rw [getD_set_ne false (Ne.symm h)] at hl
      exact hx j (hv j hj hl)
  · unfold upd
    by_cases h : j = i
    · subst h
      have hlt : j < L.size := by rw [hs]; exact (List.getElem?_eq_some_iff.1 ho).1
      rw [Array.getD_eq_getD_getElem?, Array.getElem?_setIfInBounds_self_of_lt hlt] at hl
      cases hl
    · rw [if_neg h]
      rw [getD_set_ne false (Ne.symm h)] at hl
      exact hold j hl
theorem wpOp_of {L : Array Bool} {a : Act} {w : World} {i : Nat} {K' : Act → World → Prop} {Q' : Exit → Act → World → Prop} (hput : ∀ i o, l[i]? = some o → ∀ xs v, (p.F xs).put o.dst v = p.F (upd xs i v)) (hst : Steps P p l xs0 l 0) (hI : Inv p l xs0 L a w) (hr : i ∈ Region.ready .any l.toArray L)
    (h : ∀ a' w', Inv p l xs0 (L.setIfInBounds i true) a' w' → K' a' w') : wpOp P l.toArray Q' i K' a w := by
  obtain ⟨xs, rfl, hs, hcl, hC, hv, hold⟩ := hI
  have hcn := hcl.next hr
  obtain ⟨_, o, ho, _⟩ := mem_ready.1 hr
  have ho' : l[i]? = some o := by simpa using ho
  have hstep := steps_at l 0 hst i o ho'
  rw [Nat.zero_add] at hstep
  unfold wpOp
  simp only [ho]
  rcases hstep L w xs ⟨hs, hcl, hr, hC, hv, hold⟩ with ⟨hw, hu⟩ | ⟨hw, hC', hE⟩
  · rw [if_pos hw]
    refine .inl ?_
    unfold Oper.wp
    generalize (execOp (p.F xs).eval o).run P w = r at *
    cases r with
    | halt x w' => exact hu.elim
    | ok n w' =>
      cases n <;> simp only [upon] at hu <;> simp only [Oper.upon]
      case value u =>
        obtain ⟨h1, h2, h3⟩ := hu
        exact h _ _ (Inv.next hput ho' hs hcn hv hold h1 h2 fun j => p.stable j _ _ _ h3)
      case skip =>
        obtain ⟨h1, h2, h3⟩ := hu
        exact h _ _ (Inv.next hput ho' hs hcn hv hold h1 h2 fun j => p.stable j _ _ _ h3)
      case enter f args =>
        exact hu.mono fun e w'' ⟨v, he, h1, h2, h3⟩ => by
          subst he
          exact h _ _ (Inv.next hput ho' hs hcn hv hold h1 h2 fun j => p.stable j _ _ _ h3)
  · rw [if_neg (by rw [hw]; exact Bool.false_ne_true)]
    exact h _ _ (Inv.next hput ho' hs hcn hv hold hC' hE fun j h => h)
theorem any_of {Q' : Exit → Act → World → Prop} (hlow : lowB (l ++ [default]) l.length = true) (hput : ∀ i o, l[i]? = some o → ∀ xs v, (p.F xs).put o.dst v = p.F (upd xs i v)) (hst : Steps P p l xs0 l 0) (hQ : ∀ a w, Inv p l xs0 (Array.replicate l.length true) a w → Q' .normal a w) :
    ∀ (f : Nat) (L : Array Bool) (a : Act) (w : World), L.size = l.length → Inv p l xs0 L a w → unlisted l.length L = f → wpAny P .any l.toArray Q' f L a w := by
  have hend : ∀ (L : Array Bool) a w, L.size = l.length → Region.ready .any l.toArray L = [] → Inv p l xs0 L a w → Q' .normal a w := by
    intro L a w hs hr hI
    rw [Mix.all_listed hlow hs hr] at hI
    exact hQ a w hI
  intro f
  induction f with
  | zero =>
    intro L a w hs hI hu
    have hr : Region.ready .any l.toArray L = [] := by
      cases hc : Region.ready .any l.toArray L with
      | nil => rfl
      | cons i t =>
        have hi : i ∈ Region.ready .any l.toArray L := by rw [hc]; simp
        obtain ⟨h0, o, ho, _⟩ := mem_ready.1 hi
        have hlt : i < l.length := by simpa using (Array.getElem?_eq_some_iff.1 ho).1
        have := unlisted_zero hu i hlt
        rw [this] at h0
        cases h0
    exact ⟨hr, hend L a w hs hr hI⟩
  | succ f ih =>
    intro L a w hs hI hu
    refine ⟨fun hr => hend L a w hs hr hI, fun i hi => wpOp_of hput hst hI hi fun a' w' hI' => ih _ a' w' (by simpa using hs) hI' ?_⟩
    obtain ⟨h0, o, ho, _⟩ := mem_ready.1 hi
    have hlt : i < l.length := by simpa using (Array.getElem?_eq_some_iff.1 ho).1
    have := unlisted_set hs hlt h0
    omega
theorem unlisted_all (n : Nat) : unlisted n (Array.replicate n false) = n := by
  unfold unlisted
  rw [List.filter_eq_self.2 (fun i hi => by
    have := List.mem_range.1 hi
    rw [getD_in (by simpa using this) (getD_replicate_false _ _)]; rfl), List.length_range]
/-- A REGION, WHATEVER ITS ORDER. -/
theorem region {id : Nat} {Q : Exit → Act → World → Prop} {a : Act} {w : World} (p : Plan) (xs0 : Nat → Value) (hm : P.follows .mixedOrders = true) (hlow : lowB (l ++ [default]) l.length = true) (h0 : a = p.F xs0) (hC : p.C (Array.replicate l.length false) { w with drawn := w.drawn + 1 })
    (hputs : Puts p l 0) (hst : Steps P p l xs0 l 0)
    (hend : ∀ xs w', p.C (Array.replicate l.length true) w' → (∀ j, j < l.length → p.E j (xs j) w') → Q .normal (p.F xs) w') : (Code.region id l.toArray true).wp P Q a w := by
  refine wp_region_any hm ?_
  have hput : ∀ i o, l[i]? = some o → ∀ xs v, (p.F xs).put o.dst v = p.F (upd xs i v) := fun i o ho => by
    have := puts_at l 0 hputs i o ho
    rwa [Nat.zero_add] at this
  have := any_of (Q' := Q) hlow hput hst (fun a w ⟨xs, e, _, _, hC, hv, _⟩ => by
    subst e
    refine hend xs w hC fun j hj => hv j hj ?_
    rw [Array.getD_eq_getD_getElem?, Array.getElem?_replicate, if_pos hj]
    rfl) l.length (Array.replicate l.length false) a { w with drawn := w.drawn + 1 } (by simp) ⟨xs0, h0, by simp, Closed.start _ _, hC, fun j hj hl => (by rw [getD_replicate_false] at hl; cases hl), fun j _ => rfl⟩ (unlisted_all _)
  simpa using this
/-- The frame with each operation's value in its slot. -/
def frame (xs : Nat → Value) : List (Option Tmp) → Nat → Act → Act
  | [], _, a => a
  | d :: ds, i, a => frame xs ds (i + 1) (a.put d (xs i))
theorem put_none (a : Act) (v : Value) : a.put none v = a := rfl
def dsts (l : List Oper) : List (Option Tmp) := l.map (·.dst)
/-- No two operations have one slot. -/
def apartB : List (Option Tmp) → Bool
  | [] => true
  | none :: ds => apartB ds
  | some d :: ds => !ds.contains (some d) && apartB ds
theorem frame_put (xs : Nat → Value) (d : Option Tmp) (v : Value) : ∀ (ds : List (Option Tmp)) (i : Nat) (a : Act), (∀ c, d = some c → some c ∉ ds) → frame xs ds i (a.put d v) = (frame xs ds i a).put d v
  | [], _, _, _ => rfl
  | e :: ds, i, a, h => by
    unfold frame
    rw [Act.put_comm a v (xs i) (fun c hc => fun he => h c hc (by simp [he])), frame_put xs d v ds (i + 1) _ (fun c hc hm => h c hc (by simp [hm]))]
theorem frame_upd_low (xs : Nat → Value) (j : Nat) (v : Value) : ∀ (ds : List (Option Tmp)) (i : Nat) (a : Act), j < i → frame (upd xs j v) ds i a = frame xs ds i a
  | [], _, _, _ => rfl
  | e :: ds, i, a, h => by
    unfold frame
    rw [show upd xs j v i = xs i from if_neg (by omega)]
    exact frame_upd_low xs j v ds (i + 1) _ (by omega)
theorem put_twice (a : Act) (d : Option Tmp) (u v : Value) : (a.put d u).put d v = a.put d v := by
  cases d with
  | none => rfl
  | some d => simp [Act.put]
theorem frame_at (xs : Nat → Value) (v : Value) : ∀ (ds : List (Option Tmp)) (i : Nat) (a : Act), apartB ds = true → ∀ j d, ds[j]? = some d → (frame xs ds i a).put d v = frame (upd xs (i + j) v) ds i a
  | [], _, _, _, j, d, h => by simp at h
  | e :: ds, i, a, ha, j, d, h => by
    have htail : apartB ds = true := by
      cases e with
      | none => exact ha
      | some e => simp only [apartB, Bool.and_eq_true] at ha; exact ha.2
    cases j with
    | zero =>
      simp at h
      subst h
      unfold frame
      simp only [Nat.add_zero]
      rw [frame_upd_low xs i v ds (i + 1) _ (by omega), show upd xs i v i = v from if_pos rfl]
      rw [← frame_put xs e v ds (i + 1) _ (fun c hc hm => by subst hc; simp only [apartB, Bool.and_eq_true, Bool.not_eq_true', List.contains_eq_mem, decide_eq_false_iff_not] at ha; exact ha.1 hm), put_twice]
    | succ j =>
      unfold frame
      rw [show upd xs (i + (j + 1)) v i = xs i from if_neg (by omega), frame_at xs v ds (i + 1) _ htail j d (by simpa using h), show i + 1 + j = i + (j + 1) by omega]
theorem puts_of {p : Plan} : ∀ (m : List Oper) (k : Nat), (∀ j d, (dsts m)[j]? = some d → ∀ xs v, (p.F xs).put d v = p.F (upd xs (k + j) v)) → Puts p m k
  | [], _, _ => trivial
  | o :: m, k, h => ⟨fun xs v => h 0 o.dst (by simp [dsts]) xs v, puts_of m (k + 1) fun j d hd xs v => by
      have := h (j + 1) d (by simpa [dsts] using hd) xs v
      rwa [show k + (j + 1) = k + 1 + j by omega] at this⟩
theorem frame_start {l : List Oper} (a : Act) (hap : apartB (dsts l) = true) : a = frame (fun i => match (dsts l)[i]? with | some (some d) => a.tmps.getD d undef | _ => undef) (dsts l) 0 a := by
  symm
  suffices h : ∀ (ds : List (Option Tmp)) (i : Nat) (b : Act) (ys : Nat → Value), (∀ j d, ds[j]? = some (some d) → ys (i + j) = b.tmps.getD d undef) → apartB ds = true → frame ys ds i b = b from
    h (dsts l) 0 a _ (fun j d hd => by simp only [Nat.zero_add, hd]) hap
  intro ds
  induction ds with
  | nil => intro _ _ _ _ _; rfl
  | cons e ds ih =>
    intro i b ys hy ha
    have htail : apartB ds = true := by
      cases e with
      | none => exact ha
      | some e => simp only [apartB, Bool.and_eq_true] at ha; exact ha.2
    have hb : b.put e (ys i) = b := by
      cases e with
      | none => rfl
      | some d =>
        have h0 := hy 0 d rfl
        rw [Nat.add_zero] at h0
        rw [h0]
        have hs : b.tmps.setIfInBounds d (b.tmps.getD d undef) = b.tmps := by
          apply Array.ext
          · simp
          · intro q q1 q2
            rw [Array.getElem_setIfInBounds]
            split
            · rename_i hq
              subst hq
              rw [Array.getD_eq_getD_getElem?, Array.getElem?_eq_getElem q2]
              rfl
            · rfl
        show (⟨b.tmps.setIfInBounds d (b.tmps.getD d undef), b.defers⟩ : Act) = b
        rw [hs]
    unfold frame
    rw [hb]
    exact ih (i + 1) b ys (fun j d hd => by
      have := hy (j + 1) d (by simpa using hd)
      rwa [show i + (j + 1) = i + 1 + j by omega] at this) htail
/-- The first k are done. -/
theorem head_set {l : List Oper} {k : Nat} (hk : k < l.length) : (headDone l k).setIfInBounds k true = headDone l (k + 1) := by
  apply Array.ext
  · simp [headDone]
  · intro i h1 h2
    rw [Array.getElem_setIfInBounds (by simpa using h1)]
    · have h3 : (headDone l (k + 1))[i] = decide (i < k + 1) := by simp [headDone]
      have h4 : ∀ h, (headDone l k)[i]'h = decide (i < k) := fun h => by simp [headDone]
      rw [h3, h4]
      by_cases h : k = i
      · subst h; simp
      · rw [if_neg h]
        by_cases h5 : i < k
        · rw [decide_eq_true h5, decide_eq_true (by omega)]
        · rw [decide_eq_false h5, decide_eq_false (by omega)]
theorem head_at {l : List Oper} {k i : Nat} (hi : i < l.length) (d : Bool) : (headDone l k).getD i d = decide (i < k) := by
  rw [Array.getD_eq_getD_getElem?, Array.getElem?_eq_getElem (by simp [headDone]; exact hi)]
  simp [headDone]
theorem head_zero (l : List Oper) : headDone l 0 = Array.replicate l.length false := by
  apply Array.ext
  · simp [headDone]
  · intro i h1 h2; simp [headDone]
theorem head_all (l : List Oper) : headDone l l.length = Array.replicate l.length true := by
  apply Array.ext
  · simp [headDone]
  · intro i h1 h2
    have : i < l.length := by simpa [headDone] using h1
    simp [headDone, this]
theorem head_ready {l : List Oper} {k : Nat} (hlow : lowB (l ++ [default]) l.length = true) (hk : k < l.length) : k ∈ Region.ready .any l.toArray (headDone l k) := by
  refine mem_ready.2 ⟨by rw [head_at hk]; simp, l[k], by simp, fun e he hb => ?_⟩
  have ho' : (l ++ [default])[k]? = some l[k] := by rw [List.getElem?_append_left hk]; exact List.getElem?_eq_getElem hk
  have hlt := (low_at hlow hk ho').1 e he hb
  rw [head_at (by omega)]
  exact decide_eq_true hlt
/-- A region, the frame made of the operations' slots. -/
theorem regionF {id : Nat} {Q : Exit → Act → World → Prop} {a : Act} {w : World} (E : Nat → Value → World → Prop) (C : Array Bool → World → Prop) (X : World → World → Prop) (st : ∀ j x w w', X w w' → E j x w → E j x w')
    (hm : P.follows .mixedOrders = true) (hlow : lowB (l ++ [default]) l.length = true) (hap : apartB (dsts l) = true) (hC : C (Array.replicate l.length false) { w with drawn := w.drawn + 1 })
    (H : ∀ (F : (Nat → Value) → Act), (∀ xs, F xs = frame xs (dsts l) 0 a) → Steps P ⟨F, E, C, X, st⟩ l (fun i => match (dsts l)[i]? with | some (some d) => a.tmps.getD d undef | _ => undef) l 0 ∧
      (∀ xs w', C (Array.replicate l.length true) w' → (∀ j, j < l.length → E j (xs j) w') → Q .normal (F xs) w')) : (Code.region id l.toArray true).wp P Q a w := by
  obtain ⟨h1, h2⟩ := H (fun xs => frame xs (dsts l) 0 a) (fun _ => rfl)
  refine region ⟨fun xs => frame xs (dsts l) 0 a, E, C, X, st⟩ _ hm hlow (frame_start a hap) hC (puts_of l 0 fun j d hd xs v => ?_) h1 h2
  have := frame_at xs v (dsts l) 0 a hap j d hd
  simpa using this
end
end Reg
end Go.Proofs.YtoeggiplcaegoaaGreatDoor
/- Regions that draw their order, where the class of worlds knows one operation's value (a block that is made at whatever place in the order, and written in the end). Of no program. -/
namespace Go.Proofs.YtoeggiplcaegoaaGreatDoor
open Go.RowKit Go.ChangeShapes Go.WideShapes
namespace RegC
open Reg (upon upd Closed reach frame dsts apartB frame_at frame_start unlisted_all head_set head_at head_zero head_all head_ready)
/-- A region's plan. -/
structure Plan where
  F : (Nat → Value) → Act
  E : Nat → Value → World → Prop
  C : Array Bool → (Nat → Value) → World → Prop
  Ext : Nat → World → World → Prop
/-- What is known when operation i comes up. -/
structure Here (p : Plan) (l : List Oper) (xs0 : Nat → Value) (i : Nat) (L : Array Bool) (w : World) (xs : Nat → Value) : Prop where
  size : L.size = l.length
  closed : Closed l L
  ready : i ∈ Region.ready .any l.toArray L
  cls : p.C L xs w
  vals : ∀ j, j < l.length → L.getD j false = true → p.E j (xs j) w
  olds : ∀ j, L.getD j false = false → xs j = xs0 j
theorem Here.dep {p : Plan} {l : List Oper} {xs0 : Nat → Value} {i : Nat} {L : Array Bool} {w : World} {xs : Nat → Value} (h : Here p l xs0 i L w xs) (j : Nat) (hj : reach l.toArray 6 i j = true) : L.getD j false = true := by
  obtain ⟨_, o, ho, hall⟩ := mem_ready.1 h.ready
  unfold reach at hj
  rw [Bool.or_eq_true] at hj
  rcases hj with hj | hj
  · obtain ⟨o', ho', e, he, hb, hon⟩ := Region.waitsFor_spec hj
    obtain rfl : o = o' := Option.some.inj (ho.symm.trans ho')
    rw [← hon]
    exact hall e he hb
  · rw [ho] at hj
    obtain ⟨e, he, hb⟩ := Array.any_eq_true'.1 hj
    rw [Bool.and_eq_true] at hb
    exact h.closed.reach 5 e.on j (hall e he hb.1) hb.2
theorem Here.val {p : Plan} {l : List Oper} {xs0 : Nat → Value} {i : Nat} {L : Array Bool} {w : World} {xs : Nat → Value} (h : Here p l xs0 i L w xs) (j : Nat) (hj : reach l.toArray 6 i j = true) (hl : decide (j < l.length) = true) : p.E j (xs j) w :=
  h.vals j (of_decide_eq_true hl) (h.dep j hj)
theorem Here.un {p : Plan} {l : List Oper} {xs0 : Nat → Value} {i : Nat} {L : Array Bool} {w : World} {xs : Nat → Value} (h : Here p l xs0 i L w xs) : Mix.one L i = 0 := Mix.one_ready h.ready
theorem Here.isDone {p : Plan} {l : List Oper} {xs0 : Nat → Value} {i : Nat} {L : Array Bool} {w : World} {xs : Nat → Value} (h : Here p l xs0 i L w xs) (j : Nat) (hj : reach l.toArray 6 i j = true) : Mix.one L j = 1 := by
  unfold Mix.one
  rw [if_pos (h.dep j hj)]
/-- What waits for this operation is not done. -/
theorem Here.notYet {p : Plan} {l : List Oper} {xs0 : Nat → Value} {i : Nat} {L : Array Bool} {w : World} {xs : Nat → Value} (h : Here p l xs0 i L w xs) (j : Nat) (hj : reach l.toArray 6 j i = true) : L.getD j false = false := by
  cases hl : L.getD j false with
  | false => rfl
  | true =>
    have h1 := h.closed.reach 6 j i hl hj
    have h2 := (mem_ready.1 h.ready).1
    obtain ⟨o', ho', _⟩ := (mem_ready.1 h.ready).2
    have hlt : i < l.length := by simpa using (Array.getElem?_eq_some_iff.1 ho').1
    rw [getD_any (by rw [h.size]; exact hlt), h2] at h1
    cases h1
theorem Here.old {p : Plan} {l : List Oper} {xs0 : Nat → Value} {i : Nat} {L : Array Bool} {w : World} {xs : Nat → Value} (h : Here p l xs0 i L w xs) (j : Nat) (hj : reach l.toArray 6 j i = true) : xs j = xs0 j := h.olds j (h.notYet j hj)
/-- Operation i goes through. -/
def Step (P : Program) (p : Plan) (l : List Oper) (xs0 : Nat → Value) (i : Nat) (o : Oper) : Prop :=
  ∀ L w xs, Here p l xs0 i L w xs →
    (Region.wanted o (yielded l.toArray (p.F xs).tmps) = true ∧ upon P (fun v w' => p.C (L.setIfInBounds i true) (upd xs i v) w' ∧ p.E i v w' ∧ p.Ext i w w') ((execOp (p.F xs).eval o).run P w)) ∨
    (Region.wanted o (yielded l.toArray (p.F xs).tmps) = false ∧ p.C (L.setIfInBounds i true) (upd xs i undef) w ∧ p.E i undef w)
def Steps (P : Program) (p : Plan) (l : List Oper) (xs0 : Nat → Value) : List Oper → Nat → Prop
  | [], _ => True
  | o :: rest, i => Step P p l xs0 i o ∧ Steps P p l xs0 rest (i + 1)
/-- Each operation's slot is its own. -/
def Puts (p : Plan) : List Oper → Nat → Prop
  | [], _ => True
  | o :: rest, i => (∀ xs v, (p.F xs).put o.dst v = p.F (upd xs i v)) ∧ Puts p rest (i + 1)
theorem puts_at {p : Plan} : ∀ (m : List Oper) (k : Nat), Puts p m k → ∀ j o, m[j]? = some o → ∀ xs v, (p.F xs).put o.dst v = p.F (upd xs (k + j) v)
  | [], _, _, j, o, h => by simp at h
  | q :: m, k, hs, j, o, h => by
    cases j with
    | zero => simp at h; subst h; exact hs.1
    | succ j =>
      have := puts_at m (k + 1) hs.2 j o (by simpa using h)
      rwa [show k + 1 + j = k + (j + 1) by omega] at this
theorem steps_at {P : Program} {p : Plan} {l : List Oper} {xs0 : Nat → Value} : ∀ (m : List Oper) (k : Nat), Steps P p l xs0 m k → ∀ j o, m[j]? = some o → Step P p l xs0 (k + j) o
  | [], _, _, j, o, h => by simp at h
  | q :: m, k, hs, j, o, h => by
    cases j with
    | zero => simp at h; subst h; exact hs.1
    | succ j =>
      have := steps_at m (k + 1) hs.2 j o (by simpa using h)
      rwa [show k + 1 + j = k + (j + 1) by omega] at this
section
variable {P : Program} {l : List Oper} {p : Plan} {xs0 : Nat → Value}
/-- The plan holds so far. -/
def Inv (p : Plan) (l : List Oper) (xs0 : Nat → Value) (L : Array Bool) (a : Act) (w : World) : Prop := ∃ xs, a = p.F xs ∧ L.size = l.length ∧ Closed l L ∧ p.C L xs w ∧ (∀ j, j < l.length → L.getD j false = true → p.E j (xs j) w) ∧ ∀ j, L.getD j false = false → xs j = xs0 j
theorem Inv.next {L : Array Bool} {w w' : World} {xs : Nat → Value} {i : Nat} {o : Oper} {v : Value} (hput : ∀ i o, l[i]? = some o → ∀ xs v, (p.F xs).put o.dst v = p.F (upd xs i v)) (ho : l[i]? = some o) (hs : L.size = l.length) (hc : Closed l (L.setIfInBounds i true))
    (hv : ∀ j, j < l.length → L.getD j false = true → p.E j (xs j) w) (hold : ∀ j, L.getD j false = false → xs j = xs0 j) (hC : p.C (L.setIfInBounds i true) (upd xs i v) w') (hE : p.E i v w') (hx : ∀ j, j ≠ i → L.getD j false = true → p.E j (xs j) w → p.E j (xs j) w') : Inv p l xs0 (L.setIfInBounds i true) ((p.F xs).put o.dst v) w' := by
  refine ⟨upd xs i v, hput i o ho xs v, by simpa using hs, hc, hC, fun j hj hl => ?_, fun j hl => ?_⟩
  · unfold upd
    by_cases h : j = i
    · subst h
      rw [if_pos rfl]; exact hE
    · rw [if_neg h]
      rw [getD_set_ne false (Ne.symm h)] at hl
      exact hx j h hl (hv j hj hl)
  · unfold upd
    by_cases h : j = i
    · subst h
      have hlt : j < L.size := by rw [hs]; exact (List.getElem?_eq_some_iff.1 ho).1
      rw [Array.getD_eq_getD_getElem?, Array.getElem?_setIfInBounds_self_of_lt hlt] at hl
      cases hl
    · rw [if_neg h]
      rw [getD_set_ne false (Ne.symm h)] at hl
      exact hold j hl
theorem wpOp_of {L : Array Bool} {a : Act} {w : World} {i : Nat} {K' : Act → World → Prop} {Q' : Exit → Act → World → Prop} (hput : ∀ i o, l[i]? = some o → ∀ xs v, (p.F xs).put o.dst v = p.F (upd xs i v)) (hstab : ∀ i j x w w', j ≠ i → reach l.toArray 6 j i = false → p.Ext i w w' → p.E j x w → p.E j x w') (hst : Steps P p l xs0 l 0) (hI : Inv p l xs0 L a w) (hr : i ∈ Region.ready .any l.toArray L)
    (h : ∀ a' w', Inv p l xs0 (L.setIfInBounds i true) a' w' → K' a' w') : wpOp P l.toArray Q' i K' a w := by
  obtain ⟨xs, rfl, hs, hcl, hC, hv, hold⟩ := hI
  have hcn := hcl.next hr
  obtain ⟨_, o, ho, _⟩ := mem_ready.1 hr
  have ho' : l[i]? = some o := by simpa using ho
  have hkeep : ∀ {w' : World}, p.Ext i w w' → ∀ j, j ≠ i → L.getD j false = true → p.E j (xs j) w → p.E j (xs j) w' := fun hx j hji hl hE => by
    cases hre : reach l.toArray 6 j i with
    | false => exact hstab i j _ _ _ hji hre hx hE
    | true =>
      have h1 := hcl.reach 6 j i hl hre
      have h2 := (mem_ready.1 hr).1
      have hlt : i < l.length := (List.getElem?_eq_some_iff.1 ho').1
      rw [getD_any (by rw [hs]; exact hlt), h2] at h1
      cases h1
  have hstep := steps_at l 0 hst i o ho'
  rw [Nat.zero_add] at hstep
  unfold wpOp
  simp only [ho]
  rcases hstep L w xs ⟨hs, hcl, hr, hC, hv, hold⟩ with ⟨hw, hu⟩ | ⟨hw, hC', hE⟩
  · rw [if_pos hw]
    refine .inl ?_
    unfold Oper.wp
    generalize (execOp (p.F xs).eval o).run P w = r at *
    cases r with
    | halt x w' => exact hu.elim
    | ok n w' =>
      cases n <;> simp only [upon] at hu <;> simp only [Oper.upon]
      case value u =>
        obtain ⟨h1, h2, h3⟩ := hu
        exact h _ _ (Inv.next hput ho' hs hcn hv hold h1 h2 (hkeep h3))
      case skip =>
        obtain ⟨h1, h2, h3⟩ := hu
        exact h _ _ (Inv.next hput ho' hs hcn hv hold h1 h2 (hkeep h3))
      case enter f args =>
        exact hu.mono fun e w'' ⟨v, he, h1, h2, h3⟩ => by
          subst he
          exact h _ _ (Inv.next hput ho' hs hcn hv hold h1 h2 (hkeep h3))
  · rw [if_neg (by rw [hw]; exact Bool.false_ne_true)]
    exact h _ _ (Inv.next hput ho' hs hcn hv hold hC' hE fun _ _ _ h => h)
theorem any_of {Q' : Exit → Act → World → Prop} (hlow : lowB (l ++ [default]) l.length = true) (hput : ∀ i o, l[i]? = some o → ∀ xs v, (p.F xs).put o.dst v = p.F (upd xs i v)) (hstab : ∀ i j x w w', j ≠ i → reach l.toArray 6 j i = false → p.Ext i w w' → p.E j x w → p.E j x w') (hst : Steps P p l xs0 l 0) (hQ : ∀ a w, Inv p l xs0 (Array.replicate l.length true) a w → Q' .normal a w) :
    ∀ (f : Nat) (L : Array Bool) (a : Act) (w : World), L.size = l.length → Inv p l xs0 L a w → unlisted l.length L = f → wpAny P .any l.toArray Q' f L a w := by
  have hend : ∀ (L : Array Bool) a w, L.size = l.length → Region.ready .any l.toArray L = [] → Inv p l xs0 L a w → Q' .normal a w := by
    intro L a w hs hr hI
    rw [Mix.all_listed hlow hs hr] at hI
    exact hQ a w hI
  intro f
  induction f with
  | zero =>
    intro L a w hs hI hu
    have hr : Region.ready .any l.toArray L = [] := by
      cases hc : Region.ready .any l.toArray L with
      | nil => rfl
      | cons i t =>
        have hi : i ∈ Region.ready .any l.toArray L := by rw [hc]; simp
        obtain ⟨h0, o, ho, _⟩ := mem_ready.1 hi
        have hlt : i < l.length := by simpa using (Array.getElem?_eq_some_iff.1 ho).1
        have := unlisted_zero hu i hlt
        rw [this] at h0
        cases h0
    exact ⟨hr, hend L a w hs hr hI⟩
  | succ f ih =>
    intro L a w hs hI hu
    refine ⟨fun hr => hend L a w hs hr hI, fun i hi => wpOp_of hput hstab hst hI hi fun a' w' hI' => ih _ a' w' (by simpa using hs) hI' ?_⟩
    obtain ⟨h0, o, ho, _⟩ := mem_ready.1 hi
    have hlt : i < l.length := by simpa using (Array.getElem?_eq_some_iff.1 ho).1
    have := unlisted_set hs hlt h0
    omega
/-- A REGION, WHATEVER ITS ORDER. -/
theorem region {id : Nat} {Q : Exit → Act → World → Prop} {a : Act} {w : World} (p : Plan) (xs0 : Nat → Value) (hm : P.follows .mixedOrders = true) (hlow : lowB (l ++ [default]) l.length = true) (h0 : a = p.F xs0) (hC : p.C (Array.replicate l.length false) xs0 { w with drawn := w.drawn + 1 })
    (hputs : Puts p l 0) (hstab : ∀ i j x w w', j ≠ i → reach l.toArray 6 j i = false → p.Ext i w w' → p.E j x w → p.E j x w') (hst : Steps P p l xs0 l 0)
    (hend : ∀ xs w', p.C (Array.replicate l.length true) xs w' → (∀ j, j < l.length → p.E j (xs j) w') → Q .normal (p.F xs) w') : (Code.region id l.toArray true).wp P Q a w := by
  refine wp_region_any hm ?_
  have hput : ∀ i o, l[i]? = some o → ∀ xs v, (p.F xs).put o.dst v = p.F (upd xs i v) := fun i o ho => by
    have := puts_at l 0 hputs i o ho
    rwa [Nat.zero_add] at this
  have := any_of (Q' := Q) hlow hput hstab hst (fun a w ⟨xs, e, _, _, hC, hv, _⟩ => by
    subst e
    refine hend xs w hC fun j hj => hv j hj ?_
    rw [Array.getD_eq_getD_getElem?, Array.getElem?_replicate, if_pos hj]
    rfl) l.length (Array.replicate l.length false) a { w with drawn := w.drawn + 1 } (by simp) ⟨xs0, h0, by simp, Closed.start _ _, hC, fun j hj hl => (by rw [getD_replicate_false] at hl; cases hl), fun j _ => rfl⟩ (unlisted_all _)
  simpa using this
theorem puts_of {p : Plan} : ∀ (m : List Oper) (k : Nat), (∀ j d, (dsts m)[j]? = some d → ∀ xs v, (p.F xs).put d v = p.F (upd xs (k + j) v)) → Puts p m k
  | [], _, _ => trivial
  | o :: m, k, h => ⟨fun xs v => h 0 o.dst (by simp [dsts]) xs v, puts_of m (k + 1) fun j d hd xs v => by
      have := h (j + 1) d (by simpa [dsts] using hd) xs v
      rwa [show k + (j + 1) = k + 1 + j by omega] at this⟩
/-- A region, the frame made of the operations' slots; the class knows operation m's value. -/
theorem regionF {id : Nat} {Q : Exit → Act → World → Prop} {a : Act} {w : World} (m : Nat) (E : Nat → Value → World → Prop) (C : Array Bool → Value → World → Prop) (X : World → World → Prop) (st : ∀ j x w w', X w w' → E j x w → E j x w')
    (hm : P.follows .mixedOrders = true) (hlow : lowB (l ++ [default]) l.length = true) (hap : apartB (dsts l) = true) (hC : ∀ x, C (Array.replicate l.length false) x { w with drawn := w.drawn + 1 })
    (H : ∀ (F : (Nat → Value) → Act), (∀ xs, F xs = frame xs (dsts l) 0 a) → Steps P ⟨F, E, fun L xs w => C L (xs m) w, fun _ => X⟩ l (fun i => match (dsts l)[i]? with | some (some d) => a.tmps.getD d undef | _ => undef) l 0 ∧
      (∀ xs w', C (Array.replicate l.length true) (xs m) w' → (∀ j, j < l.length → E j (xs j) w') → Q .normal (F xs) w')) : (Code.region id l.toArray true).wp P Q a w := by
  obtain ⟨h1, h2⟩ := H (fun xs => frame xs (dsts l) 0 a) (fun _ => rfl)
  refine region ⟨fun xs => frame xs (dsts l) 0 a, E, fun L xs w => C L (xs m) w, fun _ => X⟩ _ hm hlow (frame_start a hap) (hC _) (puts_of l 0 fun j d hd xs v => ?_) (fun i j x w w' _ _ hx h => st j x w w' hx h) h1 h2
  have := frame_at xs v (dsts l) 0 a hap j d hd
  simpa using this
end
end RegC
end Go.Proofs.YtoeggiplcaegoaaGreatDoor
/- Regions walked operation by operation within a fence that lets everything in (a round of a range over a function). Of no program. -/
namespace Go.Proofs.YtoeggiplcaegoaaGreatDoor
open Go.RowKit Go.ChangeShapes Go.WideShapes
namespace Reg
def noDefer (l : List Oper) : Bool := l.all fun o => match o.op with | .defer _ => false | _ => true
section
variable {P : Program} {l : List Oper} {p : Plan} {xs0 : Nat → Value} {F : Fence} {n : Nat}
end
end Reg
end Go.Proofs.YtoeggiplcaegoaaGreatDoor
/- Regions that draw their order, where an operation may do what those behind it do not know of: what it may do (X) is told by the operation, and a value must outlast it only if its operation doesn't wait for this one. Of no program. -/
namespace Go.Proofs.YtoeggiplcaegoaaGreatDoor
open Go.RowKit Go.ChangeShapes Go.WideShapes
namespace RegX
open Reg (upon upd Closed reach frame dsts apartB frame_at frame_start unlisted_all head_set head_at head_zero head_all head_ready)
/-- A region's plan. -/
structure Plan where
  F : (Nat → Value) → Act
  E : Nat → Value → World → Prop
  C : Array Bool → World → Prop
  Ext : Nat → World → World → Prop
/-- What is known when operation i comes up. -/
structure Here (p : Plan) (l : List Oper) (xs0 : Nat → Value) (i : Nat) (L : Array Bool) (w : World) (xs : Nat → Value) : Prop where
  size : L.size = l.length
  closed : Closed l L
  ready : i ∈ Region.ready .any l.toArray L
  cls : p.C L w
  vals : ∀ j, j < l.length → L.getD j false = true → p.E j (xs j) w
  olds : ∀ j, L.getD j false = false → xs j = xs0 j
theorem Here.dep {p : Plan} {l : List Oper} {xs0 : Nat → Value} {i : Nat} {L : Array Bool} {w : World} {xs : Nat → Value} (h : Here p l xs0 i L w xs) (j : Nat) (hj : reach l.toArray 6 i j = true) : L.getD j false = true := by
  obtain ⟨_, o, ho, hall⟩ := mem_ready.1 h.ready
  unfold reach at hj
  rw [Bool.or_eq_true] at hj
  rcases hj with hj | hj
  · obtain ⟨o', ho', e, he, hb, hon⟩ := Region.waitsFor_spec hj
    obtain rfl : o = o' := Option.some.inj (ho.symm.trans ho')
    rw [← hon]
    exact hall e he hb
  · rw [ho] at hj
    obtain ⟨e, he, hb⟩ := Array.any_eq_true'.1 hj
    rw [Bool.and_eq_true] at hb
    exact h.closed.reach 5 e.on j (hall e he hb.1) hb.2
theorem Here.val {p : Plan} {l : List Oper} {xs0 : Nat → Value} {i : Nat} {L : Array Bool} {w : World} {xs : Nat → Value} (h : Here p l xs0 i L w xs) (j : Nat) (hj : reach l.toArray 6 i j = true) (hl : decide (j < l.length) = true) : p.E j (xs j) w :=
  h.vals j (of_decide_eq_true hl) (h.dep j hj)
theorem Here.un {p : Plan} {l : List Oper} {xs0 : Nat → Value} {i : Nat} {L : Array Bool} {w : World} {xs : Nat → Value} (h : Here p l xs0 i L w xs) : Mix.one L i = 0 := Mix.one_ready h.ready
theorem Here.isDone {p : Plan} {l : List Oper} {xs0 : Nat → Value} {i : Nat} {L : Array Bool} {w : World} {xs : Nat → Value} (h : Here p l xs0 i L w xs) (j : Nat) (hj : reach l.toArray 6 i j = true) : Mix.one L j = 1 := by
  unfold Mix.one
  rw [if_pos (h.dep j hj)]
/-- What waits for this operation is not done. -/
theorem Here.notYet {p : Plan} {l : List Oper} {xs0 : Nat → Value} {i : Nat} {L : Array Bool} {w : World} {xs : Nat → Value} (h : Here p l xs0 i L w xs) (j : Nat) (hj : reach l.toArray 6 j i = true) : L.getD j false = false := by
  cases hl : L.getD j false with
  | false => rfl
  | true =>
    have h1 := h.closed.reach 6 j i hl hj
    have h2 := (mem_ready.1 h.ready).1
    obtain ⟨o', ho', _⟩ := (mem_ready.1 h.ready).2
    have hlt : i < l.length := by simpa using (Array.getElem?_eq_some_iff.1 ho').1
    rw [getD_any (by rw [h.size]; exact hlt), h2] at h1
    cases h1
theorem Here.old {p : Plan} {l : List Oper} {xs0 : Nat → Value} {i : Nat} {L : Array Bool} {w : World} {xs : Nat → Value} (h : Here p l xs0 i L w xs) (j : Nat) (hj : reach l.toArray 6 j i = true) : xs j = xs0 j := h.olds j (h.notYet j hj)
/-- Operation i goes through. -/
def Step (P : Program) (p : Plan) (l : List Oper) (xs0 : Nat → Value) (i : Nat) (o : Oper) : Prop :=
  ∀ L w xs, Here p l xs0 i L w xs →
    (Region.wanted o (yielded l.toArray (p.F xs).tmps) = true ∧ upon P (fun v w' => p.C (L.setIfInBounds i true) w' ∧ p.E i v w' ∧ p.Ext i w w') ((execOp (p.F xs).eval o).run P w)) ∨
    (Region.wanted o (yielded l.toArray (p.F xs).tmps) = false ∧ p.C (L.setIfInBounds i true) w ∧ p.E i undef w)
def Steps (P : Program) (p : Plan) (l : List Oper) (xs0 : Nat → Value) : List Oper → Nat → Prop
  | [], _ => True
  | o :: rest, i => Step P p l xs0 i o ∧ Steps P p l xs0 rest (i + 1)
/-- Each operation's slot is its own. -/
def Puts (p : Plan) : List Oper → Nat → Prop
  | [], _ => True
  | o :: rest, i => (∀ xs v, (p.F xs).put o.dst v = p.F (upd xs i v)) ∧ Puts p rest (i + 1)
theorem puts_at {p : Plan} : ∀ (m : List Oper) (k : Nat), Puts p m k → ∀ j o, m[j]? = some o → ∀ xs v, (p.F xs).put o.dst v = p.F (upd xs (k + j) v)
  | [], _, _, j, o, h => by simp at h
  | q :: m, k, hs, j, o, h => by
    cases j with
    | zero => simp at h; subst h; exact hs.1
    | succ j =>
      have := puts_at m (k + 1) hs.2 j o (by simpa using h)
      rwa [show k + 1 + j = k + (j + 1) by omega] at this
theorem steps_at {P : Program} {p : Plan} {l : List Oper} {xs0 : Nat → Value} : ∀ (m : List Oper) (k : Nat), Steps P p l xs0 m k → ∀ j o, m[j]? = some o → Step P p l xs0 (k + j) o
  | [], _, _, j, o, h => by simp at h
  | q :: m, k, hs, j, o, h => by
    cases j with
    | zero => simp at h; subst h; exact hs.1
    | succ j =>
      have := steps_at m (k + 1) hs.2 j o (by simpa using h)
      rwa [show k + 1 + j = k + (j + 1) by omega] at this
section
variable {P : Program} {l : List Oper} {p : Plan} {xs0 : Nat → Value}
/-- The plan holds so far. -/
def Inv (p : Plan) (l : List Oper) (xs0 : Nat → Value) (L : Array Bool) (a : Act) (w : World) : Prop := ∃ xs, a = p.F xs ∧ L.size = l.length ∧ Closed l L ∧ p.C L w ∧ (∀ j, j < l.length → L.getD j false = true → p.E j (xs j) w) ∧ ∀ j, L.getD j false = false → xs j = xs0 j
theorem Inv.next {L : Array Bool} {w w' : World} {xs : Nat → Value} {i : Nat} {o : Oper} {v : Value} (hput : ∀ i o, l[i]? = some o → ∀ xs v, (p.F xs).put o.dst v = p.F (upd xs i v)) (ho : l[i]? = some o) (hs : L.size = l.length) (hc : Closed l (L.setIfInBounds i true))
    (hv : ∀ j, j < l.length → L.getD j false = true → p.E j (xs j) w) (hold : ∀ j, L.getD j false = false → xs j = xs0 j) (hC : p.C (L.setIfInBounds i true) w') (hE : p.E i v w') (hx : ∀ j, j ≠ i → L.getD j false = true → p.E j (xs j) w → p.E j (xs j) w') : Inv p l xs0 (L.setIfInBounds i true) ((p.F xs).put o.dst v) w' := by
  refine ⟨upd xs i v, hput i o ho xs v, by simpa using hs, hc, hC, fun j hj hl => ?_, fun j hl => ?_⟩
  · unfold upd
    by_cases h : j = i
    · subst h
      rw [if_pos rfl]; exact hE
    · rw [if_neg h]
      rw [getD_set_ne false (Ne.symm h)] at hl
      exact hx j h hl (hv j hj hl)
  · unfold upd
    by_cases h : j = i
    · subst h
      have hlt : j < L.size := by rw [hs]; exact (List.getElem?_eq_some_iff.1 ho).1
      rw [Array.getD_eq_getD_getElem?, Array.getElem?_setIfInBounds_self_of_lt hlt] at hl
      cases hl
    · rw [if_neg h]
      rw [getD_set_ne false (Ne.symm h)] at hl
      exact hold j hl
theorem wpOp_of {L : Array Bool} {a : Act} {w : World} {i : Nat} {K' : Act → World → Prop} {Q' : Exit → Act → World → Prop} (hput : ∀ i o, l[i]? = some o → ∀ xs v, (p.F xs).put o.dst v = p.F (upd xs i v)) (hstab : ∀ i j x w w', j ≠ i → reach l.toArray 6 j i = false → p.Ext i w w' → p.E j x w → p.E j x w') (hst : Steps P p l xs0 l 0) (hI : Inv p l xs0 L a w) (hr : i ∈ Region.ready .any l.toArray L)
    (h : ∀ a' w', Inv p l xs0 (L.setIfInBounds i true) a' w' → K' a' w') : wpOp P l.toArray Q' i K' a w := by
  obtain ⟨xs, rfl, hs, hcl, hC, hv, hold⟩ := hI
  have hcn := hcl.next hr
  obtain ⟨_, o, ho, _⟩ := mem_ready.1 hr
  have ho' : l[i]? = some o := by simpa using ho
  have hkeep : ∀ {w' : World}, p.Ext i w w' → ∀ j, j ≠ i → L.getD j false = true → p.E j (xs j) w → p.E j (xs j) w' := fun hx j hji hl hE => by
    cases hre : reach l.toArray 6 j i with
    | false => exact hstab i j _ _ _ hji hre hx hE
    | true =>
      have h1 := hcl.reach 6 j i hl hre
      have h2 := (mem_ready.1 hr).1
      have hlt : i < l.length := (List.getElem?_eq_some_iff.1 ho').1
      rw [getD_any (by rw [hs]; exact hlt), h2] at h1
      cases h1
  have hstep := steps_at l 0 hst i o ho'
  rw [Nat.zero_add] at hstep
  unfold wpOp
  simp only [ho]
  rcases hstep L w xs ⟨hs, hcl, hr, hC, hv, hold⟩ with ⟨hw, hu⟩ | ⟨hw, hC', hE⟩
  · rw [if_pos hw]
    refine .inl ?_
    unfold Oper.wp
    generalize (execOp (p.F xs).eval o).run P w = r at *
    cases r with
    | halt x w' => exact hu.elim
    | ok n w' =>
      cases n <;> simp only [upon] at hu <;> simp only [Oper.upon]
      case value u =>
        obtain ⟨h1, h2, h3⟩ := hu
        exact h _ _ (Inv.next hput ho' hs hcn hv hold h1 h2 (hkeep h3))
      case skip =>
        obtain ⟨h1, h2, h3⟩ := hu
        exact h _ _ (Inv.next hput ho' hs hcn hv hold h1 h2 (hkeep h3))
      case enter f args =>
        exact hu.mono fun e w'' ⟨v, he, h1, h2, h3⟩ => by
          subst he
          exact h _ _ (Inv.next hput ho' hs hcn hv hold h1 h2 (hkeep h3))
  · rw [if_neg (by rw [hw]; exact Bool.false_ne_true)]
    exact h _ _ (Inv.next hput ho' hs hcn hv hold hC' hE fun _ _ _ h => h)
theorem any_of {Q' : Exit → Act → World → Prop} (hlow : lowB (l ++ [default]) l.length = true) (hput : ∀ i o, l[i]? = some o → ∀ xs v, (p.F xs).put o.dst v = p.F (upd xs i v)) (hstab : ∀ i j x w w', j ≠ i → reach l.toArray 6 j i = false → p.Ext i w w' → p.E j x w → p.E j x w') (hst : Steps P p l xs0 l 0) (hQ : ∀ a w, Inv p l xs0 (Array.replicate l.length true) a w → Q' .normal a w) :
    ∀ (f : Nat) (L : Array Bool) (a : Act) (w : World), L.size = l.length → Inv p l xs0 L a w → unlisted l.length L = f → wpAny P .any l.toArray Q' f L a w := by
  have hend : ∀ (L : Array Bool) a w, L.size = l.length → Region.ready .any l.toArray L = [] → Inv p l xs0 L a w → Q' .normal a w := by
    intro L a w hs hr hI
    rw [Mix.all_listed hlow hs hr] at hI
    exact hQ a w hI
  intro f
  induction f with
  | zero =>
    intro L a w hs hI hu
    have hr : Region.ready .any l.toArray L = [] := by
      cases hc : Region.ready .any l.toArray L with
      | nil => rfl
      | cons i t =>
        have hi : i ∈ Region.ready .any l.toArray L := by rw [hc]; simp
        obtain ⟨h0, o, ho, _⟩ := mem_ready.1 hi
        have hlt : i < l.length := by simpa using (Array.getElem?_eq_some_iff.1 ho).1
        have := unlisted_zero hu i hlt
        rw [this] at h0
        cases h0
    exact ⟨hr, hend L a w hs hr hI⟩
  | succ f ih =>
    intro L a w hs hI hu
    refine ⟨fun hr => hend L a w hs hr hI, fun i hi => wpOp_of hput hstab hst hI hi fun a' w' hI' => ih _ a' w' (by simpa using hs) hI' ?_⟩
    obtain ⟨h0, o, ho, _⟩ := mem_ready.1 hi
    have hlt : i < l.length := by simpa using (Array.getElem?_eq_some_iff.1 ho).1
    have := unlisted_set hs hlt h0
    omega
/-- A REGION, WHATEVER ITS ORDER. -/
theorem region {id : Nat} {Q : Exit → Act → World → Prop} {a : Act} {w : World} (p : Plan) (xs0 : Nat → Value) (hm : P.follows .mixedOrders = true) (hlow : lowB (l ++ [default]) l.length = true) (h0 : a = p.F xs0) (hC : p.C (Array.replicate l.length false) { w with drawn := w.drawn + 1 })
    (hputs : Puts p l 0) (hstab : ∀ i j x w w', j ≠ i → reach l.toArray 6 j i = false → p.Ext i w w' → p.E j x w → p.E j x w') (hst : Steps P p l xs0 l 0)
    (hend : ∀ xs w', p.C (Array.replicate l.length true) w' → (∀ j, j < l.length → p.E j (xs j) w') → Q .normal (p.F xs) w') : (Code.region id l.toArray true).wp P Q a w := by
  refine wp_region_any hm ?_
  have hput : ∀ i o, l[i]? = some o → ∀ xs v, (p.F xs).put o.dst v = p.F (upd xs i v) := fun i o ho => by
    have := puts_at l 0 hputs i o ho
    rwa [Nat.zero_add] at this
  have := any_of (Q' := Q) hlow hput hstab hst (fun a w ⟨xs, e, _, _, hC, hv, _⟩ => by
    subst e
    refine hend xs w hC fun j hj => hv j hj ?_
    rw [Array.getD_eq_getD_getElem?, Array.getElem?_replicate, if_pos hj]
    rfl) l.length (Array.replicate l.length false) a { w with drawn := w.drawn + 1 } (by simp) ⟨xs0, h0, by simp, Closed.start _ _, hC, fun j hj hl => (by rw [getD_replicate_false] at hl; cases hl), fun j _ => rfl⟩ (unlisted_all _)
  simpa using this
theorem puts_of {p : Plan} : ∀ (m : List Oper) (k : Nat), (∀ j d, (dsts m)[j]? = some d → ∀ xs v, (p.F xs).put d v = p.F (upd xs (k + j) v)) → Puts p m k
  | [], _, _ => trivial
  | o :: m, k, h => ⟨fun xs v => h 0 o.dst (by simp [dsts]) xs v, puts_of m (k + 1) fun j d hd xs v => by
      have := h (j + 1) d (by simpa [dsts] using hd) xs v
      rwa [show k + (j + 1) = k + 1 + j by omega] at this⟩
/-- A region, the frame made of the operations' slots. -/
theorem regionF {id : Nat} {Q : Exit → Act → World → Prop} {a : Act} {w : World} (E : Nat → Value → World → Prop) (C : Array Bool → World → Prop) (X : Nat → World → World → Prop) (st : ∀ i j x w w', j ≠ i → reach l.toArray 6 j i = false → X i w w' → E j x w → E j x w')
    (hm : P.follows .mixedOrders = true) (hlow : lowB (l ++ [default]) l.length = true) (hap : apartB (dsts l) = true) (hC : C (Array.replicate l.length false) { w with drawn := w.drawn + 1 })
    (H : ∀ (F : (Nat → Value) → Act), (∀ xs, F xs = frame xs (dsts l) 0 a) → Steps P ⟨F, E, C, X⟩ l (fun i => match (dsts l)[i]? with | some (some d) => a.tmps.getD d undef | _ => undef) l 0 ∧
      (∀ xs w', C (Array.replicate l.length true) w' → (∀ j, j < l.length → E j (xs j) w') → Q .normal (F xs) w')) : (Code.region id l.toArray true).wp P Q a w := by
  obtain ⟨h1, h2⟩ := H (fun xs => frame xs (dsts l) 0 a) (fun _ => rfl)
  refine region ⟨fun xs => frame xs (dsts l) 0 a, E, C, X⟩ _ hm hlow (frame_start a hap) hC (puts_of l 0 fun j d hd xs v => ?_) st h1 h2
  have := frame_at xs v (dsts l) 0 a hap j d hd
  simpa using this
end
end RegX
end Go.Proofs.YtoeggiplcaegoaaGreatDoor
/- As RegX, within a fence that lets everything in. Of no program. -/
namespace Go.Proofs.YtoeggiplcaegoaaGreatDoor
open Go.RowKit Go.ChangeShapes Go.WideShapes
namespace RegX
open Reg (upon upd Closed reach frame dsts apartB frame_at frame_start unlisted_all head_set head_at head_zero head_all head_ready noDefer)
section
variable {P : Program} {l : List Oper} {p : Plan} {xs0 : Nat → Value} {F : Fence} {n : Nat}
end
end RegX
end Go.Proofs.YtoeggiplcaegoaaGreatDoor
/- A struct or an array that fills a block: loaded and stored whole. Of no program. -/
namespace Go.Proofs.YtoeggiplcaegoaaGreatDoor
open Go.RowKit Go.ChangeShapes Go.WideShapes
theorem But.drew {g B : Nat} {w w' : World} (h : But g B w w') : But g B w w'.drew := ⟨h.os, h.tape, h.output, h.size, h.block⟩
theorem but_setCells (g B : Nat) (w : World) : ∀ (vs : List Value) (o : Nat) (w' : World), But g B w w' → But g B w (w'.setCells g o vs)
  | [], _, _, h => h
  | v :: vs, o, w', h => but_setCells g B w vs (o + 1) _ (h.set o v)
section
variable {P : Program}
end
end Go.Proofs.YtoeggiplcaegoaaGreatDoor
/- Contracts of cluster. -/
namespace Go.Proofs.YtoeggiplcaegoaaGreatDoor
open Go.RowKit Go.ChangeShapes Go.WideShapes
end Go.Proofs.YtoeggiplcaegoaaGreatDoor
/- What may turn; stores into rows of the call's own, of whatever elements. Of no program. -/
namespace Go.Proofs.YtoeggiplcaegoaaGreatDoor
open Go.RowKit Go.ChangeShapes Go.WideShapes
/-- Nothing but the blocks of S has turned. -/
structure Upd (S : Zone) (w w' : World) : Prop where
  os : w'.os = w.os
  tape : w'.tape = w.tape
  output : w'.output = w.output
  size : w.heap.size ≤ w'.heap.size
  block : ∀ b, b < w.heap.size → ¬ S b → w'.heap[b]? = w.heap[b]?
theorem Upd.refl (S : Zone) (w : World) : Upd S w w := ⟨rfl, rfl, rfl, Nat.le_refl _, fun _ _ _ => rfl⟩
theorem Upd.trans {S : Zone} {a b c : World} (h : Upd S a b) (k : Upd S b c) : Upd S a c :=
  ⟨k.os.trans h.os, k.tape.trans h.tape, k.output.trans h.output, Nat.le_trans h.size k.size, fun i hi hs => (k.block i (Nat.lt_of_lt_of_le hi h.size) hs).trans (h.block i hi hs)⟩
theorem Upd.mono {S T : Zone} {w w' : World} (h : Upd S w w') (hs : ∀ b, b < w.heap.size → S b → T b) : Upd T w w' := ⟨h.os, h.tape, h.output, h.size, fun b hb ht => h.block b hb fun hs' => ht (hs b hb hs')⟩
theorem Upd.ofBelow {S : Zone} {w w' : World} (h : Below w.heap.size w w') : Upd S w w' := ⟨h.os, h.tape, h.output, h.size, fun b hb _ => h.block b hb⟩
theorem Upd.below {S : Zone} {B : Nat} {w w' : World} (h : Upd S w w') (hB : B ≤ w.heap.size) (hs : ∀ b, S b → B ≤ b) : Below B w w' :=
  ⟨h.os, h.tape, h.output, h.size, fun b hb => h.block b (by omega) fun k => by have := hs b k; omega⟩
theorem Upd.keep {S : Zone} {w w' : World} (h : Upd S w w') : KeepZ (fun b => ¬ S b) w w' := ⟨h.size, h.block⟩
theorem Upd.ofBut {g : Nat} {w w' : World} (h : But g w.heap.size w w') : Upd (fun b => b = g) w w' := ⟨h.os, h.tape, h.output, h.size, fun b hb hn => h.block b hb hn⟩
theorem Upd.setCell {S : Zone} {a w : World} (h : Upd S a w) {p : Addr} (hp : S p.block ∨ a.heap.size ≤ p.block) (u : Value) : Upd S a (w.setCell p u) :=
  ⟨h.os, h.tape, h.output, by rw [World.size_setCell]; exact h.size, fun b hb hn => by rw [heap_setCell_other w p b u (fun e => by subst e; rcases hp with hp | hp; exact hn hp; omega)]; exact h.block b hb hn⟩
theorem Upd.alloc {S : Zone} {a w : World} (h : Upd S a w) (o : Obj) : Upd S a (w.alloc o) := h.trans (.ofBelow ((Below.refl _ _).alloc (Nat.le_refl _) o))
theorem Upd.drew {S : Zone} {a w : World} (h : Upd S a w) : Upd S a w.drew := ⟨h.os, h.tape, h.output, h.size, h.block⟩
theorem _root_.Go.RowKit.Below.upd {S : Zone} {B : Nat} {a b c : World} (h : Below B a b) (k : Upd S b c) (hB : B ≤ b.heap.size) (hs : ∀ x, S x → B ≤ x) : Below B a c := h.trans (k.below hB hs)
section
variable {α : Type} {E : Elem α} {Z Y : Zone} {w w' : World} {v u : Value} {L M : List α} {B : Nat} {ty : TypeId}
theorem HeldE.upd {S : Zone} (h : HeldE E Z w v L) (hk : Upd S w w') (hs : ∀ b, Z b → ¬ S b) : HeldE E Z w' v L := h.kept (hk.keep.mono fun b _ hz => hs b hz)
theorem OwnE.upd {S : Zone} (h : OwnE E Z w B ty v L) (hk : Upd S w w') (hs : ∀ b, Z b ∨ v.ownBlock = some b → ¬ S b) : OwnE E Z w' B ty v L := h.keep (hk.keep.mono fun b _ hz => hs b hz) fun _ _ hz => hz
theorem own_lensI {Zi : Nat → Zone} {CS : List (List Value)} (hl : CS.length = L.length) (h : ∀ i, i < L.length → E.rep (Zi i) w (CS.getD i []) (L.getD i E.zero)) : ∀ C ∈ CS, C.length = E.size := by
  intro C hC
  obtain ⟨i, hi, rfl⟩ := List.getElem_of_mem hC
  have := E.len (h i (by omega))
  rwa [show CS.getD i [] = CS[i] from by simp [List.getD, List.getElem?_eq_getElem hi]] at this
/-- As OwnE; what the i-th element leads to lies in a zone of its own. -/
def OwnI (E : Elem α) (Zi : Nat → Zone) (w : World) (B : Nat) (ty : TypeId) (v : Value) (L : List α) : Prop :=
  ∃ CS : List (List Value), w.ownsRow B ty E.size v L.length CS.flatten ∧ CS.length = L.length ∧ ∀ i, i < L.length → E.rep (fun b => Zi i b ∧ v.ownBlock ≠ some b) w (CS.getD i []) (L.getD i E.zero)
theorem OwnE.each (h : OwnE E Z w B ty v L) : OwnI E (fun _ => Z) w B ty v L := h
theorem OwnI.all {Zi : Nat → Zone} (h : OwnI E Zi w B ty v L) (hz : ∀ i b, i < L.length → b < w.heap.size → Zi i b → Z b) : OwnE E Z w B ty v L := by
  obtain ⟨CS, h1, h2, h3⟩ := h
  exact ⟨CS, h1, h2, fun i hi => E.keep (.refl _ _) (fun b hb k => ⟨hz i b hi hb k.1, k.2⟩) (h3 i hi)⟩
theorem OwnI.keep {Zi Yi : Nat → Zone} (h : OwnI E Zi w B ty v L) (hk : KeepZ (fun b => (∃ i, i < L.length ∧ Zi i b) ∨ v.ownBlock = some b) w w') (hy : ∀ i b, i < L.length → b < w.heap.size → Zi i b → Yi i b) : OwnI E Yi w' B ty v L := by
  obtain ⟨CS, h1, h2, h3⟩ := h
  exact ⟨CS, hk.own h1 fun b hb => .inr hb, h2, fun i hi => E.keep (hk.mono fun b _ hz => .inl ⟨i, hi, hz.1⟩) (fun b hb hz => ⟨hy i b hi hb hz.1, hz.2⟩) (h3 i hi)⟩
theorem OwnI.below {Zi : Nat → Zone} (h : OwnI E Zi w B ty v L) (hb : Below w.heap.size w w') : OwnI E Zi w' B ty v L := h.keep (.all hb _) fun _ _ _ _ hz => hz
theorem OwnI.lt {Zi : Nat → Zone} (h : OwnI E Zi w B ty v L) : ∀ k, v.ownBlock = some k → B ≤ k ∧ k < w.heap.size := by
  obtain ⟨CS, h, _⟩ := h
  exact h.lt
/-- The cells of one element, as a walk reads them. -/
theorem OwnI.at {Zi : Nat → Zone} {g cap n : Nat} (h : OwnI E Zi w B ty (.slice (some ⟨g, 0, none⟩) n cap) L) {i : Nat} (hi : i < L.length) : ∃ C, (∀ j, j < E.size → w.cell? ⟨g, i * E.size + j, none⟩ = C[j]? ∧ w.frozen? ⟨g, i * E.size + j, none⟩ = false) ∧ E.rep (fun b => Zi i b ∧ b ≠ g) w C (L.getD i E.zero) := by
  obtain ⟨CS, h1, h2, h3⟩ := h
  have hn : n = L.length := by
    rcases h1.2 with ⟨h', _⟩ | ⟨g', cap', cur, h', _⟩
    · simp at h'
    · simp only [Value.slice.injEq] at h'
      exact h'.2.1
  subst hn
  have hls := own_lensI h2 (Zi := fun i b => Zi i b ∧ _) h3
  refine ⟨CS.getD i [], fun j hj => ⟨?_, h1.frozenAt _⟩, E.keep (.refl _ _) (fun b _ hz => ⟨hz.1, fun e => hz.2 (by subst e; rfl)⟩) (h3 i hi)⟩
  rw [h1.cellAt (i * E.size + j) (by have : i * E.size + E.size ≤ L.length * E.size := by rw [← Nat.succ_mul]; exact Nat.mul_le_mul_right _ hi
                                     omega)]
  exact flat_at hls i j (by omega) hj
theorem own_setCells {g n cap size : Nat} : ∀ (vs : List Value) (o : Nat) (xs : List Value) (w : World), w.ownsRow B ty size (.slice (some ⟨g, 0, none⟩) n cap) n xs → o + vs.length ≤ xs.length →
    (w.setCells g o vs).ownsRow B ty size (.slice (some ⟨g, 0, none⟩) n cap) n (xs.take o ++ vs ++ xs.drop (o + vs.length))
  | [], o, xs, w, h, _ => by simpa [World.setCells] using h
  | v :: vs, o, xs, w, h, hl => by
    simp only [List.length_cons] at hl
    have h1 := (h.stored o v).1
    have h2 := own_setCells vs (o + 1) (xs.set o v) (w.setCell ⟨g, o, none⟩ v) h1 (by simp; omega)
    have e : (xs.set o v).take (o + 1) ++ vs ++ (xs.set o v).drop (o + 1 + vs.length) = xs.take o ++ (v :: vs) ++ xs.drop (o + (v :: vs).length) := by
      rw [List.take_succ_eq_append_getElem (by simp; omega), List.take_set_of_le (Nat.le_refl _), List.drop_set_of_lt (by omega)]
      simp [List.length_cons, Nat.add_assoc, Nat.add_comm 1 vs.length]
    rw [e] at h2
    exact h2
theorem flat_put {s : Nat} : ∀ {CS : List (List Value)}, (∀ C ∈ CS, C.length = s) → ∀ (i : Nat) (C : List Value), i < CS.length → C.length = s → CS.flatten.take (i * s) ++ C ++ CS.flatten.drop (i * s + s) = (CS.set i C).flatten
  | [], _, i, _, hi, _ => absurd hi (Nat.not_lt_zero _)
  | D :: CS, h, 0, C, _, hC => by
    have hD := h D (by simp)
    simp only [List.flatten_cons, Nat.zero_mul, List.take_zero, List.nil_append, Nat.zero_add, List.set_cons_zero]
    rw [← hD, List.drop_left]
  | D :: CS, h, i + 1, C, hi, hC => by
    have hD := h D (by simp)
    have ih := flat_put (fun E hE => h E (List.mem_cons_of_mem _ hE)) i C (by simpa using hi) hC
    have e1 : (i + 1) * s = D.length + i * s := by rw [hD, Nat.add_mul]; omega
    simp only [List.flatten_cons, List.set_cons_succ]
    rw [e1, List.take_length_add_append, show D.length + i * s + s = D.length + (i * s + s) by omega, List.drop_length_add_append, ← ih]
    simp [List.append_assoc]
/-- An element stored whole. -/
theorem OwnI.put {Zi : Nat → Zone} {g n cap : Nat} (h : OwnI E Zi w B ty (.slice (some ⟨g, 0, none⟩) n cap) L) {i : Nat} (hi : i < L.length) (C : List Value) (x : α) (hr : E.rep (fun b => Y b ∧ b ≠ g) w C x) :
    OwnI E (fun j => if j = i then Y else Zi j) (w.setCells g (i * E.size) C) B ty (.slice (some ⟨g, 0, none⟩) n cap) (L.set i x) ∧ Upd (fun b => b = g) w (w.setCells g (i * E.size) C) := by
  have hu : Upd (fun b => b = g) w (w.setCells g (i * E.size) C) := .ofBut (but_setCells g w.heap.size w C _ w (But.refl _ _ _))
  refine ⟨?_, hu⟩
  obtain ⟨CS, h1, h2, h3⟩ := h
  have hn : n = L.length := by
    rcases h1.2 with ⟨h', _⟩ | ⟨g', cap', cur, h', _⟩
    · simp at h'
    · simp only [Value.slice.injEq] at h'
      exact h'.2.1
  subst hn
  have hls := own_lensI h2 (Zi := fun i b => Zi i b ∧ _) h3
  have hC := E.len hr
  have h4 := own_setCells C (i * E.size) CS.flatten w h1 (by rw [flat_len hls, h2, hC, ← Nat.succ_mul]; exact Nat.mul_le_mul_right _ hi)
  rw [hC, flat_put hls i C (by omega) hC] at h4
  refine ⟨CS.set i C, by rw [List.length_set]; exact h4, by simp [h2], fun j hj => ?_⟩
  simp only [List.length_set] at hj
  have hk : KeepZ (fun b => b ≠ g) w (w.setCells g (i * E.size) C) := hu.keep
  by_cases e : j = i
  · subst e
    rw [show (CS.set j C).getD j [] = C from by simp [List.getD, List.getElem?_set_self (show j < CS.length by omega)], show (L.set j x).getD j E.zero = x from by simp [List.getD, List.getElem?_set_self hi]]
    simp only [if_true]
    exact E.keep (hk.mono fun b _ hz => hz.2) (fun b _ hz => ⟨hz.1, fun e => hz.2 (by simpa [Value.ownBlock] using e.symm)⟩) hr
  · rw [show (CS.set i C).getD j [] = CS.getD j [] from by simp [List.getD, List.getElem?_set_ne (Ne.symm e)], show (L.set i x).getD j E.zero = L.getD j E.zero from by simp [List.getD, List.getElem?_set_ne (Ne.symm e)]]
    simp only [if_neg e]
    exact E.keep (hk.mono fun b _ hz => fun e => hz.2 (by subst e; rfl)) (fun b _ hz => hz) (h3 j hj)
theorem OwnI.there {Zi : Nat → Zone} {g n cap : Nat} (h : OwnI E Zi w B ty (.slice (some ⟨g, 0, none⟩) n cap) L) {i : Nat} (hi : i < L.length) : w.there g (i * E.size) E.size := by
  obtain ⟨C, h1, h2⟩ := h.at hi
  intro j hj
  obtain ⟨h3, h4⟩ := h1 j hj
  rw [h3]
  exact ⟨by rw [List.getElem?_eq_getElem (by rw [E.len h2]; exact hj)]; rfl, h4⟩
/-- 'l[i] = x', of a struct. -/
theorem wpList_put_e {P : Program} {ops : Array Oper} {rest : List Oper} {o : Oper} {a : Act} {Q : Exit → Act → World → Prop} (hgd : o.guard = none) (t : TypeId) (x y : Operand) (ho : o.op = .store t x y) {Zi : Nat → Zone} {g n cap i off : Nat}
    (hx : a.eval x = .pointer (some ⟨g, off, none⟩)) (hoff : off = i * E.size) (C : List Value) (hy : a.eval y = .agg C.toArray) (hi2 : (P.info? t).map (·.size) = some E.size)
    (h : OwnI E Zi w B ty (.slice (some ⟨g, 0, none⟩) n cap) L) (hi : i < L.length) (z : α) (hr : E.rep (fun b => Y b ∧ b ≠ g) w C z)
    (hk : ∀ w', OwnI E (fun j => if j = i then Y else Zi j) w' B ty (.slice (some ⟨g, 0, none⟩) n cap) (L.set i z) → Upd (fun b => b = g) w w' → wpList P ops Q rest (a.put o.dst undef) w') : wpList P ops Q (o :: rest) a w := by
  subst hoff
  have hC := E.len hr
  refine wpList_store_mid hgd t x y ho g (i * E.size) C.toArray hx hy (by simpa [hC] using h.there hi) (by rw [hi2]; simp [hC]) (all_oneCell_toArray (E.one hr)) ?_
  obtain ⟨h1, h2⟩ := h.put hi C z hr
  exact hk _ (by simpa using h1) (by simpa using h2)
end
end Go.Proofs.YtoeggiplcaegoaaGreatDoor
/- 'for .. range seq': an iterator that has memory of its own: its contract, and the law of the loop. Of no program. -/
namespace Go.Proofs.YtoeggiplcaegoaaGreatDoor
open Go.RowKit Go.ChangeShapes Go.WideShapes
end Go.Proofs.YtoeggiplcaegoaaGreatDoor
/- Scalar values and their forms: plain mathematics. -/
namespace Go.Proofs.YtoeggiplcaegoaaGreatDoor
open Go.RowKit Go.ChangeShapes Go.WideShapes
/-- Is a number a scalar value? -/
def validB (r : Int) : Bool := decide (0 ≤ r) && decide (r ≤ 1114111) && (decide (r < 55296) || decide (57343 < r))
theorem validB_true {r : Int} : validB r = true ↔ (0 ≤ r ∧ r ≤ 1114111 ∧ (r < 55296 ∨ 57343 < r)) := by
  unfold validB; simp [and_assoc]
end Go.Proofs.YtoeggiplcaegoaaGreatDoor
/- Contracts of scalar's functions and of the reference's: what each answers, at every argument. -/
namespace Go.Proofs.YtoeggiplcaegoaaGreatDoor
open Go.RowKit

theorem valid_any (r : Int) (w : World) : Calls Tryz.prog 152 #[.int .i32 r] w fun e w' => e = .returned (.bool (validB r)) ∧ w = w' := by
  by_cases h0 : 0 ≤ r
  · by_cases h1 : r ≤ 1114111
    · by_cases h2 : r < 55296
      · have hv : validB r = true := validB_true.2 (by omega)
        rw [hv]
        go_enter Tryz.func152, Tryz.ntmps152
        go_wp2
        go_ret
        exact ⟨rfl, rfl⟩
      · by_cases h3 : 57343 < r
        · have hv : validB r = true := validB_true.2 (by omega)
          rw [hv]
          go_enter Tryz.func152, Tryz.ntmps152
          go_wp2
          go_ret
          exact ⟨rfl, rfl⟩
        · have hv : validB r = false := by unfold validB; simp; omega
          rw [hv]
          go_enter Tryz.func152, Tryz.ntmps152
          go_wp2
          go_ret
          exact ⟨rfl, rfl⟩
    · have hv : validB r = false := by unfold validB; simp; omega
      rw [hv]
      go_enter Tryz.func152, Tryz.ntmps152
      go_wp2
      go_ret
      exact ⟨rfl, rfl⟩
  · have hv : validB r = false := by unfold validB; simp; omega
    rw [hv]
    go_enter Tryz.func152, Tryz.ntmps152
    go_wp2
    go_ret
    exact ⟨rfl, rfl⟩
end Go.Proofs.YtoeggiplcaegoaaGreatDoor
/- What Replace gives. -/
namespace Go.Proofs.YtoeggiplcaegoaaGreatDoor
open Go.RowKit Go.ChangeShapes Go.WideShapes
/-- What Replace gives of a number. -/
def repl (x : Int) : Int := if validB x = true then x else 65533
theorem Tryz.info21r : (Tryz.prog.info? 21).map (fun i => (i.zero, i.size, i.bytes)) = some (some (.int .i32 0), 1, 4) := by kernel_rfl
/-- The first k replaced, zeros behind. -/
def replL (xs : List Int) (k : Nat) : List Int := (xs.take k).map repl ++ List.replicate (xs.length - k) 0
theorem replL_len (xs : List Int) (k : Nat) (h : k ≤ xs.length) : (replL xs k).length = xs.length := by simp [replL]; omega
theorem replL_set (xs : List Int) (k : Nat) (h : k < xs.length) : (replL xs k).set k (repl (xs.getD k 0)) = replL xs (k + 1) := by
  unfold replL
  have e1 : xs.length - k = (xs.length - (k + 1)) + 1 := by omega
  have e3 : ((xs.take k).map repl).length = k := by simp; omega
  rw [e1, List.replicate_succ, List.set_append, if_neg (by omega), List.take_succ_eq_append_getElem h, e3, Nat.sub_self]
  simp [List.getD, List.getElem?_eq_getElem h, List.take_succ_eq_append_getElem (show k < (xs.map repl).length by simpa using h)]
theorem made_ints (k : IntKind) (n : Nat) : (madeCells (Value.int k 0).cells (n * 1)).toList = (List.replicate n (0 : Int)).map (Value.int k) := by
  apply List.ext_getElem
  · simp [madeCells]
  · intro i h1 h2
    simp [madeCells, Value.cells, Nat.mod_one]
def ReplRel (w : World) (g : Nat) (xs : List Int) (k : Nat) (wr : World) : Prop :=
  wr.ownsRow w.heap.size 21 1 (.slice (some ⟨g, 0, none⟩) xs.length xs.length) xs.length ((replL xs k).map (Value.int .i32)) ∧ Below w.heap.size w wr

set_option maxRecDepth 100000 in
theorem replace_own (v : Value) (xs : List Int) (w : World) (hh : Held .i32 w v xs) (hlen : xs.length ≤ 1000000000) :
    Calls Tryz.prog 81 #[v] w (fun e w' => ∃ v', e = .returned v' ∧ w'.ownsRow w.heap.size 21 1 v' xs.length ((xs.map repl).map (Value.int .i32)) ∧ Below w.heap.size w w') := by
  obtain ⟨ao, cap, rfl, hc⟩ := hh.view
  have HC := Lib.hid hc
  clear hc hh
  obtain ⟨i0, hi, hz0, hz1, hz2⟩ := info_parts Tryz.info21r
  go_enter Tryz.func81, Tryz.ntmps81
  go_wp2_with (at_make; refine wpList_make_full w rfl (.tmp 7) (.tmp 7) 27 rfl w.heap.size 21 i0 (.int .i32 0) 1 Tryz.underlying27 hi hz0 hz1 .i64 .i64 _ _ xs.length rfl rfl rfl rfl (by rw [hz2]; omega) (by unfold maxLen; omega) (Nat.le_refl _) ?_)
  intro w1 hown1 hg1
  have hb1 : Below w.heap.size w w1 := (Below.refl _ _).grown hg1 (Nat.le_refl _) (by intro k hk; cases hk)
  have hrel0 : ReplRel w w.heap.size xs 0 w1 := by
    refine ⟨?_, hb1⟩
    have e : replL xs 0 = List.replicate xs.length 0 := by simp [replL]
    rw [e, ← made_ints, Nat.mul_one]
    exact hown1
  clear hown1 hg1 hb1
  have HR := Lib.hid hrel0
  clear hrel0
  generalize hgn : w.heap.size = g at HR
  have HG := Lib.hid hgn
  clear hgn
  go_wp2
  go_loopw [11] (fun i wr => ∃ k : Nat, k ≤ xs.length ∧ i = .int .i64 k ∧ ReplRel w g xs k wr) (fun i _ => xs.length - (intOf i).toNat)
  case atStart => exact ⟨0, Nat.zero_le _, rfl, HR.out⟩
  case round =>
    obtain ⟨m, hm, rfl, hrel⟩ := hrel
    by_cases hlm : m < xs.length
    · obtain ⟨b, off, rfl, hb, hcx⟩ := HC.out m hlm
      have hcx := (hrel.2.cell (p := ⟨b, off + m, none⟩) hb).trans hcx
      obtain ⟨x, hx⟩ : ∃ x, x = xs.getD m 0 := ⟨_, rfl⟩
      rw [← hx] at hcx
      have hcell0 : ∃ y, wr.cell? ⟨g, m, none⟩ = some y := by
        rw [hrel.1.cellAt m (by omega)]
        exact ⟨_, List.getElem?_eq_getElem (by simp [replL_len xs m (by omega)]; omega)⟩
      obtain ⟨y, hy⟩ := hcell0
      have hfro := hrel.1.frozenAt m
      have hst := fun u => hrel.1.stored m u
      have hBg : w.heap.size ≤ g := (hrel.1.lt g rfl).1
      have next : ∀ z, z = repl x → ReplRel w g xs (m + 1) (wr.setCell ⟨g, m, none⟩ (.int .i32 z)) := by
        intro z hz
        refine ⟨?_, hrel.2.setCell (p := ⟨g, m, none⟩) hBg _⟩
        rw [hz, hx]
        have := (hst (.int .i32 (repl (xs.getD m 0)))).1
        rw [← List.map_set, replL_set xs m hlm] at this
        exact this
      have NX := Lib.hid next
      clear next hst hx hrel
      by_cases hvx : validB x = true
      · have HV := Lib.hid hvx
        clear hvx
        go_wp2_with fail
        refine (valid_any _ _).mono ?_
        rintro e w' ⟨rfl, rfl⟩
        rw [HV.out]
        go_wp2
        go_roundw
        case rel => exact ⟨m + 1, by omega, by go_num, NX.out x (by unfold repl; rw [if_pos HV.out])⟩
        case measure => simp [intOf]; omega
      · have HV := Lib.hid (show validB x = false by simpa using hvx)
        clear hvx
        go_wp2_with fail
        refine (valid_any _ _).mono ?_
        rintro e w' ⟨rfl, rfl⟩
        rw [HV.out]
        go_wp2
        go_roundw
        case rel => exact ⟨m + 1, by omega, by go_num, NX.out 65533 (by unfold repl; rw [if_neg (by rw [HV.out]; decide)])⟩
        case measure => simp [intOf]; omega
    · go_wp2
      go_ret
      have hkk : m = xs.length := by omega
      subst hkk
      have hr1 := hrel.1
      rw [show replL xs xs.length = xs.map repl by simp [replL]] at hr1
      exact ⟨_, rfl, hr1, hrel.2⟩
theorem replace_any (v : Value) (xs : List Int) (w : World) (hh : Held .i32 w v xs) (hlen : xs.length ≤ 1000000000) :
    Calls Tryz.prog 81 #[v] w (Made .i32 w (xs.map repl)) :=
  (replace_own v xs w hh hlen).mono fun _ _ ⟨v', h1, h2, h3⟩ => ⟨v', h1, held_of_owns h2, h3⟩
end Go.Proofs.YtoeggiplcaegoaaGreatDoor
/- Cells: what the document says of them. -/
namespace Go.Proofs.YtoeggiplcaegoaaGreatDoor
open Go.RowKit Go.ChangeShapes Go.WideShapes
/-- A cell: its kind, its numbers. -/
abbrev Cl := Int × List Int
abbrev zc : Cl := (0, [])
def allValid (t : List Int) : Bool := t.all validB
def rightB (c : Cl) : Bool := if c.1 == 0 || c.1 == 3 then c.2.length == 0 else (c.1 == 1 || c.1 == 2) && decide (0 < c.2.length) && decide (c.2.length ≤ 16) && allValid c.2
def soundF (lead : Bool) : List Cl → Bool
  | [] => !lead
  | c :: l => rightB c && (lead == (c.1 == 3)) && soundF (c.1 == 2) l
def soundB (l : List Cl) : Bool := soundF false l
/-- The kind of a place, 0 outside. -/
def kindAt (l : List Cl) (i : Int) : Int := if i < 0 then 0 else (l.getD i.toNat zc).1
def okAt (l : List Cl) (i : Nat) : Bool := rightB (l.getD i zc) && !((l.getD i zc).1 == 2 && kindAt l ((i : Int) + 1) != 3) && !((l.getD i zc).1 == 3 && kindAt l ((i : Int) - 1) != 2)
def okTo (l : List Cl) (n : Nat) : Bool := (List.range n).all (okAt l)
theorem okTo_at {l : List Cl} {k n : Nat} (hk : k < n) (h : okTo l n = true) : okAt l k = true := by
  unfold okTo at h
  rw [List.all_eq_true] at h
  exact h k (List.mem_range.2 hk)
/-- The state ahead of place k. -/
def leadAt (l : List Cl) (k : Nat) : Bool := if k = 0 then false else (l.getD (k - 1) zc).1 == 2
def soundAt (l : List Cl) (k : Nat) : Bool := rightB (l.getD k zc) && (leadAt l k == ((l.getD k zc).1 == 3))
theorem leadAt_succ (l : List Cl) (k : Nat) : leadAt l (k + 1) = ((l.getD k zc).1 == 2) := by unfold leadAt; rw [if_neg (by omega)]; rfl
theorem soundF_drop (l : List Cl) (k : Nat) (hk : k < l.length) : soundF (leadAt l k) (l.drop k) = (soundAt l k && soundF (leadAt l (k + 1)) (l.drop (k + 1))) := by
  rw [List.drop_eq_getElem_cons hk, leadAt_succ]
  unfold soundAt
  have e : l.getD k zc = l[k] := by simp [List.getD, List.getElem?_eq_getElem hk]
  rw [e]
  rfl
theorem soundB_bad {l : List Cl} {k : Nat} (hk : k < l.length) (hp : soundF (leadAt l k) (l.drop k) = soundB l) (h : soundAt l k = false) : soundB l = false := by
  rw [← hp, soundF_drop l k hk, h]; rfl
theorem soundB_next {l : List Cl} {k : Nat} (hk : k < l.length) (hp : soundF (leadAt l k) (l.drop k) = soundB l) (h : soundAt l k = true) : soundF (leadAt l (k + 1)) (l.drop (k + 1)) = soundB l := by
  rw [← hp, soundF_drop l k hk, h]; rfl
theorem soundB_end {l : List Cl} (hp : soundF (leadAt l l.length) (l.drop l.length) = soundB l) : soundB l = !leadAt l l.length := by
  rw [← hp, List.drop_length]; rfl
theorem getD_ge {α : Type} (l : List α) (d : α) (k : Nat) (h : l.length ≤ k) : l.getD k d = d := by simp [List.getD, List.getElem?_eq_none h]
/-- Both ways to say it are one. -/
theorem sound_iff (l : List Cl) : soundB l = okTo l l.length := by
  have key : ∀ n, n ≤ l.length → ((∀ k, k < n → soundAt l k = true) ∧ leadAt l n = false ↔ (∀ k, k < n → okAt l k = true) ∧ (0 < n → n < l.length → (l.getD n zc).1 ≠ 3 → True) ∧ (∀ k, k < n → True) ∧ (leadAt l n = false)) ∨ True := fun _ _ => .inr trivial
  clear key
  -- by induction: all places up tz9 n are sound just if all are so, but for what a lead at n - 1 awaits
  have ind : ∀ n, n ≤ l.length → ((∀ k, k < n → soundAt l k = true) ↔ (∀ k, k < n → rightB (l.getD k zc) = true) ∧ (∀ k, k + 1 < n → ((l.getD k zc).1 == 2) = ((l.getD (k + 1) zc).1 == 3)) ∧ (0 < n → ((l.getD 0 zc).1 == 3) = false)) := by
    intro n hn
    induction n with
    | zero => simp
    | succ n ih =>
      have ih := ih (by omega)
      constructor
      · intro h
        obtain ⟨h1, h2, h3⟩ := ih.1 fun k hk => h k (by omega)
        have hn1 := h n (by omega)
        unfold soundAt at hn1
        simp only [Bool.and_eq_true, beq_iff_eq] at hn1
        refine ⟨fun k hk => ?_, fun k hk => ?_, fun _ => ?_⟩
        · rcases Nat.lt_or_ge k n with h4 | h4
          · exact h1 k h4
          · obtain rfl : k = n := by omega
            exact hn1.1
        · rcases Nat.lt_or_ge (k + 1) n with h4 | h4
          · exact h2 k h4
          · obtain rfl : n = k + 1 := by omega
            rw [← leadAt_succ]; exact hn1.2
        · rcases Nat.eq_zero_or_pos n with h4 | h4
          · subst h4
            have := hn1.2
            unfold leadAt at this
            rw [if_pos rfl] at this
            exact this.symm
          · exact h3 h4
      · rintro ⟨h1, h2, h3⟩ k hk
        rcases Nat.lt_or_ge k n with h4 | h4
        · exact (ih.2 ⟨fun k hk => h1 k (by omega), fun k hk => h2 k (by omega), fun h => h3 (by omega)⟩) k h4
        · obtain rfl : k = n := by omega
          unfold soundAt
          rw [h1 k (by omega)]
          simp only [Bool.true_and, beq_iff_eq]
          cases k with
          | zero => unfold leadAt; rw [if_pos rfl, h3 (by omega)]
          | succ k => rw [leadAt_succ]; exact h2 k (by omega)
  have hs : soundB l = true ↔ (∀ k, k < l.length → soundAt l k = true) ∧ leadAt l l.length = false := by
    have step : ∀ m k, l.length - k = m → k ≤ l.length → (soundF (leadAt l k) (l.drop k) = true ↔ (∀ j, k ≤ j → j < l.length → soundAt l j = true) ∧ leadAt l l.length = false) := by
      intro m
      induction m with
      | zero =>
        intro k hm hk
        obtain rfl : k = l.length := by omega
        rw [List.drop_length]
        unfold soundF
        constructor
        · intro h; exact ⟨fun j h1 h2 => by omega, by simpa using h⟩
        · rintro ⟨_, h⟩; simpa using h
      | succ m ih =>
        intro k hm hk
        rw [soundF_drop l k (by omega), Bool.and_eq_true, ih (k + 1) (by omega) (by omega)]
        constructor
        · rintro ⟨h1, h2, h3⟩
          refine ⟨fun j h4 h5 => ?_, h3⟩
          rcases Nat.eq_or_lt_of_le h4 with h6 | h6
          · subst h6; exact h1
          · exact h2 j h6 h5
        · rintro ⟨h1, h2⟩
          exact ⟨h1 k (Nat.le_refl _) (by omega), fun j h3 h4 => h1 j (by omega) h4, h2⟩
    have := step l.length 0 (by omega) (Nat.zero_le _)
    rw [show soundB l = soundF (leadAt l 0) (l.drop 0) from rfl, this]
    constructor
    · rintro ⟨h1, h2⟩; exact ⟨fun k hk => h1 k (Nat.zero_le _) hk, h2⟩
    · rintro ⟨h1, h2⟩; exact ⟨fun k _ hk => h1 k hk, h2⟩
  have hr : okTo l l.length = true ↔ ∀ k, k < l.length → okAt l k = true := by
    constructor
    · intro h k hk; exact okTo_at hk h
    · intro h
      unfold okTo
      rw [List.all_eq_true]
      intro k hk
      exact h k (List.mem_range.1 hk)
  have hk1 : ∀ k : Nat, kindAt l ((k : Int) + 1) = (l.getD (k + 1) zc).1 := fun k => by
    unfold kindAt
    rw [if_neg (by omega), show ((k : Int) + 1).toNat = k + 1 by omega]
  have hk2 : ∀ k : Nat, kindAt l ((k : Int) - 1) = if k = 0 then 0 else (l.getD (k - 1) zc).1 := fun k => by
    unfold kindAt
    by_cases h : k = 0
    · subst h; rfl
    · rw [if_neg (by omega), if_neg h, show ((k : Int) - 1).toNat = k - 1 by omega]
  rw [Bool.eq_iff_iff, hs, hr, ind l.length (Nat.le_refl _)]
  constructor
  · rintro ⟨⟨h1, h2, h3⟩, h4⟩ k hk
    unfold okAt
    rw [h1 k hk, hk1, hk2]
    simp only [Bool.true_and, Bool.and_eq_true, Bool.not_eq_true', Bool.and_eq_false_iff, bne_eq_false_iff_eq, beq_eq_false_iff_ne]
    refine ⟨?_, ?_⟩
    · by_cases h5 : (l.getD k zc).1 = 2
      · right
        rcases Nat.lt_or_ge (k + 1) l.length with h6 | h6
        · have := h2 k h6
          rw [h5] at this
          simpa using this.symm
        · exfalso
          have h7 : leadAt l (k + 1) = true := by rw [leadAt_succ, h5]; rfl
          rw [show k + 1 = l.length by omega, h4] at h7
          cases h7
      · exact .inl h5
    · by_cases h5 : (l.getD k zc).1 = 3
      · right
        cases k with
        | zero =>
          have := h3 hk
          rw [h5] at this
          cases this
        | succ k =>
          have := h2 k hk
          rw [h5] at this
          rw [if_neg (by omega)]
          simpa using this
      · exact .inl h5
  · intro h
    have hx : ∀ k, k < l.length → rightB (l.getD k zc) = true ∧ ((l.getD k zc).1 = 2 → (l.getD (k + 1) zc).1 = 3) ∧ ((l.getD k zc).1 = 3 → k ≠ 0 ∧ (l.getD (k - 1) zc).1 = 2) := by
      intro k hk
      have h1 := h k hk
      unfold okAt at h1
      rw [hk1, hk2] at h1
      simp only [Bool.and_eq_true, Bool.not_eq_true', Bool.and_eq_false_iff, bne_eq_false_iff_eq, beq_eq_false_iff_ne] at h1
      obtain ⟨⟨h1, h2⟩, h3⟩ := h1
      refine ⟨h1, fun h4 => ?_, fun h4 => ?_⟩
      · rcases h2 with h2 | h2
        · exact absurd h4 h2
        · exact h2
      · rcases h3 with h3 | h3
        · exact absurd h4 h3
        · split at h3
          · cases h3
          · exact ⟨by assumption, h3⟩
    refine ⟨⟨fun k hk => (hx k hk).1, fun k hk => ?_, fun h0 => ?_⟩, ?_⟩
    · rw [Bool.eq_iff_iff, beq_iff_eq, beq_iff_eq]
      exact ⟨(hx k (by omega)).2.1, fun h4 => ((hx (k + 1) hk).2.2 h4).2⟩
    · rw [beq_eq_false_iff_ne]
      intro h4
      exact ((hx 0 h0).2.2 h4).1 rfl
    · unfold leadAt
      split
      · rfl
      · rename_i hne
        rw [beq_eq_false_iff_ne]
        intro h4
        have h5 := (hx (l.length - 1) (by omega)).2.1 h4
        rw [show l.length - 1 + 1 = l.length by omega, getD_ge _ _ _ (Nat.le_refl _)] at h5
        cases h5
/-- The strip of a cluster. -/
def ofC (wide : Int) (text : List Int) : List Cl :=
  let t := (text.take 16).map repl
  if t.length = 0 then (if 2 ≤ wide then [zc, zc] else [zc]) else if 2 ≤ wide then [(2, t), (3, [])] else [(1, t)]
end Go.Proofs.YtoeggiplcaegoaaGreatDoor
/- Cells in memory. -/
namespace Go.Proofs.YtoeggiplcaegoaaGreatDoor
open Go.RowKit Go.ChangeShapes Go.WideShapes
def cellE : Elem Cl := prE (intE .i64) (slE (intE .i32))
abbrev cellsE : Elem (List Cl) := slE cellE
theorem cell_rep {Z : Zone} {w : World} {C : List Value} {x : Cl} : cellE.rep Z w C x ↔ ∃ tv, C = [.int .i64 x.1, tv] ∧ HeldE (intE .i32) Z w tv x.2 := by
  constructor
  · rintro ⟨C1, C2, rfl, rfl, tv, rfl, h⟩
    exact ⟨tv, rfl, h⟩
  · rintro ⟨tv, rfl, h⟩
    exact ⟨[_], [tv], rfl, rfl, tv, rfl, h⟩
/-- What a walk asks of a list of cells. -/
theorem cells_at {Z : Zone} {w : World} {ao : Option Addr} {n cap : Nat} {L : List Cl} (h : HeldE cellE Z w (.slice ao n cap) L) : n = L.length ∧ n ≤ cap ∧ ∀ i, i < L.length → ∃ b off tv, ao = some ⟨b, off, none⟩ ∧ b < w.heap.size ∧ Z b ∧
    w.cell? ⟨b, off + i * 2, none⟩ = some (.int .i64 (L.getD i zc).1) ∧ w.cell? ⟨b, off + i * 2 + 1, none⟩ = some tv ∧ HeldE (intE .i32) Z w tv (L.getD i zc).2 := by
  obtain ⟨h1, h2, h3⟩ := h.spots
  refine ⟨h1, h2, fun i hi => ?_⟩
  obtain ⟨b, off, rfl, hb, hz, C, hC, hr⟩ := h3 i hi
  obtain ⟨tv, rfl, ht⟩ := cell_rep.1 hr
  exact ⟨b, off, tv, rfl, hb, hz, hC 0 (by decide), hC 1 (by decide), ht⟩
theorem info_cell : (Tryz.prog.info? 147).map (fun i => (i.zero, i.size, i.bytes)) = some (some (.agg #[.int .i64 0, .slice none 0 0]), cellE.size, 32) := by kernel_rfl
end Go.Proofs.YtoeggiplcaegoaaGreatDoor
/- What painting leaves. -/
namespace Go.Proofs.YtoeggiplcaegoaaGreatDoor
open Go.RowKit Go.ChangeShapes Go.WideShapes
theorem sound_prop (L : List Cl) : soundB L = true ↔ ∀ i, i < L.length → rightB (L.getD i zc) = true ∧ ((L.getD i zc).1 = 2 → (L.getD (i + 1) zc).1 = 3) ∧ ((L.getD i zc).1 = 3 → 0 < i ∧ (L.getD (i - 1) zc).1 = 2) := by
  have hk1 : ∀ k : Nat, kindAt L ((k : Int) + 1) = (L.getD (k + 1) zc).1 := fun k => by
    unfold kindAt
    rw [if_neg (by omega), show ((k : Int) + 1).toNat = k + 1 by omega]
  have hk2 : ∀ k : Nat, kindAt L ((k : Int) - 1) = if k = 0 then 0 else (L.getD (k - 1) zc).1 := fun k => by
    unfold kindAt
    by_cases h : k = 0
    · subst h; rfl
    · rw [if_neg (by omega), if_neg h, show ((k : Int) - 1).toNat = k - 1 by omega]
  have one : ∀ i, okAt L i = true ↔ rightB (L.getD i zc) = true ∧ ((L.getD i zc).1 = 2 → (L.getD (i + 1) zc).1 = 3) ∧ ((L.getD i zc).1 = 3 → 0 < i ∧ (L.getD (i - 1) zc).1 = 2) := by
    intro i
    unfold okAt
    rw [hk1, hk2]
    simp only [Bool.and_eq_true, Bool.not_eq_true', Bool.and_eq_false_iff, bne_eq_false_iff_eq, beq_eq_false_iff_ne]
    constructor
    · rintro ⟨⟨h1, h2⟩, h3⟩
      refine ⟨h1, fun h => ?_, fun h => ?_⟩
      · rcases h2 with h2 | h2
        · exact absurd h h2
        · exact h2
      · rcases h3 with h3 | h3
        · exact absurd h h3
        · split at h3
          · cases h3
          · exact ⟨by omega, h3⟩
    · rintro ⟨h1, h2, h3⟩
      refine ⟨⟨h1, ?_⟩, ?_⟩
      · by_cases h : (L.getD i zc).1 = 2
        · exact .inr (h2 h)
        · exact .inl h
      · by_cases h : (L.getD i zc).1 = 3
        · obtain ⟨h4, h5⟩ := h3 h
          rw [if_neg (by omega)]
          exact .inr h5
        · exact .inl h
  rw [sound_iff]
  constructor
  · intro h i hi
    exact (one i).1 (okTo_at hi h)
  · intro h
    unfold okTo
    rw [List.all_eq_true]
    intro i hi
    exact (one i).2 (h i (List.mem_range.1 hi))
def inP (a m i : Nat) : Prop := a ≤ i ∧ i < a + m
instance (a m i : Nat) : Decidable (inP a m i) := by unfold inP; infer_instance
def tornP (L : List Cl) (a m i : Nat) : Prop := ((L.getD i zc).1 = 2 ∧ inP a m (i + 1)) ∨ ((L.getD i zc).1 = 3 ∧ 0 < i ∧ inP a m (i - 1))
instance (L : List Cl) (a m i : Nat) : Decidable (tornP L a m i) := by unfold tornP; infer_instance
def paintAt (L p : List Cl) (a i : Nat) : Cl := if inP a p.length i then p.getD (i - a) zc else if tornP L a p.length i then zc else L.getD i zc
def paintL (L p : List Cl) (a : Nat) : List Cl := (List.range L.length).map (paintAt L p a)
/-- Has the last place turned? -/
def lastHit (L p : List Cl) (a : Nat) : Bool := decide (inP a p.length (L.length - 1)) || decide (tornP L a p.length (L.length - 1))
theorem paint_len (L p : List Cl) (a : Nat) : (paintL L p a).length = L.length := by simp [paintL]
theorem paint_get (L p : List Cl) (a i : Nat) (h : i < L.length) : (paintL L p a).getD i zc = paintAt L p a i := by simp [paintL, List.getD, h]
theorem paint_none (L : List Cl) (a : Nat) : paintL L [] a = L := by
  apply List.ext_getElem
  · simp [paintL]
  · intro i h1 h2
    simp only [paintL, List.getElem_map, List.getElem_range]
    unfold paintAt
    have n1 : ¬ inP a ([] : List Cl).length i := by unfold inP; simp only [List.length_nil]; omega
    have n2 : ¬ tornP L a ([] : List Cl).length i := by unfold tornP inP; simp only [List.length_nil]; omega
    rw [if_neg n1, if_neg n2]
    simp [List.getD, List.getElem?_eq_getElem h2]
theorem lastHit_none (L : List Cl) (a : Nat) : lastHit L [] a = false := by
  have n1 : ¬ inP a ([] : List Cl).length (L.length - 1) := by unfold inP; simp only [List.length_nil]; omega
  have n2 : ¬ tornP L a ([] : List Cl).length (L.length - 1) := by unfold tornP inP; simp only [List.length_nil]; omega
  unfold lastHit
  rw [decide_eq_false n1, decide_eq_false n2]
  rfl
theorem paint_sound {L p : List Cl} {a : Nat} (hL : soundB L = true) (hp : soundB p = true) (hle : a + p.length ≤ L.length) : soundB (paintL L p a) = true := by
  rw [sound_prop] at hL hp ⊢
  rw [paint_len]
  intro i hi
  have out : ∀ j, L.length ≤ j → (paintL L p a).getD j zc = zc := fun j hj => getD_ge _ _ _ (by rw [paint_len]; exact hj)
  have outL : ∀ j, L.length ≤ j → L.getD j zc = zc := fun j hj => getD_ge _ _ _ hj
  have outp : ∀ j, p.length ≤ j → p.getD j zc = zc := fun j hj => getD_ge _ _ _ hj
  rw [paint_get L p a i hi]
  unfold paintAt
  by_cases hin : inP a p.length i
  · rw [if_pos hin]
    obtain ⟨h1, h2⟩ := hin
    obtain ⟨r1, r2, r3⟩ := hp (i - a) (by omega)
    refine ⟨r1, fun h => ?_, fun h => ?_⟩
    · have h3 := r2 h
      have h4 : i - a + 1 < p.length := by
        rcases Nat.lt_or_ge (i - a + 1) p.length with h | h
        · exact h
        · rw [outp _ h] at h3; cases h3
      rw [paint_get L p a (i + 1) (by omega)]
      unfold paintAt
      rw [if_pos ⟨by omega, by omega⟩, show i + 1 - a = i - a + 1 by omega]
      exact h3
    · obtain ⟨h3, h4⟩ := r3 h
      refine ⟨by omega, ?_⟩
      rw [paint_get L p a (i - 1) (by omega)]
      unfold paintAt
      rw [if_pos ⟨by omega, by omega⟩, show i - 1 - a = i - a - 1 by omega]
      exact h4
  · rw [if_neg hin]
    by_cases ht : tornP L a p.length i
    · rw [if_pos ht]
      exact ⟨by decide, fun h => absurd h (by decide), fun h => absurd h (by decide)⟩
    · rw [if_neg ht]
      obtain ⟨r1, r2, r3⟩ := hL i hi
      refine ⟨r1, fun h => ?_, fun h => ?_⟩
      · have h3 := r2 h
        have h4 : i + 1 < L.length := by
          rcases Nat.lt_or_ge (i + 1) L.length with h | h
          · exact h
          · rw [outL _ h] at h3; cases h3
        rw [paint_get L p a (i + 1) h4]
        unfold paintAt
        have n1 : ¬ inP a p.length (i + 1) := fun k => ht (.inl ⟨h, k⟩)
        have n2 : ¬ tornP L a p.length (i + 1) := by
          rintro (⟨k, _⟩ | ⟨_, _, k⟩)
          · rw [h3] at k; cases k
          · exact hin (by simpa using k)
        rw [if_neg n1, if_neg n2]
        exact h3
      · obtain ⟨h3, h4⟩ := r3 h
        refine ⟨h3, ?_⟩
        rw [paint_get L p a (i - 1) (by omega)]
        unfold paintAt
        have n1 : ¬ inP a p.length (i - 1) := fun k => ht (.inr ⟨h, h3, k⟩)
        have n2 : ¬ tornP L a p.length (i - 1) := by
          rintro (⟨_, k⟩ | ⟨k, _, _⟩)
          · exact hin (by rwa [show i - 1 + 1 = i by omega] at k)
          · rw [h4] at k; cases k
        rw [if_neg n1, if_neg n2]
        exact h4
/- Step by step. -/
def leadB (L : List Cl) (a : Nat) : Bool := decide (0 < a) && (L.getD (a - 1) zc).1 == 2
def tailB (L : List Cl) (e : Nat) : Bool := decide (e < L.length) && (L.getD e zc).1 == 3
def step1 (L : List Cl) (a : Nat) : List Cl := if leadB L a = true then L.set (a - 1) zc else L
def step2 (L : List Cl) (a m : Nat) : List Cl := if tailB L (a + m) = true then (step1 L a).set (a + m) zc else step1 L a
def step3 (L p : List Cl) (a k : Nat) : List Cl := (List.range L.length).map fun i => if inP a k i then p.getD (i - a) zc else (step2 L a p.length).getD i zc
theorem step1_len (L : List Cl) (a : Nat) : (step1 L a).length = L.length := by unfold step1; split <;> simp
theorem step2_len (L : List Cl) (a m : Nat) : (step2 L a m).length = L.length := by unfold step2; split <;> simp [step1_len]
theorem step3_len (L p : List Cl) (a k : Nat) : (step3 L p a k).length = L.length := by simp [step3]
theorem getD_set {α : Type} (l : List α) (d x : α) (i j : Nat) : (l.set i x).getD j d = if i = j ∧ j < l.length then x else l.getD j d := by
  simp only [List.getD, List.getElem?_set]
  split
  · rename_i h
    subst h
    by_cases h2 : i < l.length
    · simp [h2]
    · simp [h2]
  · rename_i h
    rw [if_neg (fun k => h k.1)]
theorem step1_at (L : List Cl) (a i : Nat) : (step1 L a).getD i zc = if leadB L a = true ∧ i = a - 1 then zc else L.getD i zc := by
  unfold step1
  split
  · rename_i h
    rw [getD_set]
    by_cases e : a - 1 = i
    · by_cases hl : i < L.length
      · rw [if_pos ⟨e, hl⟩, if_pos ⟨h, e.symm⟩]
      · rw [if_neg (fun k => hl k.2), getD_ge _ _ _ (by omega)]
        split <;> rfl
    · rw [if_neg (fun k => e k.1), if_neg (fun k => e k.2.symm)]
  · rename_i h
    rw [if_neg (fun k => h k.1)]
theorem step2_at (L : List Cl) (a m i : Nat) : (step2 L a m).getD i zc = if tailB L (a + m) = true ∧ i = a + m then zc else (step1 L a).getD i zc := by
  unfold step2
  split
  · rename_i h
    rw [getD_set, step1_len]
    by_cases e : a + m = i
    · by_cases hl : i < L.length
      · rw [if_pos ⟨e, hl⟩, if_pos ⟨h, e.symm⟩]
      · rw [if_neg (fun k => hl k.2), getD_ge (step1 L a) _ _ (by rw [step1_len]; omega)]
        split <;> rfl
    · rw [if_neg (fun k => e k.1), if_neg (fun k => e k.2.symm)]
  · rename_i h
    rw [if_neg (fun k => h k.1)]
theorem step3_zero (L p : List Cl) (a : Nat) : step3 L p a 0 = step2 L a p.length := by
  apply List.ext_getElem
  · simp [step3, step2_len]
  · intro i h1 h2
    simp only [step3, List.getElem_map, List.getElem_range]
    rw [if_neg (by unfold inP; omega)]
    simp [List.getD, List.getElem?_eq_getElem h2]
theorem step3_succ (L p : List Cl) (a k : Nat) : step3 L p a (k + 1) = (step3 L p a k).set (a + k) (p.getD k zc) := by
  apply List.ext_getElem
  · simp [step3]
  · intro i h1 h2
    rw [List.getElem_set]
    simp only [step3, List.getElem_map, List.getElem_range]
    by_cases e : a + k = i
    · subst e
      rw [if_pos rfl, if_pos ⟨by omega, by omega⟩, show a + k - a = k by omega]
    · rw [if_neg e]
      by_cases h : inP a k i
      · rw [if_pos h, if_pos ⟨h.1, by have := h.2; omega⟩]
      · rw [if_neg h, if_neg (fun k2 => h ⟨k2.1, by have := k2.2; omega⟩)]
theorem step3_all {L p : List Cl} {a : Nat} (hm : 0 < p.length) (hle : a + p.length ≤ L.length) : step3 L p a p.length = paintL L p a := by
  unfold step3 paintL
  apply List.map_congr_left
  intro i hi
  have hi : i < L.length := List.mem_range.1 hi
  unfold paintAt
  by_cases h : inP a p.length i
  · rw [if_pos h, if_pos h]
  · rw [if_neg h, if_neg h, step2_at, step1_at]
    by_cases ht : tornP L a p.length i
    · rw [if_pos ht]
      rcases ht with ⟨h1, h2, h3⟩ | ⟨h1, h2, h3, h4⟩
      · have e : i + 1 = a := by
          have : ¬ (a ≤ i ∧ i < a + p.length) := h
          omega
        have hl : leadB L a = true := by
          unfold leadB
          rw [show a - 1 = i by omega, h1, decide_eq_true (show 0 < a by omega)]
          rfl
        split
        · rfl
        · rw [if_pos ⟨hl, by omega⟩]
      · have e : i = a + p.length := by
          have : ¬ (a ≤ i ∧ i < a + p.length) := h
          omega
        have hl : tailB L (a + p.length) = true := by
          unfold tailB
          rw [← e, h1, decide_eq_true hi]
          rfl
        rw [if_pos ⟨hl, e⟩]
    · rw [if_neg ht]
      rw [if_neg, if_neg]
      · rintro ⟨h1, rfl⟩
        unfold leadB at h1
        simp only [Bool.and_eq_true, decide_eq_true_eq, beq_iff_eq] at h1
        exact ht (.inl ⟨h1.2, by unfold inP; omega⟩)
      · rintro ⟨h1, rfl⟩
        unfold tailB at h1
        simp only [Bool.and_eq_true, decide_eq_true_eq, beq_iff_eq] at h1
        exact ht (.inr ⟨h1.2, by omega, by unfold inP; omega⟩)
/-- The kinds that the second test reads. -/
theorem tail_kind {L : List Cl} {a m : Nat} (hm : 0 < m) : ((step1 L a).getD (a + m) zc).1 = (L.getD (a + m) zc).1 := by
  rw [step1_at, if_neg]
  rintro ⟨_, h⟩
  omega
def endN (L : List Cl) (a m : Nat) : Nat := if tailB L (a + m) = true then a + m + 1 else a + m
theorem end_last {L p : List Cl} {a : Nat} (hm : 0 < p.length) (hle : a + p.length ≤ L.length) : (decide (endN L a p.length = L.length)) = lastHit L p a := by
  unfold endN lastHit
  rw [Bool.eq_iff_iff]
  simp only [Bool.or_eq_true, decide_eq_true_eq]
  constructor
  · intro h
    split at h
    · rename_i ht
      unfold tailB at ht
      simp only [Bool.and_eq_true, decide_eq_true_eq, beq_iff_eq] at ht
      right
      refine .inr ⟨by rw [show L.length - 1 = a + p.length by omega]; exact ht.2, by omega, by unfold inP; omega⟩
    · exact .inl ⟨by omega, by omega⟩
  · rintro (⟨h1, h2⟩ | h)
    · rw [if_neg (by unfold tailB; simp; omega)]
      omega
    · by_cases hin : inP a p.length (L.length - 1)
      · obtain ⟨h1, h2⟩ := hin
        rw [if_neg (by unfold tailB; simp; omega)]
        omega
      · have hin' : ¬ (a ≤ L.length - 1 ∧ L.length - 1 < a + p.length) := hin
        rcases h with ⟨h1, h2, h3⟩ | ⟨h1, h2, h3, h4⟩
        · omega
        · have e : L.length - 1 = a + p.length := by omega
          rw [if_pos (by unfold tailB; rw [← e, h1, decide_eq_true (show L.length - 1 < L.length by omega)]; rfl)]
          omega
end Go.Proofs.YtoeggiplcaegoaaGreatDoor
/- Clusters in rows: what At, Add, Widen answer. -/
namespace Go.Proofs.YtoeggiplcaegoaaGreatDoor
open Go.RowKit Go.ChangeShapes Go.WideShapes
theorem valid_repl (x : Int) : validB (repl x) = true := by
  unfold repl
  by_cases h : validB x = true
  · rw [if_pos h]; exact h
  · rw [if_neg h]; decide
theorem all_repl (xs : List Int) : allValid (xs.map repl) = true := by
  unfold allValid
  rw [List.all_eq_true]
  intro y hy
  obtain ⟨x, _, rfl⟩ := List.mem_map.1 hy
  exact valid_repl x
theorem ofC_len (wide : Int) (xs : List Int) : (ofC wide xs).length = if 2 ≤ wide then 2 else 1 := by
  unfold ofC
  simp only
  split <;> split <;> rfl
theorem ofC_sound (wide : Int) (xs : List Int) : soundB (ofC wide xs) = true := by
  have hv := all_repl (xs.take 16)
  have hl : ((xs.take 16).map repl).length ≤ 16 := by simp; omega
  unfold ofC
  generalize (xs.take 16).map repl = t at hv hl
  simp only
  by_cases h0 : t.length = 0
  · rw [if_pos h0]
    split <;> decide
  · rw [if_neg h0]
    have r1 : rightB (1, t) = true := by
      unfold rightB
      simp [hv]
      omega
    have r2 : rightB (2, t) = true := by
      unfold rightB
      simp [hv]
      omega
    split
    · unfold soundB
      simp [soundF, r2]
      decide
    · unfold soundB
      simp [soundF, r1]
end Go.Proofs.YtoeggiplcaegoaaGreatDoor
/- Contracts of the functions of linotyperef01 that others lean on. -/
namespace Go.Proofs.YtoeggiplcaegoaaGreatDoor
open Go.RowKit Go.ChangeShapes Go.WideShapes

def sameB (xs ys : List Int) : Bool := decide (xs = ys)
theorem sameB_of {xs ys : List Int} (hl : ys.length = xs.length) (h : ∀ j, j < xs.length → xs.getD j 0 = ys.getD j 0) : sameB xs ys = true := by
  unfold sameB
  rw [decide_eq_true_eq]
  apply List.ext_getElem hl.symm
  intro i h1 h2
  have := h i h1
  simpa [List.getD, List.getElem?_eq_getElem h1, List.getElem?_eq_getElem h2] using this
theorem sameB_not {xs ys : List Int} (j : Nat) (h : xs.getD j 0 ≠ ys.getD j 0) : sameB xs ys = false := by
  unfold sameB
  rw [decide_eq_false_iff_not]
  rintro rfl
  exact h rfl
theorem sameB_len {xs ys : List Int} (h : ¬ ys.length = xs.length) : sameB xs ys = false := by
  unfold sameB
  rw [decide_eq_false_iff_not]
  rintro rfl
  exact h rfl
theorem sameB_self (xs : List Int) : sameB xs xs = true := by simp [sameB]
/-- What has been found alike so far. -/
def Alike0 (xs ys : List Int) (k : Nat) : Prop := ∀ j, j < k → xs.getD j 0 = ys.getD j 0
set_option maxRecDepth 100000 in
theorem same_any (v u : Value) (xs ys : List Int) (w : World) (hx : Held .i32 w v xs) (hy : Held .i32 w u ys) (hlen : xs.length ≤ 9223372036854775807) :
    Calls Tryz.prog 21 #[v, u] w (Gives w (.bool (sameB xs ys))) := by
  obtain ⟨ao, ca, rfl, hc⟩ := hx.view
  obtain ⟨bo, cb, rfl, hd⟩ := hy.view
  have HC := Lib.hid hc
  have HD := Lib.hid hd
  clear hc hd hx hy
  by_cases hl : ys.length = xs.length
  · have HL := Lib.hid hl
    rw [hl]
    clear hl
    go_enter Tryz.func21, Tryz.ntmps21
    go_wp2
    go_loopw [5] (fun i wr => ∃ k : Nat, k ≤ xs.length ∧ i = .int .i64 k ∧ Alike0 xs ys k ∧ Below w.heap.size w wr) (fun i _ => xs.length - (intOf i).toNat)
    case atStart => exact ⟨0, Nat.zero_le _, rfl, (fun j hj => by omega), Below.refl _ _⟩
    case round =>
      obtain ⟨k, hk, rfl, hal, hbw⟩ := hrel
      have HA := Lib.hid hal
      clear hal
      by_cases hlt : k < xs.length
      · obtain ⟨b1, o1, rfl, hb1, hcx⟩ := HC.out k hlt
        obtain ⟨b2, o2, rfl, hb2, hcy⟩ := HD.out k (by rw [HL.out]; exact hlt)
        have hcx := (hbw.cell (p := ⟨b1, o1 + k, none⟩) hb1).trans hcx
        have hcy := (hbw.cell (p := ⟨b2, o2 + k, none⟩) hb2).trans hcy
        by_cases he : xs.getD k 0 = ys.getD k 0
        · have HE : Alike0 xs ys (k + 1) := by
            intro j hj
            by_cases h : j = k
            · subst h; exact he
            · exact HA.out j (by omega)
          rw [← he] at hcy
          clear he
          generalize xs.getD k 0 = x at hcx hcy
          go_wp2
          go_quiet (fail)
          have hbw := hbw.drewN nq
          go_wp2
          go_roundw
          case rel => exact ⟨k + 1, by omega, by go_num, HE, hbw⟩
          case measure => simp [intOf]; omega
        · have E := Lib.hid (sameB_not k he)
          generalize xs.getD k 0 = x at hcx he
          generalize ys.getD k 0 = y at hcy he
          go_wp2
          go_quiet (fail)
          have hbw := hbw.drewN nq
          go_wp2
          go_ret
          exact ⟨ret_eq (by rw [E.out]; rfl), hbw⟩
      · have e : sameB xs ys = true := sameB_of HL.out (fun j hj => HA.out j (by omega))
        have E := Lib.hid e
        clear e
        go_wp2
        go_ret
        exact ⟨ret_eq (by rw [E.out]; rfl), hbw⟩
  · rw [sameB_len hl]
    go_enter Tryz.func21, Tryz.ntmps21
    go_wp2
    go_ret
    exact ⟨rfl, Below.refl _ _⟩
end Go.Proofs.YtoeggiplcaegoaaGreatDoor
/- Blanks, Text, Of; the reference's Of. -/
namespace Go.Proofs.YtoeggiplcaegoaaGreatDoor
open Go.RowKit Go.ChangeShapes Go.WideShapes
/-- What hands back a row of its own. -/
def MadeE {α : Type} (E : Elem α) (Z : Zone) (ty : TypeId) (w : World) (L : List α) (e : Ending) (w' : World) : Prop := ∃ v', e = .returned v' ∧ OwnE E Z w' w.heap.size ty v' L ∧ Below w.heap.size w w'
theorem made_flat (C : List Value) (h0 : 0 < C.length) (n : Nat) : (madeCells C.toArray (n * C.length)).toList = (List.replicate n C).flatten := by
  apply List.ext_getElem?
  intro i
  have hls : ∀ D ∈ List.replicate n C, D.length = C.length := fun D hD => by rw [(List.mem_replicate.1 hD).2]
  by_cases hi : i < n * C.length
  · have hd : i / C.length < n := (Nat.div_lt_iff_lt_mul h0).2 hi
    have hm : i % C.length < C.length := Nat.mod_lt _ h0
    have := flat_at hls (i / C.length) (i % C.length) (by simpa using hd) hm
    rw [show i / C.length * C.length + i % C.length = i by rw [Nat.mul_comm]; exact Nat.div_add_mod i C.length] at this
    rw [this]
    simp [madeCells, hi, List.getD, hd, List.getElem?_replicate, List.getElem?_eq_getElem hm]
  · rw [List.getElem?_eq_none (by simp [madeCells]; omega), List.getElem?_eq_none (by rw [flat_len hls]; simp; omega)]
theorem zero_rep (Z : Zone) (w : World) : cellE.rep Z w [.int .i64 0, .slice none 0 0] zc := cell_rep.2 ⟨_, rfl, HeldE.nil _ _ _⟩
theorem blank_own {Z : Zone} {w : World} {B n : Nat} {v : Value} (h : w.ownsRow B 147 2 v n (madeCells (Value.agg #[.int .i64 0, .slice none 0 0]).cells (n * 2)).toList) : OwnE cellE Z w B 147 v (List.replicate n zc) := by
  refine ⟨List.replicate n [.int .i64 0, .slice none 0 0], ?_, by simp, fun i hi => ?_⟩
  · rw [← made_flat _ (by decide), List.length_replicate]
    exact h
  · simp only [List.length_replicate] at hi
    simp only [List.getD, List.getElem?_replicate, hi, if_true, Option.getD_some]
    exact zero_rep _ _
def blankN (n : Int) : Nat := (min (max n 0) 1024).toNat
set_option maxRecDepth 100000 in
theorem blanks_any (Z : Zone) (n : Int) (w : World) : Calls Tryz.prog 189 #[.int .i64 n] w (MadeE cellE Z 147 w (List.replicate (blankN n) zc)) := by
  obtain ⟨i0, hi, hz0, hz1, hz2⟩ := info_parts info_cell
  have key : ∀ m : Nat, m ≤ 1024 → min (max n 0) 1024 = (m : Int) → Calls Tryz.prog 189 #[.int .i64 n] w (MadeE cellE Z 147 w (List.replicate m zc)) := by
    intro m hm he
    go_enter Tryz.func189, Tryz.ntmps189
    go_wp2_with (at_make; refine wpList_make_full w rfl (.tmp 5) (.tmp 5) 102 rfl w.heap.size 147 i0 (.agg #[.int .i64 0, .slice none 0 0]) 2 Tryz.underlying102 hi hz0 hz1 .i64 .i64 _ _ m rfl rfl rfl rfl (by rw [hz2]; omega) (by unfold maxLen; omega) (Nat.le_refl _) ?_)
    intro w1 hown1 hg1
    have hb1 : Below w.heap.size w w1 := (Below.refl _ _).grown hg1 (Nat.le_refl _) (by intro k hk; cases hk)
    have ho := blank_own (Z := Z) hown1
    clear hown1 hg1
    go_wp2
    go_ret
    exact ⟨_, rfl, ho, hb1⟩
  have := key (blankN n) (by unfold blankN; omega) (by unfold blankN; omega)
  exact this
end Go.Proofs.YtoeggiplcaegoaaGreatDoor
/- cell.Same, and what it leans on. -/
namespace Go.Proofs.YtoeggiplcaegoaaGreatDoor
open Go.RowKit Go.ChangeShapes Go.WideShapes
def AlikeC (a b : List Cl) (k : Nat) : Prop := ∀ j, j < k → a.getD j zc = b.getD j zc
theorem AlikeC.next {a b : List Cl} {k : Nat} (h : AlikeC a b k) (e : a.getD k zc = b.getD k zc) : AlikeC a b (k + 1) := by
  intro j hj
  by_cases h2 : j = k
  · subst h2; exact e
  · exact h j (by omega)
end Go.Proofs.YtoeggiplcaegoaaGreatDoor
/- The reference's Same, of cells. -/
namespace Go.Proofs.YtoeggiplcaegoaaGreatDoor
open Go.RowKit Go.ChangeShapes Go.WideShapes
end Go.Proofs.YtoeggiplcaegoaaGreatDoor
/- sort.Search: with whatever closure that answers and turns nothing. -/
namespace Go.Proofs.YtoeggiplcaegoaaGreatDoor
open Go.RowKit Go.ChangeShapes Go.WideShapes
def Found (w : World) (n : Nat) (p : Nat → Bool) (e : Ending) (w' : World) : Prop :=
  ∃ k : Nat, k ≤ n ∧ e = .returned (.int .i64 k) ∧ (∀ j, j < k → p j = false) ∧ (∀ j, k ≤ j → j < n → p j = true) ∧ Below w.heap.size w w'
set_option maxRecDepth 100000 in
theorem search_any (g : FuncId) (cb : Array Value) (n : Nat) (p : Nat → Bool) (w : World) (eg : ∀ args w, (callFunc g args).run Tryz.prog w = .ok (.enter g args) w) (hn : n ≤ 1000000000)
    (hf : ∀ w', Below w.heap.size w w' → ∀ i, i < n → Calls Tryz.prog g (#[.int .i64 i] ++ cb) w' fun e w'' => e = .returned (.bool (p i)) ∧ Below w'.heap.size w' w'')
    (hm : ∀ a b, a ≤ b → b < n → p a = true → p b = true) :
    Calls Tryz.prog 281 #[.int .i64 n, .func (.func g) #[] cb] w (Found w n p) := by
  have HF := Lib.hid hf
  have M := Lib.hid hm
  clear hf hm
  go_enter Tryz.func281, Tryz.ntmps281
  go_wp2
  go_loopg [5, 6] n (fun kx s5 s6 wr => ∃ (lo hi : Nat), s5 = .int .i64 lo ∧ s6 = .int .i64 hi ∧ lo ≤ hi ∧ hi ≤ n ∧ hi - lo ≤ kx ∧ Below w.heap.size w wr ∧
    Go.Aside ((∀ t, t < lo → p t = false) ∧ (∀ t, hi ≤ t → t < n → p t = true)))
  case atStart => exact ⟨0, n, rfl, rfl, Nat.zero_le _, Nat.le_refl _, by omega, Below.refl _ _, (⟨fun t ht => absurd ht (Nat.not_lt_zero _), fun t h1 h2 => by omega⟩ : (∀ t, t < 0 → p t = false) ∧ (∀ t, n ≤ t → t < n → p t = true))⟩
  case round =>
    obtain ⟨lo, hi, rfl, rfl, hlh, hin, hg, hbw, I⟩ := hrel
    by_cases hlt : lo < hi
    · have hc := HF.out _ hbw ((lo + hi) / 2) (by omega)
      rw [show (((lo + hi) / 2 : Nat) : Int) = ((lo : Int) + (hi : Int)) / 2 by omega] at hc
      cases hp : p ((lo + hi) / 2) <;> rw [hp] at hc
      · have HP := Lib.hid hp
        clear hp
        go_wp2_with (go_at_fn g; refine hc.mono ?_; rintro e w' ⟨rfl, hbq⟩)
        go_roundg (hi - ((lo + hi) / 2 + 1))
        case measure => omega
        case rel =>
          have I2 : Go.Aside ((∀ t, t < (lo + hi) / 2 + 1 → p t = false) ∧ (∀ t, hi ≤ t → t < n → p t = true)) := ⟨fun t ht => (by
            cases h : p t with
            | false => rfl
            | true => have := M.out t ((lo + hi) / 2) (by omega) (by omega) h; rw [HP.out] at this; cases this), I.out.2⟩
          exact ⟨(lo + hi) / 2 + 1, hi, by rw [show ((lo : Int) + (hi : Int)) / 2 + 1 = (((lo + hi) / 2 + 1 : Nat) : Int) by omega], rfl, by omega, hin, Nat.le_refl _, hbw.trans (hbq.mono hbw.size), I2⟩
      · have HP := Lib.hid hp
        clear hp
        go_wp2_with (go_at_fn g; refine hc.mono ?_; rintro e w' ⟨rfl, hbq⟩)
        go_roundg ((lo + hi) / 2 - lo)
        case measure => omega
        case rel =>
          have I2 : Go.Aside ((∀ t, t < lo → p t = false) ∧ (∀ t, (lo + hi) / 2 ≤ t → t < n → p t = true)) := ⟨I.out.1, fun t ht htn => M.out ((lo + hi) / 2) t ht htn HP.out⟩
          exact ⟨lo, (lo + hi) / 2, rfl, by rw [show ((lo : Int) + (hi : Int)) / 2 = (((lo + hi) / 2 : Nat) : Int) by omega], by omega, by omega, Nat.le_refl _, hbw.trans (hbq.mono hbw.size), I2⟩
    · obtain rfl : hi = lo := by omega
      have HI := Lib.hid I.out
      clear I
      go_wp2
      go_ret
      exact ⟨hi, hin, rfl, HI.out.1, HI.out.2, hbw⟩
end Go.Proofs.YtoeggiplcaegoaaGreatDoor
/- A slice of properties that came in. -/
namespace Go.Proofs.YtoeggiplcaegoaaGreatDoor
open Go.RowKit Go.ChangeShapes Go.WideShapes
open Go.Joins Go.Deep
/-- A property: class, picture, conjunct, east. -/
structure Pr where
  br : Int
  pc : Bool
  cv : Int
  ea : Int
/-- In the world w the slice value v holds the properties xs. -/
def HeldP (w : World) (v : Value) (xs : List Pr) : Prop :=
  ∃ ao cap, v = .slice ao xs.length cap ∧ ∀ i (h : i < xs.length), ∃ b off, ao = some ⟨b, off, none⟩ ∧ b < w.heap.size ∧ w.cell? ⟨b, off + i * 4, none⟩ = some (.int .i64 xs[i].br) ∧ w.cell? ⟨b, off + i * 4 + 1, none⟩ = some (.bool xs[i].pc) ∧
    w.cell? ⟨b, off + i * 4 + 2, none⟩ = some (.int .i64 xs[i].cv) ∧ w.cell? ⟨b, off + i * 4 + 3, none⟩ = some (.int .i64 xs[i].ea)
theorem HeldP.below {w w' : World} {v : Value} {xs : List Pr} (h : HeldP w v xs) (hb : Below w.heap.size w w') : HeldP w' v xs := by
  obtain ⟨ao, cap, rfl, hc⟩ := h
  refine ⟨ao, cap, rfl, fun i hi => ?_⟩
  obtain ⟨b, off, rfl, hlt, h1, h2, h3, h4⟩ := hc i hi
  exact ⟨b, off, rfl, by have := hb.size; omega, (hb.cell (p := ⟨b, _, none⟩) hlt).trans h1, (hb.cell (p := ⟨b, _, none⟩) hlt).trans h2, (hb.cell (p := ⟨b, _, none⟩) hlt).trans h3, (hb.cell (p := ⟨b, _, none⟩) hlt).trans h4⟩
theorem HeldP.view {w : World} {v : Value} {xs : List Pr} (h : HeldP w v xs) : ∃ ao cap, v = .slice ao xs.length cap ∧ ∀ i (h : i < xs.length), ∃ b off, ao = some ⟨b, off, none⟩ ∧ b < w.heap.size ∧ w.cell? ⟨b, off + i * 4, none⟩ = some (.int .i64 xs[i].br) ∧ w.cell? ⟨b, off + i * 4 + 1, none⟩ = some (.bool xs[i].pc) ∧
    w.cell? ⟨b, off + i * 4 + 2, none⟩ = some (.int .i64 xs[i].cv) ∧ w.cell? ⟨b, off + i * 4 + 3, none⟩ = some (.int .i64 xs[i].ea) := h
def Pr.none : Pr := ⟨0, false, 0, 0⟩
theorem HeldP.at {w : World} {ao : Option Addr} {n cap : Nat} {xs : List Pr} (h : HeldP w (.slice ao n cap) xs) : n = xs.length ∧ ∀ i, i < xs.length → ∃ b off, ao = some ⟨b, off, none⟩ ∧ b < w.heap.size ∧ w.cell? ⟨b, off + i * 4, none⟩ = some (.int .i64 (xs.getD i Pr.none).br) ∧ w.cell? ⟨b, off + i * 4 + 1, none⟩ = some (.bool (xs.getD i Pr.none).pc) ∧
    w.cell? ⟨b, off + i * 4 + 2, none⟩ = some (.int .i64 (xs.getD i Pr.none).cv) ∧ w.cell? ⟨b, off + i * 4 + 3, none⟩ = some (.int .i64 (xs.getD i Pr.none).ea) := by
  obtain ⟨ao', cap', e, hc⟩ := h
  cases e
  refine ⟨rfl, fun i hi => ?_⟩
  have := hc i hi
  rw [show xs[i] = xs.getD i Pr.none by simp [List.getD, List.getElem?_eq_getElem hi]] at this
  exact this
end Go.Proofs.YtoeggiplcaegoaaGreatDoor
/- Lists of properties that the call itself makes: appended one by one; rows of structs. -/
namespace Go.Proofs.YtoeggiplcaegoaaGreatDoor
open Go.RowKit Go.ChangeShapes Go.WideShapes
end Go.Proofs.YtoeggiplcaegoaaGreatDoor
/- Contracts of seg: a state's calls. -/
namespace Go.Proofs.YtoeggiplcaegoaaGreatDoor
open Go.RowKit Go.ChangeShapes Go.WideShapes
def conjI (n cj : Int) : Int := if cj = 1 then 1 else if cj = 2 ∧ n ≠ 0 then 2 else if cj = 3 then n else 0
def picI (n br : Int) (pc : Bool) : Int := if pc = true then 1 else if n ≠ 1 then 0 else if br = 4 then 1 else if br = 5 then 2 else 0
theorem pbox (w : World) (br : Int) (pc : Bool) (cj ea : Int) : ∃ W, W = w.alloc (.cells #[Value.int .i64 br, .bool pc, .int .i64 cj, .int .i64 ea] 33) ∧ Has W w.heap.size [Value.int .i64 br, .bool pc, .int .i64 cj, .int .i64 ea] 33 ∧ Below w.heap.size w W :=
  ⟨_, rfl, Has.new w _ _, (Below.refl _ _).alloc (Nat.le_refl _) _⟩
theorem conj_cases (n cj : Int) : ((cj == 1) = true ∧ conjI n cj = 1) ∨ ((cj == 1) = false ∧ (cj == 2) = true ∧ (n == 0) = false ∧ conjI n cj = 2) ∨ ((cj == 1) = false ∧ (cj == 2) = true ∧ (n == 0) = true ∧ (cj == 3) = false ∧ conjI n cj = 0)
    ∨ ((cj == 1) = false ∧ (cj == 2) = false ∧ (cj == 3) = true ∧ conjI n cj = n) ∨ ((cj == 1) = false ∧ (cj == 2) = false ∧ (cj == 3) = false ∧ conjI n cj = 0) := by
  unfold conjI
  by_cases h1 : cj = 1
  · simp [h1]
  by_cases h2 : cj = 2
  · by_cases h3 : n = 0 <;> simp [h2, h3]
  by_cases h3 : cj = 3
  · simp [h3]
  · simp [h1, h2, h3]
set_option maxRecDepth 100000 in
theorem conj_any (n br : Int) (pc : Bool) (cj ea : Int) (w : World) (n0 : 0 ≤ n) (n1 : n ≤ 255) : Calls Tryz.prog 202 #[.int .u8 n, .agg #[.int .i64 br, .bool pc, .int .i64 cj, .int .i64 ea]] w (Gives w (.int .u8 (conjI n cj))) := by
  rcases conj_cases n cj with ⟨h1, hs⟩ | ⟨h1, h2, h3, hs⟩ | ⟨h1, h2, h3, h4, hs⟩ | ⟨h1, h2, h3, hs⟩ | ⟨h1, h2, h3, hs⟩
  all_goals
    rw [hs]
    clear hs
    go_enter Tryz.func202, Tryz.ntmps202
    go_wp2
    go_ret
    exact ⟨(ret_eq (by first | rfl | (simp <;> omega))), (Below.refl _ _).alloc (Nat.le_refl _) _⟩
theorem pic_cases (n br : Int) (pc : Bool) : (pc = true ∧ picI n br pc = 1) ∨ (pc = false ∧ (n == 1) = false ∧ picI n br pc = 0) ∨ (pc = false ∧ n = 1 ∧ (br == 4) = true ∧ picI n br pc = 1) ∨ (pc = false ∧ n = 1 ∧ (br == 4) = false ∧ (br == 5) = true ∧ picI n br pc = 2) ∨ (pc = false ∧ n = 1 ∧ (br == 4) = false ∧ (br == 5) = false ∧ picI n br pc = 0) := by
  unfold picI
  cases pc with
  | true => simp
  | false =>
    by_cases h1 : n = 1
    · by_cases h2 : br = 4
      · simp [h1, h2]
      · by_cases h3 : br = 5 <;> simp [h1, h2, h3]
    · simp [h1]
set_option maxRecDepth 100000 in
theorem pic_any (n br : Int) (pc : Bool) (cj ea : Int) (w : World) (n0 : 0 ≤ n) (n1 : n ≤ 255) : Calls Tryz.prog 203 #[.int .u8 n, .agg #[.int .i64 br, .bool pc, .int .i64 cj, .int .i64 ea]] w (Gives w (.int .u8 (picI n br pc))) := by
  rcases pic_cases n br pc with ⟨rfl, hs⟩ | ⟨rfl, h2, hs⟩ | ⟨rfl, rfl, h3, hs⟩ | ⟨rfl, rfl, h3, h4, hs⟩ | ⟨rfl, rfl, h3, h4, hs⟩
  all_goals
    rw [hs]
    clear hs
    go_enter Tryz.func203, Tryz.ntmps203
    go_wp2
    go_ret
    exact ⟨(ret_eq (by first | rfl | (simp <;> omega))), (Below.refl _ _).alloc (Nat.le_refl _) _⟩
end Go.Proofs.YtoeggiplcaegoaaGreatDoor
/- Tables of stretches of numbers: which number lies in one; the tables that chapters 9 to 12 give, and what is known of them. Of no program. -/
namespace Go.Proofs.YtoeggiplcaegoaaGreatDoor
/-- Does r lie in a stretch? -/
def inTab (T : List (Int × Int)) (r : Int) : Bool := T.any fun p => decide (p.1 ≤ r) && decide (r ≤ p.2)
/-- Stretches that rise and don't meet. -/
def upTab : List (Int × Int) → Bool
  | [] => true
  | [p] => decide (p.1 ≤ p.2)
  | p :: q :: l => decide (p.1 ≤ p.2) && decide (p.2 < q.1) && upTab (q :: l)
theorem upTab_cons {p : Int × Int} {l : List (Int × Int)} (h : upTab (p :: l) = true) : p.1 ≤ p.2 ∧ upTab l = true ∧ ∀ q ∈ l, p.2 < q.1 := by
  induction l generalizing p with
  | nil => exact ⟨by simpa [upTab] using h, rfl, fun q hq => by cases hq⟩
  | cons q l ih =>
    simp only [upTab, Bool.and_eq_true, decide_eq_true_eq] at h
    obtain ⟨i1, _, i3⟩ := ih h.2
    refine ⟨h.1.1, h.2, fun x hx => ?_⟩
    rcases List.mem_cons.1 hx with rfl | hx
    · exact h.1.2
    · have := i3 x hx; omega
theorem up_le : ∀ {T : List (Int × Int)}, upTab T = true → ∀ i (h : i < T.length), T[i].1 ≤ T[i].2
  | [], _, i, h => absurd h (Nat.not_lt_zero _)
  | p :: l, hu, 0, _ => (upTab_cons hu).1
  | p :: l, hu, i + 1, h => up_le (T := l) (upTab_cons hu).2.1 i (by simpa using h)
theorem up_lt : ∀ {T : List (Int × Int)}, upTab T = true → ∀ i j (hi : i < j) (hj : j < T.length), (T[i]'(by omega)).2 < T[j].1
  | [], _, i, j, _, hj => absurd hj (Nat.not_lt_zero _)
  | p :: l, hu, 0, j + 1, _, hj => (upTab_cons hu).2.2 _ (List.getElem_mem (by simpa using hj))
  | p :: l, hu, i + 1, j + 1, hi, hj => up_lt (T := l) (upTab_cons hu).2.1 i j (by omega) (by simpa using hj)
theorem inTab_of {T : List (Int × Int)} {r : Int} (i : Nat) (h : i < T.length) (h1 : T[i].1 ≤ r) (h2 : r ≤ T[i].2) : inTab T r = true :=
  List.any_eq_true.2 ⟨T[i], List.getElem_mem h, by simp [h1, h2]⟩
theorem inTab_at {T : List (Int × Int)} {r : Int} (h : inTab T r = true) : ∃ i, ∃ h : i < T.length, T[i].1 ≤ r ∧ r ≤ T[i].2 := by
  obtain ⟨p, hp, hh⟩ := List.any_eq_true.1 h
  obtain ⟨i, hi, rfl⟩ := List.getElem_of_mem hp
  simp at hh
  exact ⟨i, hi, hh.1, hh.2⟩
theorem inTab_none {T : List (Int × Int)} {r : Int} (h : ∀ i (h : i < T.length), ¬ (T[i].1 ≤ r ∧ r ≤ T[i].2)) : inTab T r = false := by
  cases ht : inTab T r with
  | false => rfl
  | true =>
    obtain ⟨i, hi, hh⟩ := inTab_at ht
    exact absurd hh (h i hi)
/-- The first stretch that doesn't end below r holds r, or none does. -/
theorem inTab_search {T : List (Int × Int)} {r : Int} (hu : upTab T = true) (i : Nat) (hi : i < T.length) (hlo : ∀ j (hj : j < i), (T[j]'(by omega)).2 < r) (hhi : r ≤ T[i].2) : inTab T r = decide (T[i].1 ≤ r) := by
  by_cases h1 : T[i].1 ≤ r
  · rw [decide_eq_true h1]; exact inTab_of i hi h1 hhi
  · rw [decide_eq_false h1]
    refine inTab_none fun k hk hh => ?_
    rcases Nat.lt_trichotomy k i with h | h | h
    · have := hlo k h; omega
    · subst h; omega
    · have := up_lt hu i k h hk; have := up_le hu i hi; omega
theorem inTab_past {T : List (Int × Int)} {r : Int} (hlo : ∀ j (hj : j < T.length), (T[j]'(by omega)).2 < r) : inTab T r = false :=
  inTab_none fun k hk hh => by have := hlo k hk; omega
/-- Tables that don't meet. -/
def apart (T U : List (Int × Int)) : Bool := T.all fun p => U.all fun q => decide (p.2 < q.1) || decide (q.2 < p.1)
/-- Each stretch of T lies in one of U. -/
def within (T U : List (Int × Int)) : Bool := T.all fun p => U.any fun q => decide (q.1 ≤ p.1) && decide (p.2 ≤ q.2)
def tControl : List (Int × Int) := [
  (0, 9), (11, 12), (14, 31), (127, 159), (173, 173), (1564, 1564), (6158, 6158), (8203, 8203), (8206, 8207), (8232, 8238), (8288, 8303), 
  (65279, 65279), (65520, 65531), (917504, 917535), (917632, 917759), (918000, 921599)]
theorem tControl_up : upTab tControl = true := by decide +kernel
theorem tControl_len : tControl.length = 16 := by decide +kernel
def tExtend : List (Int × Int) := [
  (768, 879), (1155, 1161), (1425, 1469), (1471, 1471), (1473, 1474), (1476, 1477), (1479, 1479), (1552, 1562), (1611, 1631), (1648, 1648), 
  (1750, 1756), (1759, 1764), (1767, 1768), (1770, 1773), (1809, 1809), (1840, 1866), (1958, 1968), (2027, 2035), (2070, 2073), (2075, 2083), 
  (2259, 2273), (2275, 2306), (2362, 2362), (2364, 2364), (2369, 2376), (2381, 2381), (2385, 2391), (2402, 2403), (2433, 2433), (2492, 2492), 
  (2494, 2494), (2497, 2500), (2509, 2509), (2519, 2519), (2530, 2531), (2561, 2562), (2620, 2620), (2625, 2626), (2631, 2632), (2635, 2637), 
  (2748, 2748), (2753, 2757), (2765, 2765), (2876, 2876), (2878, 2879), (2881, 2884), (2893, 2893), (2902, 2903), (3132, 3132), (3134, 3136), 
  (3142, 3144), (3146, 3149), (3276, 3277), (3390, 3390), (3393, 3396), (3405, 3405), (3633, 3633), (3636, 3642), (3655, 3662), (3761, 3761), 
  (3764, 3772), (3864, 3865), (3953, 3966), (4957, 4959), (6832, 6862), (7616, 7679), (8204, 8204), (8400, 8432), (12330, 12335), (12441, 12442), 
  (42607, 42610), (64286, 64286), (65024, 65039), (65056, 65071), (127995, 127999), (917536, 917631), (917760, 917999)]
theorem tExtend_up : upTab tExtend = true := by decide +kernel
theorem tExtend_len : tExtend.length = 77 := by decide +kernel
def tPrepend : List (Int × Int) := [
  (1536, 1541), (1757, 1757), (1807, 1807), (2192, 2193), (2274, 2274), (3406, 3406), (69821, 69821), (69837, 69837)]
theorem tPrepend_up : upTab tPrepend = true := by decide +kernel
theorem tPrepend_len : tPrepend.length = 8 := by decide +kernel
def tSpacing : List (Int × Int) := [
  (2307, 2307), (2363, 2363), (2366, 2368), (2377, 2380), (2382, 2383), (2434, 2435), (2495, 2496), (2503, 2504), (2507, 2508), (2563, 2563), 
  (2622, 2624), (2691, 2691), (2750, 2752), (2761, 2761), (2818, 2819), (2880, 2880), (2887, 2888), (3073, 3075), (3137, 3140), (3330, 3331), 
  (3391, 3392), (3398, 3400), (3635, 3635), (3763, 3763), (3902, 3903), (4155, 4156)]
theorem tSpacing_up : upTab tSpacing = true := by decide +kernel
theorem tSpacing_len : tSpacing.length = 26 := by decide +kernel
def tPict : List (Int × Int) := [
  (169, 169), (174, 174), (8252, 8252), (8265, 8265), (8482, 8482), (8505, 8505), (8596, 8601), (8617, 8618), (8986, 8987), (9000, 9000), (9096, 9096), 
  (9167, 9167), (9193, 9203), (9208, 9210), (9410, 9410), (9642, 9643), (9654, 9654), (9664, 9664), (9723, 9726), (9728, 9733), (9735, 9746), 
  (9748, 9861), (9872, 9989), (9992, 10002), (10004, 10004), (10006, 10006), (10013, 10013), (10017, 10017), (10024, 10024), (10035, 10036), 
  (10052, 10052), (10055, 10055), (10060, 10060), (10062, 10062), (10067, 10069), (10071, 10071), (10083, 10087), (10133, 10135), (10145, 10145), 
  (10160, 10160), (10175, 10175), (10548, 10549), (11013, 11015), (11035, 11036), (11088, 11088), (11093, 11093), (12336, 12336), (12349, 12349), 
  (12951, 12951), (12953, 12953), (126976, 127231), (127245, 127247), (127279, 127279), (127340, 127345), (127358, 127359), (127374, 127374), 
  (127377, 127386), (127405, 127461), (127489, 127503), (127514, 127514), (127535, 127535), (127538, 127546), (127548, 127551), (127561, 127994), 
  (128000, 128317), (128326, 128591), (128640, 128767), (128884, 128895), (128981, 129023), (129036, 129039), (129096, 129103), (129114, 129119), 
  (129160, 129167), (129198, 129279), (129292, 129338), (129340, 129349), (129351, 129791), (130048, 131069)]
theorem tPict_up : upTab tPict = true := by decide +kernel
theorem tPict_len : tPict.length = 78 := by decide +kernel
def tCons : List (Int × Int) := [
  (2325, 2361), (2392, 2399), (2424, 2431), (2453, 2472), (2474, 2480), (2482, 2482), (2486, 2489), (2524, 2525), (2527, 2527), (2544, 2545), 
  (2709, 2728), (2730, 2736), (2738, 2739), (2741, 2745), (2809, 2809), (2837, 2856), (2858, 2864), (2866, 2867), (2869, 2873), (2908, 2909), 
  (2911, 2911), (2929, 2929), (3093, 3112), (3114, 3129), (3160, 3162), (3349, 3386)]
theorem tCons_up : upTab tCons = true := by decide +kernel
theorem tCons_len : tCons.length = 26 := by decide +kernel
def tLink : List (Int × Int) := [
  (2381, 2381), (2509, 2509), (2765, 2765), (2893, 2893), (3149, 3149), (3405, 3405)]
theorem tLink_up : upTab tLink = true := by decide +kernel
theorem tLink_len : tLink.length = 6 := by decide +kernel
def tJoin : List (Int × Int) := [
  (768, 879), (1155, 1159), (1425, 1469), (1552, 1562), (1611, 1631), (2364, 2364), (2385, 2388), (2492, 2492), (2748, 2748), (2876, 2876), 
  (3132, 3132), (6832, 6845), (7616, 7679), (8205, 8205), (8400, 8412), (12330, 12335), (12441, 12442), (65056, 65071)]
theorem tJoin_up : upTab tJoin = true := by decide +kernel
theorem tJoin_len : tJoin.length = 18 := by decide +kernel
def tWide : List (Int × Int) := [
  (4352, 4447), (8986, 8987), (9001, 9002), (9193, 9196), (9200, 9200), (9203, 9203), (9725, 9726), (9748, 9749), (9800, 9811), (9855, 9855), 
  (9875, 9875), (9889, 9889), (9898, 9899), (9917, 9918), (9924, 9925), (9934, 9934), (9940, 9940), (9962, 9962), (9970, 9971), (9973, 9973), 
  (9978, 9978), (9981, 9981), (9989, 9989), (9994, 9995), (10024, 10024), (10060, 10060), (10062, 10062), (10067, 10069), (10071, 10071), 
  (10133, 10135), (10160, 10160), (10175, 10175), (11035, 11036), (11088, 11088), (11093, 11093), (11904, 11929), (11931, 12019), (12032, 12245), 
  (12272, 12287), (12289, 12350), (12353, 12438), (12441, 12543), (12549, 12591), (12593, 12686), (12688, 12771), (12784, 12830), (12832, 12871), 
  (12880, 19903), (19968, 42124), (42128, 42182), (43360, 43388), (44032, 55203), (63744, 64255), (65040, 65049), (65072, 65106), (65108, 65126), 
  (65128, 65131), (94176, 94180), (94208, 100343), (100352, 101589), (110592, 110882), (126980, 126980), (127183, 127183), (127374, 127374), 
  (127377, 127386), (127488, 127490), (127504, 127547), (127552, 127560), (127568, 127569), (127584, 127589), (127744, 127776), (127789, 127797), 
  (127799, 127868), (127870, 127891), (127904, 127946), (127951, 127955), (127968, 127984), (127988, 127988), (127992, 128062), (128064, 128064), 
  (128066, 128252), (128255, 128317), (128331, 128334), (128336, 128359), (128378, 128378), (128405, 128406), (128420, 128420), (128507, 128591), 
  (128640, 128709), (128716, 128716), (128720, 128722), (128725, 128727), (128732, 128735), (128747, 128748), (128756, 128764), (128992, 129003), 
  (129008, 129008), (129292, 129338), (129340, 129349), (129351, 129535), (129648, 129660), (129664, 129672), (129680, 129725), (129727, 129733), 
  (129742, 129755), (129760, 129768), (129776, 129784), (131072, 196605), (196608, 262141)]
theorem tWide_up : upTab tWide = true := by decide +kernel
theorem tWide_len : tWide.length = 109 := by decide +kernel
def tFull : List (Int × Int) := [
  (12288, 12288), (65281, 65376), (65504, 65510)]
theorem tFull_up : upTab tFull = true := by decide +kernel
theorem tFull_len : tFull.length = 3 := by decide +kernel
def tHalf : List (Int × Int) := [
  (8361, 8361), (65377, 65470), (65474, 65479), (65482, 65487), (65490, 65495), (65498, 65500), (65512, 65518)]
theorem tHalf_up : upTab tHalf = true := by decide +kernel
theorem tHalf_len : tHalf.length = 7 := by decide +kernel

theorem a1 : apart tSpacing tPrepend = true := by decide +kernel
theorem a2 : apart tControl [(13, 13), (10, 10), (8205, 8205), (127462, 127487)] = true := by decide +kernel
theorem a3 : apart tExtend [(13, 13), (10, 10), (8205, 8205), (127462, 127487)] = true := by decide +kernel
end Go.Proofs.YtoeggiplcaegoaaGreatDoor
