/- Small lemmas of no program: a slice value that holds a list of numbers, and what keeps it; bits; results. -/
import Derived.Handy
import Derived.Laws.BytesArg
import Derived.Lib.Hide
namespace Go.Proofs.YtblmjemgfpbdlaaDoor
open Go.RowKit

theorem ret_eq {a b : Value} (h : a = b) : Ending.returned a = .returned b := by rw [h]

/-- In the world w the slice value v holds the numbers xs (of kind k). -/
def Held (k : IntKind) (w : World) (v : Value) (xs : List Int) : Prop :=
  (v = .slice none 0 0 ∧ xs = []) ∨ ∃ b off cap, v = .slice (some ⟨b, off, none⟩) xs.length cap ∧ b < w.heap.size ∧ ∀ i, i < xs.length → w.cell? ⟨b, off + i, none⟩ = some (.int k (xs.getD i 0))

theorem Held.nil (k : IntKind) (w : World) : Held k w (.slice none 0 0) [] := .inl ⟨rfl, rfl⟩
theorem Held.below {k : IntKind} {w w' : World} {v : Value} {xs : List Int} (h : Held k w v xs) (hb : Below w.heap.size w w') : Held k w' v xs := by
  rcases h with h | ⟨b, off, cap, rfl, hlt, hc⟩
  · exact .inl h
  · exact .inr ⟨b, off, cap, rfl, by have := hb.size; omega, fun i hi => (hb.cell (p := ⟨b, off + i, none⟩) hlt).trans (hc i hi)⟩
theorem Held.len {k : IntKind} {w : World} {v : Value} {xs : List Int} (h : Held k w v xs) : ∃ ao cap, v = .slice ao xs.length cap := by
  rcases h with ⟨rfl, rfl⟩ | ⟨b, off, cap, rfl, _, _⟩
  · exact ⟨none, 0, rfl⟩
  · exact ⟨_, cap, rfl⟩
/-- What the call owns it holds. -/
theorem held_of_owns {k : IntKind} {w : World} {B e : Nat} {v : Value} {n : Nat} {xs : List Int} (h : w.ownsRow B e 1 v n (xs.map (Value.int k))) : Held k w v xs := by
  have hl : xs.length = n := by have := h.1; simpa using this
  subst hl
  rcases h.2 with ⟨rfl, hn⟩ | ⟨g, cap, cur, rfl, hb, hg, h1, h2, h3, h4⟩
  · have : xs = [] := List.eq_nil_of_length_eq_zero hn
    subst this
    exact .inl ⟨rfl, rfl⟩
  · refine .inr ⟨g, 0, cap, rfl, (Array.getElem?_eq_some_iff.1 hg).1, fun i hi => ?_⟩
    have := h.cells (g := g) rfl i (.int k (xs.getD i 0)) (by simp [List.getElem?_eq_getElem hi])
    rw [Addr.add_lit] at this
    simpa using this

theorem i32_and63 (n : Int) (h0 : 0 ≤ n) : bits .and .i32 n 63 = n % 64 := by
  have h127 : (BitVec.ofInt 32 63).toNat = 2 ^ 6 - 1 := by decide
  have key : (BitVec.ofInt 32 n &&& BitVec.ofInt 32 63).toNat = (n % ((2 ^ 32 : Nat) : Int)).toNat % 2 ^ 6 := by
    rw [BitVec.toNat_and, BitVec.toNat_ofInt, h127, Nat.and_two_pow_sub_one_eq_mod]
  show IntKind.i32.wrap ((BitVec.ofInt 32 n &&& BitVec.ofInt 32 63).toNat : Nat) = n % 64
  rw [key, IntKind.wrap_i32]
  omega
/-- 'c | x' where c is a multiple of 2^i, x below it: their sum. -/
theorem u8_join (c x : Int) (i : Nat) (hc : c.toNat % 2 ^ i = 0) (h0 : 0 ≤ c) (h1 : c < 256) (h2 : 0 ≤ x) (h3 : x < 256) (hx : x.toNat < 2 ^ i) : bits .or .u8 c x = c + x := by
  rw [u8_or c x h0 h1 h2 h3, nat_join i _ _ hc hx]
  omega

/-- The cells of a block that was just laid. -/
theorem new_cells (w : World) (C : List Value) (t : TypeId) : ∀ j u, C[j]? = some u → (w.alloc (.cells C.toArray t)).cell? ((⟨w.heap.size, 0, none⟩ : Addr).add j) = some u := by
  intro j u hj
  rw [Addr.add_lit, cell_of_row (w.alloc (.cells C.toArray t)) w.heap.size (0 + j) C.toArray t (0, 0) (heap_alloc_new w _)]
  simpa using hj

/-- 'append(out, a, b, ..)' onto a row of the call's own (or nil): the new elements lie in a block that was just laid. -/
theorem wpList_append_new {P : Program} (w0 : World) {ops : Array Oper} {rest : List Oper} {o : Oper} {a : Act} {Q : Exit → Act → World → Prop} (hgd : o.guard = none) (s x : Operand) (t : TypeId)
    (ho : o.op = .call { callee := .builtin .append, args := #[s, x], argTypes := #[t, t] })
    (base : Nat) (e : TypeId) (z : Value) (bytes : Nat) (ht : P.underlying t = some (.slice e)) (hinfo : (P.info? e).map (fun i => (i.zero, i.size, i.bytes)) = some (some z, 1, bytes)) (hzs : z.cells.size = 1)
    (v : Value) (n : Nat) (xs : List Value) (hs : a.eval s = v) (hown : w0.ownsRow base e 1 v n xs)
    (C : List Value) (m c : Nat) (hx : a.eval x = .slice (some ⟨w0.heap.size, 0, none⟩) m c) (hl : C.length = m) (h1 : ∀ u ∈ C, u.oneCell' = true)
    (hbytes : (n + m) * bytes ≤ 140737488355328) (hb0 : n + m ≤ 140737488355328) (hbase : base ≤ w0.heap.size)
    (h : ∀ v' w', w'.ownsRow base e 1 v' (n + m) (xs ++ C) → Below base w0 w' → wpList P ops Q rest (a.put o.dst v') w') :
    wpList P ops Q (o :: rest) a (w0.alloc (.cells C.toArray e)) := by
  obtain ⟨i0, hi, hz0, hz1, hz2⟩ := info_parts hinfo
  refine wpList_append_own _ hgd s x t ho base e i0 z 1 bytes ht hi hz0 hz1 hz2 hzs (by decide) v n xs hs (hown.alloc _) ⟨w0.heap.size, 0, none⟩ m c C hx (by omega) (new_cells w0 C e) h1 (by unfold maxLen; omega) hbytes (by simp; omega) ?_
  intro v' w' hown' hgrow _
  refine h v' w' hown' (((Below.refl base w0).alloc hbase _).grown hgrow (by simp; omega) fun k hk => ((hown.alloc (.cells C.toArray e)).lt k hk).1)
theorem oneCell_ints (k : IntKind) (C : List Int) : ∀ u ∈ C.map (Value.int k), u.oneCell' = true := ints_oneCell k C

/-- A block that was just laid holds its numbers. -/
theorem held_new (k : IntKind) (w : World) (C : List Value) (t : TypeId) (n cap : Nat) (xs : List Int) (hC : C = xs.map (Value.int k)) (hn : xs.length = n) : Held k (w.alloc (.cells C.toArray t)) (.slice (some ⟨w.heap.size, 0, none⟩) n cap) xs := by
  subst hC hn
  refine .inr ⟨w.heap.size, 0, cap, rfl, by simp, fun i hi => ?_⟩
  have := new_cells w (xs.map (Value.int k)) t i (.int k (xs.getD i 0)) (by simp [List.getElem?_eq_getElem hi])
  rw [Addr.add_lit] at this
  exact this
/-- The text of a slice of bytes. -/
theorem held_text {P : Program} {w : World} {v : Value} {xs : List Int} (h : Held .u8 w v xs) (src e dst : TypeId) (hs : P.underlying src = some (.slice e)) (he : P.underlying e = some (.int .u8)) (hd : P.underlying dst = some .string) :
    (convert src dst v).run P w = .ok (.string (strOfNums xs)) w := by
  rcases h with ⟨rfl, rfl⟩ | ⟨b, off, cap, rfl, _, hc⟩
  · exact run_convert_bytes_nil w src e hs he 0 0 dst hd
  · exact run_convert_bytes_arg w src e hs he b off xs.length cap xs rfl hc dst hd
theorem undrew {B : Nat} {w w' : World} (h : Below B w.drew w') : Below B w w' := ⟨h.os, h.tape, h.output, h.size, h.block⟩
end Go.Proofs.YtblmjemgfpbdlaaDoor
