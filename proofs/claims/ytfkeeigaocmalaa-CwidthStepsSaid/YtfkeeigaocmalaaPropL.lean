/- Lists of properties that the call itself makes: appended one by one; rows of structs. -/
import Derived.Test.YtfkeeigaocmalaaSegA
namespace Go.Proofs.Ytfkeeigaocmalaa
open Go.RowKit Go.ChangeShapes Go.WideShapes
theorem wpList_append_newS {P : Program} (w0 : World) {ops : Array Oper} {rest : List Oper} {o : Oper} {a : Act} {Q : Exit → Act → World → Prop} (hgd : o.guard = none) (s x : Operand) (t : TypeId)
    (ho : o.op = .call { callee := .builtin .append, args := #[s, x], argTypes := #[t, t] })
    (base : Nat) (e : TypeId) (z : Value) (size bytes : Nat) (ht : P.underlying t = some (.slice e)) (hinfo : (P.info? e).map (fun i => (i.zero, i.size, i.bytes)) = some (some z, size, bytes)) (hzs : z.cells.size = size) (hsz : 0 < size)
    (v : Value) (n : Nat) (xs : List Value) (hs : a.eval s = v) (hown : w0.ownsRow base e size v n xs)
    (C : List Value) (m c : Nat) (hx : a.eval x = .slice (some ⟨w0.heap.size, 0, none⟩) m c) (hl : C.length = m * size) (h1 : ∀ u ∈ C, u.oneCell' = true)
    (hbytes : (n + m) * bytes ≤ 140737488355328) (hb0 : n + m ≤ 140737488355328) (hbase : base ≤ w0.heap.size)
    (h : ∀ v' w', w'.ownsRow base e size v' (n + m) (xs ++ C) → Below base w0 w' → wpList P ops Q rest (a.put o.dst v') w') :
    wpList P ops Q (o :: rest) a (w0.alloc (.cells C.toArray e)) := by
  obtain ⟨i0, hi, hz0, hz1, hz2⟩ := info_parts hinfo
  refine wpList_append_own _ hgd s x t ho base e i0 z size bytes ht hi hz0 hz1 hz2 hzs hsz v n xs hs (hown.alloc _) ⟨w0.heap.size, 0, none⟩ m c C hx (by omega) (new_cells w0 C e) h1 (by unfold maxLen; omega) hbytes (by simp; omega) ?_
  intro v' w' hown' hgrow _
  refine h v' w' hown' (((Below.refl base w0).alloc hbase _).grown hgrow (by simp; omega) fun k hk => ((hown.alloc (.cells C.toArray e)).lt k hk).1)
def prCells (q : Pr) : List Value := [.int .i64 q.br, .bool q.pc, .int .i64 q.cv, .int .i64 q.ea]
def prsCells (l : List Pr) : List Value := l.flatMap prCells
theorem prsCells_at : ∀ (l : List Pr) (i : Nat) (h : i < l.length), (prsCells l)[i * 4]? = some (.int .i64 l[i].br) ∧ (prsCells l)[i * 4 + 1]? = some (.bool l[i].pc) ∧ (prsCells l)[i * 4 + 2]? = some (.int .i64 l[i].cv) ∧ (prsCells l)[i * 4 + 3]? = some (.int .i64 l[i].ea)
  | [], i, h => absurd h (Nat.not_lt_zero _)
  | q :: l, 0, _ => ⟨rfl, rfl, rfl, rfl⟩
  | q :: l, i + 1, h => by
    have := prsCells_at l i (by simpa using h)
    rw [show (i + 1) * 4 = i * 4 + 4 by omega, show i * 4 + 4 + 1 = i * 4 + 1 + 4 by omega, show i * 4 + 4 + 2 = i * 4 + 2 + 4 by omega, show i * 4 + 4 + 3 = i * 4 + 3 + 4 by omega]
    simpa [prsCells, prCells] using this
theorem prsCells_len (l : List Pr) : (prsCells l).length = 4 * l.length := by
  induction l with
  | nil => rfl
  | cons q l ih => simp only [prsCells, List.flatMap_cons, List.length_append, prCells, List.length_cons, List.length_nil] at *; omega
theorem heldP_of_owns {w : World} {B e : Nat} {v : Value} {n : Nat} {l : List Pr} (h : w.ownsRow B e 4 v n (prsCells l)) : HeldP w v l := by
  have hl : l.length = n := by have := h.1; rw [prsCells_len] at this; omega
  subst hl
  rcases h.2 with ⟨rfl, hn⟩ | ⟨g, cap, cur, rfl, hb, hg, h1, h2, h3, h4⟩
  · have : l = [] := List.eq_nil_of_length_eq_zero hn
    subst this
    exact ⟨none, 0, rfl, fun i hi => by simp at hi⟩
  · refine ⟨some ⟨g, 0, none⟩, cap, rfl, fun i hi => ⟨g, 0, rfl, (Array.getElem?_eq_some_iff.1 hg).1, ?_⟩⟩
    obtain ⟨k0, k1, k2, k3⟩ := prsCells_at l i hi
    have c0 := h.cells (g := g) rfl _ _ k0
    have c1 := h.cells (g := g) rfl _ _ k1
    have c2 := h.cells (g := g) rfl _ _ k2
    have c3 := h.cells (g := g) rfl _ _ k3
    rw [Addr.add_lit] at c0 c1 c2 c3
    simp only [Nat.zero_add] at *
    exact ⟨c0, c1, c2, c3⟩
theorem prs_snoc (l : List Pr) (k : Nat) (h : k < l.length) : prsCells (l.take (k + 1)) = prsCells (l.take k) ++ prCells (l.getD k Pr.none) := by
  unfold prsCells
  rw [List.take_succ_eq_append_getElem h, List.flatMap_append, List.flatMap_cons, List.flatMap_nil, List.append_nil, show l.getD k Pr.none = l[k] by simp [List.getD, List.getElem?_eq_getElem h]]
end Go.Proofs.Ytfkeeigaocmalaa
