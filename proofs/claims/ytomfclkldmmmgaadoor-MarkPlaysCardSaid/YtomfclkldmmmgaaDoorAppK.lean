/- An append leaves the elder row's own cells as they were: in place it writes behind them, else it makes a new block. Of no program. -/
import Derived.Test.YtomfclkldmmmgaaDoorAid
import Derived.Test.YtomfclkldmmmgaaDoorObj
import Derived.Laws.OwnMore
namespace Go.Proofs.YtomfclkldmmmgaaDoor
open Go.RowKit Go.ChangeShapes Go.WideShapes
theorem ownsRow_head {w : World} {base : Nat} {e : TypeId} {size g cap n m : Nat} {xs ys : List Value} (h : w.ownsRow base e size (.slice (some ⟨g, 0, none⟩) (n + m) cap) (n + m) (xs ++ ys)) (hx : xs.length = n * size) :
    w.ownsRow base e size (.slice (some ⟨g, 0, none⟩) n cap) n xs := by
  rcases h.2 with ⟨h', _⟩ | ⟨g', cap', cur, h', hb, hg, hnc, hcm, hcs, ht⟩
  · simp at h'
  · simp only [Value.slice.injEq, Option.some.injEq, Addr.mk.injEq, and_true, true_and] at h'
    obtain ⟨rfl, rfl⟩ := h'
    refine ⟨hx, .inr ⟨g, cap, cur, rfl, hb, hg, by omega, hcm, hcs, ?_⟩⟩
    have h2 := congrArg (List.take (n * size)) ht
    rw [List.take_take, Nat.min_eq_left (Nat.mul_le_mul_right _ (by omega)), ← hx, List.take_left] at h2
    rw [← hx]
    exact h2
theorem run_append_keep {P : Program} (w : World) (base : Nat) (t ty e : TypeId) (i : TypeInfo) (z : Value) (size bytes : Nat) (ht : P.underlying t = some (.slice e)) (hi : P.info? e = some i) (hz : i.zero = some z)
    (hsize : i.size = size) (hby : i.bytes = bytes) (hzs : z.cells.size = size) (hsz : 0 < size)
    (v : Value) (n : Nat) (xs : List Value) (hown : w.ownsRow base e size v n xs)
    (a : Addr) (m c : Nat) (news : List Value) (hl : news.length = m * size) (hnews : ∀ j u, news[j]? = some u → w.cell? (a.add j) = some u) (h1 : ∀ u ∈ news, u.oneCell' = true)
    (h63 : n + m ≤ maxLen) (hbytes : (n + m) * bytes ≤ 140737488355328) (hbase : base ≤ w.heap.size) :
    ∃ v' w', (Builtin.append_ #[t, t] ty #[v, .slice (some a) m c]).run P w = .ok v' w' ∧ w'.ownsRow base e size v' (n + m) (xs ++ news) ∧ w.grownBy w' v.ownBlock ∧ w'.ownsRow base e size v n xs ∧
      ((∀ g, g < w.heap.size → w'.heap[g]? = w.heap[g]?) ∨ ∃ g cap, v = .slice (some ⟨g, 0, none⟩) n cap ∧ v' = .slice (some ⟨g, 0, none⟩) (n + m) cap) := by
  have hsmall : n + m ≤ 9223372036854775807 := by simp only [maxLen] at h63; omega
  obtain ⟨v', w', hr, h2, h3, _⟩ := run_append_own (P := P) w base t ty e i z size bytes ht hi hz hsize hby hzs hsz v n xs hown a m c news hl hnews h1 h63 hbytes hbase
  rcases hown.2 with ⟨rfl, rfl⟩ | ⟨g, cap, cur, rfl, hb, hg, hnc, hcm, hcs, htk⟩
  · have hx : xs = [] := List.eq_nil_of_length_eq_zero (by simpa using hown.1)
    subst hx
    exact ⟨v', w', hr, h2, h3, World.ownsRow_nil _ _ _ _, .inl fun g hg => h3.block g hg (by simp [Value.ownBlock])⟩
  · by_cases hroom : n + m ≤ cap
    · obtain ⟨w2, hr2, h4, h5⟩ := run_append_fits (P := P) w base t ty e i size ht hi hsize g n cap xs hown a m c news hl hnews h1 hroom
      rw [hr2] at hr
      cases hr
      exact ⟨_, _, hr2, h4, h3, ownsRow_head h4 hown.1, .inr ⟨g, cap, rfl, rfl⟩⟩
    · subst hsize
      subst hby
      have hr2 := run_append_grow (P := P) w t ty e i z ht hi hz ⟨g, 0, none⟩ n cap xs hown.1 (hown.cells (g := g) rfl) a m c news hl hnews (by omega) (by omega) (growslice_fits (by omega) hbytes)
      rw [hr2] at hr
      cases hr
      have hold : ∀ k, k < w.heap.size → (w.drew.alloc (.cells (xs.toArray ++ news.toArray ++ Builtin.zeroCells z.cells (grownCap w (n + m) cap e - (n + m))) e)).heap[k]? = w.heap[k]? := fun k hk => by
        show (w.heap.push _)[k]? = _
        rw [Array.getElem?_push, if_neg (by omega)]
      refine ⟨_, _, hr2, h2, h3, ⟨hown.1, .inr ⟨g, cap, cur, rfl, hb, ?_, hnc, hcm, hcs, htk⟩⟩, .inl hold⟩
      rw [hold g (Array.getElem?_eq_some_iff.1 hg).1]
      exact hg
theorem ownsRow_same {w w' : World} {base : Nat} {e : TypeId} {size : Nat} {v : Value} {n : Nat} {xs : List Value} (h : w.ownsRow base e size v n xs) (hk : ∀ g, v.ownBlock = some g → w'.heap[g]? = w.heap[g]?) : w'.ownsRow base e size v n xs := by
  refine ⟨h.1, ?_⟩
  rcases h.2 with h | ⟨g, cap, cur, rfl, hb, hg, h1⟩
  · exact .inl h
  · exact .inr ⟨g, cap, cur, rfl, hb, (hk g rfl).trans hg, h1⟩
/-- What an append leaves: each row of its own whose cells are a head of the new row's; and a full row that holds what was appended. -/
def Kept (w w' : World) (base : Nat) (e : TypeId) (size : Nat) (D C : List Value) (m : Nat) : Prop :=
  (∀ v n xs, w.ownsRow base e size v n xs → xs <+: D → w'.ownsRow base e size v n xs) ∧ ∀ g, w.ownsRow base e size (.slice (some ⟨g, 0, none⟩) m m) m C → w'.ownsRow base e size (.slice (some ⟨g, 0, none⟩) m m) m C
theorem Kept.refl (w : World) (base : Nat) (e : TypeId) (size : Nat) (D C : List Value) (m : Nat) : Kept w w base e size D C m := ⟨fun _ _ _ h _ => h, fun _ h => h⟩
theorem Kept.below {w w' : World} (hb : Below w.heap.size w w') (base : Nat) (e : TypeId) (size : Nat) (D C : List Value) (m : Nat) : Kept w w' base e size D C m := ⟨fun _ _ _ h _ => ownsRow_below h hb, fun _ h => ownsRow_below h hb⟩
theorem run_append_kept {P : Program} (w : World) (base : Nat) (t ty e : TypeId) (i : TypeInfo) (z : Value) (size bytes : Nat) (ht : P.underlying t = some (.slice e)) (hi : P.info? e = some i) (hz : i.zero = some z)
    (hsize : i.size = size) (hby : i.bytes = bytes) (hzs : z.cells.size = size) (hsz : 0 < size)
    (v : Value) (n : Nat) (xs : List Value) (hown : w.ownsRow base e size v n xs)
    (a : Addr) (m c : Nat) (news : List Value) (hl : news.length = m * size) (hnews : ∀ j u, news[j]? = some u → w.cell? (a.add j) = some u) (h1 : ∀ u ∈ news, u.oneCell' = true)
    (h63 : n + m ≤ maxLen) (hbytes : (n + m) * bytes ≤ 140737488355328) (hbase : base ≤ w.heap.size) :
    ∃ v' w', (Builtin.append_ #[t, t] ty #[v, .slice (some a) m c]).run P w = .ok v' w' ∧ w'.ownsRow base e size v' (n + m) (xs ++ news) ∧ w.grownBy w' v.ownBlock ∧ Kept w w' base e size (xs ++ news) news m := by
  obtain ⟨v', w', hr, h2, h3, _, h5⟩ := run_append_keep w base t ty e i z size bytes ht hi hz hsize hby hzs hsz v n xs hown a m c news hl hnews h1 h63 hbytes hbase
  refine ⟨v', w', hr, h2, h3, ?_⟩
  have lt : ∀ {u : Value} {k : Nat} {ys : List Value}, w.ownsRow base e size u k ys → ∀ g, u.ownBlock = some g → g < w.heap.size := fun h g hg => (h.lt g hg).2
  have K1 : ∀ u k ys, w.ownsRow base e size u k ys → ys <+: xs ++ news → w'.ownsRow base e size u k ys := by
    intro u k ys hu hp
    rcases h5 with h5 | ⟨g, cap, rfl, rfl⟩
    · exact ownsRow_same hu fun g hg => h5 g (lt hu g hg)
    · by_cases hg : u.ownBlock = some g
      · rcases hu.2 with ⟨rfl, _⟩ | ⟨g2, cap2, cur2, rfl, hb2, hg2, hn2, hm2, hc2, ht2⟩
        · simp [Value.ownBlock] at hg
        · obtain rfl : g2 = g := by simpa [Value.ownBlock] using hg
          rcases hown.2 with ⟨h', _⟩ | ⟨g1, cap1, cur1, h', hb1, hg1, hn1, hm1, hc1, ht1⟩
          · simp at h'
          · simp only [Value.slice.injEq, Option.some.injEq, Addr.mk.injEq, and_true, true_and] at h'
            obtain ⟨rfl, rfl⟩ := h'
            rw [hg1] at hg2
            cases hg2
            have hcap : cap2 = cap := Nat.eq_of_mul_eq_mul_right hsz (by omega)
            subst hcap
            rcases h2.2 with ⟨h', _⟩ | ⟨g3, cap3, cur3, h', hb3, hg3, hn3, hm3, hc3, ht3⟩
            · simp at h'
            · simp only [Value.slice.injEq, Option.some.injEq, Addr.mk.injEq, and_true, true_and] at h'
              obtain ⟨rfl, rfl⟩ := h'
              refine ⟨hu.1, .inr ⟨_, _, cur3, rfl, hb3, hg3, hn2, hm2, hc3, ?_⟩⟩
              have hle : k * size ≤ (n + m) * size := by rw [← hu.1, ← h2.1]; exact hp.length_le
              have h6 := congrArg (List.take (k * size)) ht3
              rw [List.take_take, Nat.min_eq_left hle] at h6
              rw [h6, ← hu.1]
              exact (List.prefix_iff_eq_take.1 hp).symm
      · exact ownsRow_same hu fun g2 hg2 => h3.block g2 (lt hu g2 hg2) fun e => hg (by rw [hg2]; exact e)
  refine ⟨K1, fun g2 hu => ?_⟩
  rcases h5 with h5 | ⟨g, cap, rfl, rfl⟩
  · exact ownsRow_same hu fun g hg => h5 g (lt hu g hg)
  · by_cases hg : g2 = g
    · subst hg
      rcases hown.2 with ⟨h', _⟩ | ⟨g1, cap1, cur1, h', hb1, hg1, hn1, hm1, hc1, ht1⟩
      · simp at h'
      · simp only [Value.slice.injEq, Option.some.injEq, Addr.mk.injEq, and_true, true_and] at h'
        obtain ⟨rfl, rfl⟩ := h'
        rcases hu.2 with ⟨h', _⟩ | ⟨g3, cap3, cur3, h', hb3, hg3, hn3, hm3, hc3, ht3⟩
        · simp at h'
        · simp only [Value.slice.injEq, Option.some.injEq, Addr.mk.injEq, and_true, true_and] at h'
          obtain ⟨rfl, rfl⟩ := h'
          rw [hg1] at hg3
          cases hg3
          have hcap : m = cap := Nat.eq_of_mul_eq_mul_right hsz (by omega)
          subst hcap
          rcases h2.2 with ⟨h', _⟩ | ⟨g4, cap4, cur4, h', hb4, hg4, hn4, _⟩
          · simp at h'
          · simp only [Value.slice.injEq, Option.some.injEq, Addr.mk.injEq, and_true, true_and] at h'
            obtain ⟨rfl, rfl⟩ := h'
            have h0 : n = 0 := by omega
            subst h0
            have hx : xs = [] := List.eq_nil_of_length_eq_zero (by simpa using hown.1)
            subst hx
            exact K1 _ _ _ hu (List.prefix_refl _)
    · exact ownsRow_same hu fun g3 hg3 => h3.block g3 (lt hu g3 hg3) fun e => hg (by simp [Value.ownBlock] at hg3 e; omega)
end Go.Proofs.YtomfclkldmmmgaaDoor
