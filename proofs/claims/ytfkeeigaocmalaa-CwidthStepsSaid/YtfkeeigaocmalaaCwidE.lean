/- The gauge forgets; the nil gauge; heads of rows have the same widths. -/
import Derived.Test.YtfkeeigaocmalaaCwidA
import Derived.Test.YtfkeeigaocmalaaCwidC
import Derived.Test.YtfkeeigaocmalaaUallV
namespace Go.Proofs.Ytfkeeigaocmalaa
open Go.RowKit Go.ChangeShapes Go.WideShapes
set_option maxRecDepth 100000 in
set_option maxHeartbeats 1000000 in
theorem greset_any (g : Nat) (a b c : Bool) (w : World) (hs : GaugeAt w g a b c) : Calls Try.prog 13 #[.pointer (some ⟨g, 0, none⟩)] w fun e w' => e = .returned (.tuple #[]) ∧ GaugeAt w' g false false false ∧ But g w.heap.size w w' := by
  have k0 := hs.cell 0 _ rfl
  have k1 := hs.cell 1 _ rfl
  have k2 := hs.cell 2 _ rfl
  have f0 := hs.free 0
  have f1 := hs.free 1
  have f2 := hs.free 2
  have hg := hs.lt
  have hz := three_set (.bool false) (.bool false) (.bool false) hs
  have HZ := Lib.hid hz
  clear hz hs
  go_enter Try.func13, Try.ntmps13
  go_wp2
  go_end0
  exact ⟨rfl, HZ.out⟩
theorem greset_nil (w : World) : Calls Try.prog 13 #[.pointer none] w fun e w' => e = .returned (.tuple #[]) ∧ w = w' := by
  go_enter Try.func13, Try.ntmps13
  go_wp2
  go_end0
  exact ⟨rfl, rfl⟩
theorem gstep_nil (r br : Int) (pc : Bool) (cv ea : Int) (w : World) : Calls Try.prog 11 #[.pointer none, .int .i32 r, .agg #[.int .i64 br, .bool pc, .int .i64 cv, .int .i64 ea]] w (Gives w (.int .i64 1)) := by
  go_enter Try.func11, Try.ntmps11
  go_wp2
  go_ret
  exact ⟨(ret_eq (by first | rfl | (simp <;> omega))), (Below.refl _ _).alloc (Nat.le_refl _) _⟩
theorem getD_take_lt {α : Type} (l : List α) (n i : Nat) (d : α) (h : i < n) : (l.take n).getD i d = l.getD i d := by
  simp [List.getD, List.getElem?_take, h]
theorem anyW_take (xs : List Int) (ps : List Pr) (n : Nat) : ∀ k, k ≤ n → anyW (xs.take n) (ps.take n) k = anyW xs ps k
  | 0, _ => rfl
  | k + 1, h => by
    show (anyW _ _ k || condW _ _ k) = (anyW xs ps k || condW xs ps k)
    rw [anyW_take xs ps n k (by omega)]
    unfold condW
    rw [getD_take_lt _ _ _ _ (by omega), getD_take_lt _ _ _ _ (by omega)]
    cases k with
    | zero => rfl
    | succ m => show (_ || widB _ ((ps.take n).getD m Pr.none).pc _ _ _ _) = _; rw [getD_take_lt _ _ _ _ (by omega)]; rfl
theorem rowW_take (xs : List Int) (ps : List Pr) (n : Nat) : rowW (xs.take n) (ps.take n) n = rowW xs ps n := by
  unfold rowW
  rw [anyW_take xs ps n n (Nat.le_refl _)]
theorem heldP_take {w : World} {ao : Option Addr} {cap : Nat} {L : List Pr} (h : HeldP w (.slice ao L.length cap) L) (n : Nat) (hn : n ≤ L.length) : HeldP w (.slice ao n cap) (L.take n) := by
  obtain ⟨a2, c2, e, hh⟩ := h
  cases e
  refine ⟨ao, cap, by rw [List.length_take, Nat.min_eq_left hn], fun i hi => ?_⟩
  have hi2 : i < L.length := by rw [List.length_take] at hi; omega
  have := hh i hi2
  rw [List.getElem_take]
  exact this
theorem held_take {k : IntKind} {w : World} {ao : Option Addr} {cap : Nat} {xs : List Int} (h : Held k w (.slice ao xs.length cap) xs) (n : Nat) (hn : n ≤ xs.length) : Held k w (.slice ao n cap) (xs.take n) := by
  obtain ⟨a2, c2, e, hl, hh⟩ := h
  cases e
  refine ⟨ao, cap, by rw [List.length_take, Nat.min_eq_left hn], fun e => by obtain ⟨rfl, rfl⟩ := hl e; exact ⟨by simp, rfl⟩, fun i hi => ?_⟩
  have hi2 : i < n ∧ i < xs.length := by rw [List.length_take] at hi; omega
  have := hh i hi2.2
  rw [getD_take_lt _ _ _ _ hi2.1]
  exact this
/-- The reference's width of a head. -/
theorem rrow_take (ao po : Option Addr) (ca pc : Nat) (xs : List Int) (L : List Pr) (n : Nat) (w : World) (hx : Held .i32 w (.slice ao xs.length ca) xs) (hp : HeldP w (.slice po L.length pc) L) (hn : n ≤ xs.length) (hm : n ≤ L.length) (h : n ≤ 1000000) :
    Calls Try.prog 12 #[.slice ao n ca, .slice po n pc] w (Gives w (.int .i64 (rowW xs L n))) := by
  have h1 := rrow_any (.slice ao n ca) (.slice po n pc) (xs.take n) (L.take n) w (held_take hx n hn) (heldP_take hp n hm) (by rw [List.length_take, List.length_take]; omega) (by rw [List.length_take]; omega)
  rw [List.length_take, Nat.min_eq_left hn, rowW_take] at h1
  exact h1
theorem rowW_mono (xs : List Int) (ps : List Pr) (k : Nat) : decide (rowW xs ps (k + 1) < rowW xs ps k) = false := by
  unfold rowW
  by_cases h : anyW xs ps k = true
  · rw [if_pos h, if_pos (anyW_mono (by omega) h)]; rfl
  · rw [if_neg h]; split <;> rfl
theorem gstep_row (g : Nat) (xs : List Int) (L : List Pr) (k : Nat) (r : Int) (q : Pr) (hr : r = xs.getD k 0) (hq : q = L.getD k Pr.none) (w : World) (hg : GaugeAt w g (decide (0 < k)) (picAt L k) (anyW xs L k)) :
    Calls Try.prog 11 #[.pointer (some ⟨g, 0, none⟩), .int .i32 r, .agg #[.int .i64 q.br, .bool q.pc, .int .i64 q.cv, .int .i64 q.ea]] w fun e w' => e = .returned (.int .i64 (rowW xs L (k + 1))) ∧ GaugeAt w' g (decide (0 < k + 1)) (picAt L (k + 1)) (anyW xs L (k + 1)) ∧ But g w.heap.size w w' := by
  subst hr; subst hq
  have h := gstep_any g _ _ _ (xs.getD k 0) (L.getD k Pr.none).br (L.getD k Pr.none).pc (L.getD k Pr.none).cv (L.getD k Pr.none).ea w hg
  rw [decide_eq_true (show 0 < k + 1 by omega)]
  exact h
theorem own_capP {w : World} {B e size : Nat} {v : Value} {n : Nat} {xs : List Value} (h : w.ownsRow B e size v n xs) : CapOk v := by
  rcases h.2 with ⟨rfl, _⟩ | ⟨g, cap, cur, rfl, _, _, hnc, _⟩
  · exact capOk_of (Nat.le_refl _)
  · exact capOk_of hnc
set_option maxRecDepth 100000 in
theorem capP_arg {H : Type} {enc : TypeId × Value → H} {W : World} {base : Nat} {v : Value} {d : DataW H} {p : List MemPlace} (hv : Value.okWide Try.prog W .any base 23 v) (h : DataW.Trod enc Try.prog W 0 (fun _ => true) true 23 v d p) : CapOk v := by
  obtain ⟨a0, len, cap, rfl⟩ := okWide_slice Try.underlying23 hv
  obtain ⟨fuel, hf⟩ := h
  rcases Deep.open_slice Try.underlying23 hf with ⟨hcs, _⟩ | ⟨a, len', cap', m, n, D, Pl, hcs, _, hl, hm, hmm, _, hx⟩
  · simp [Value.cells] at hcs
    obtain ⟨rfl, rfl, rfl⟩ := hcs
    exact capOk_of (Nat.le_refl _)
  · simp [Value.cells] at hcs
    obtain ⟨rfl, rfl, rfl⟩ := hcs
    simp at hmm
    exact capOk_of (by omega)
end Go.Proofs.Ytfkeeigaocmalaa
