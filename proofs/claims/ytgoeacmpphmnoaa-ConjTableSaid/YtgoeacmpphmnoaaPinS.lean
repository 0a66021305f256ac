/- Spans that are sorted; contracts of pinned: Fewest. -/
import Derived.Test.YtgoeacmpphmnoaaSpanM
import Derived.Test.YtgoeacmpphmnoaaSpanH
import Derived.Test.YtgoeacmpphmnoaaPinM
namespace Go.Proofs.Ytgoeacmpphmnoaa
open Go.RowKit Go.ChangeShapes Go.WideShapes
open Go.Sort Go.Lib
def encS (x : Sp) : List Value := [.int .i64 x.1, .int .i64 x.2.1, .int .i64 x.2.2]
theorem flat_eqS (l : List Sp) : flatK encS 3 l.toArray = (spCells l).toArray := by
  refine ext_get! (by simp [spCells_len]) fun t ht => ?_
  have ht' : t < l.length * 3 := by simpa using ht
  have hi : t / 3 < l.length := by omega
  rw [get_flatK _ _ _ _ (by simpa using ht')]
  have k := spCells_at l (t / 3) hi
  have hd : l.toArray[t / 3]! = l.getD (t / 3) z3 := by simp [List.getD, List.getElem?_eq_getElem hi, hi]
  rw [hd]
  have hm : t % 3 = 0 ∨ t % 3 = 1 ∨ t % 3 = 2 := by omega
  rcases hm with h | h | h
  · rw [h]
    have e : t / 3 * 3 = t := by omega
    rw [e] at k
    have := k.1
    simp [encS, List.getElem!_eq_getElem?_getD, this]
  · rw [h]
    have e : t / 3 * 3 + 1 = t := by omega
    rw [e] at k
    have := k.2.1
    simp [encS, List.getElem!_eq_getElem?_getD, this]
  · rw [h]
    have e : t / 3 * 3 + 2 = t := by omega
    rw [e] at k
    have := k.2.2
    simp [encS, List.getElem!_eq_getElem?_getD, this]
theorem holds_sp {w : World} {B g cap n e : Nat} {l : List Sp} (h : w.ownsRow B e 3 (.slice (some ⟨g, 0, none⟩) n cap) n (spCells l)) : HoldsK encS 3 w g 0 l.toArray := by
  have hn := h.1
  unfold HoldsK
  rw [flat_eqS]
  intro j hj
  have hj' : j < (spCells l).length := by simpa using hj
  refine ⟨?_, by rw [Nat.zero_add]; exact h.frozenAt j⟩
  rw [Nat.zero_add, h.cellAt j (by omega)]
  simp [List.getElem?_eq_getElem hj', hj']
theorem owns_sortedS {w : World} {B g cap n e m : Nat} {os : Array Obj} {l l' : List Sp} (h : w.ownsRow B e 3 (.slice (some ⟨g, 0, none⟩) n cap) n (spCells l)) (hl : l'.length = l.length) :
    (sortWorldK encS 3 w g 0 m l'.toArray os).ownsRow B e 3 (.slice (some ⟨g, 0, none⟩) n cap) n (spCells l') := by
  unfold sortWorldK putRowK
  rw [flat_eqS]
  have hn := h.1
  rw [spCells_len] at hn
  rcases h.2 with ⟨h0, _⟩ | ⟨g', cap', cur, hv, hg, hh, hnc, hcap, hsz, _⟩
  · cases h0
  cases hv
  have hle : (spCells l').length ≤ cur.size := by rw [spCells_len, hl, hn, hsz]; omega
  refine ⟨by rw [spCells_len, hl, hn], .inr ⟨g, cap, _, rfl, hg, block_put _ hh, hnc, hcap, by simp [putCells, hsz], ?_⟩⟩
  have := take_put (spCells l') cur hle
  rwa [spCells_len, hl, hn] at this
theorem lt_atS (x y : Sp) : ltOf (fun x y : Sp => Lib.compareInt x.1 y.1) x y = decide (x.1 < y.1) := by
  unfold ltOf Lib.compareInt
  by_cases h1 : x.1 < y.1
  · simp [h1]
  · by_cases h2 : y.1 < x.1 <;> simp [h1, h2]
theorem swo_atS : SWO (ltOf fun x y : Sp => Lib.compareInt x.1 y.1) where
  irrefl x := by rw [lt_atS]; exact decide_eq_false (by omega)
  trans x y z h1 h2 := by
    rw [lt_atS] at *
    have a := of_decide_eq_true h1
    have b := of_decide_eq_true h2
    exact decide_eq_true (by omega)
  ntrans x y z h1 h2 := by
    rw [lt_atS] at *
    have a := of_decide_eq_false h1
    have b := of_decide_eq_false h2
    exact decide_eq_false (by omega)
set_option maxHeartbeats 1000000 in
set_option maxRecDepth 100000 in
theorem los_any (x y : Sp) (W : World) : Calls Try.prog 135 #[.agg #[.int .i64 x.1, .int .i64 x.2.1, .int .i64 x.2.2], .agg #[.int .i64 y.1, .int .i64 y.2.1, .int .i64 y.2.2]] W fun e w' => e = .returned (.int .i64 (Lib.compareInt x.1 y.1)) ∧ ∃ q os', w' = grow (W.drewN q) os' := by
  have hcon := fun W' => AnyG.cmp_Compare_int cmpInt x.1 y.1 W'
  change ∀ W', Calls Try.prog 136 _ _ _ at hcon
  generalize Lib.compareInt x.1 y.1 = r at hcon ⊢
  go_enter Try.func135, Try.ntmps135
  go_wp2_with (go_at_call 136; refine (hcon _).mono ?_; rintro e w' ⟨rfl, rfl⟩)
  go_ret
  exact ⟨rfl, 0, _, by rw [alloc_eq_grow, alloc_eq_grow, grow_grow]; rfl⟩
def SortSOk (w : World) (B : Nat) (v : Value) (n : Nat) (l : List Sp) (e : Ending) (w' : World) : Prop := ∃ l', e = .returned (.tuple #[]) ∧ l'.Perm l ∧ upS l' ∧ w'.ownsRow B 98 3 v n (spCells l') ∧ Below B w w'
theorem sortS_any (v : Value) (l : List Sp) (w : World) (B n : Nat) (hn : n = l.length) (hown : w.ownsRow B 98 3 v n (spCells l)) (hB : B ≤ w.heap.size) (hl : n ≤ 1000000) :
    Calls Try.prog 134 #[v, .func (.func 135) #[] #[]] w (SortSOk w B v n l) := by
  rcases hown.2 with ⟨rfl, h0⟩ | ⟨g, cap, cur, rfl, hBg, hh, _⟩
  · have : l = [] := List.eq_nil_of_length_eq_zero (by omega)
    subst this h0
    have hcon := AnyF.slices_SortFunc_none sortSpan none 0 (.func (.func 135) #[] #[]) w
    refine Calls.mono hcon ?_
    rintro e w' ⟨rfl, rfl⟩
    exact ⟨[], rfl, .refl _, fun i j _ h => by simp at h, hown, Below.refl _ _⟩
  · have eg : ∀ args w, (callFunc 135 args).run Try.prog w = .ok (.enter 135 args) w := enters_of Try.func135 (by kernel_rfl) rfl
    have hgs : g < w.heap.size := (hown.lt g rfl).2
    have hcon := AnyQ.slices_SortFunc sortSpan 3 Try.isAgg98 Try.sizeOf98 encS (fun _ => rfl) (fun x v hv => by simp [encS] at hv; rcases hv with rfl | rfl | rfl <;> rfl) (fun x y => Lib.compareInt x.1 y.1) swo_atS 135 #[] g 0 cap l.toArray w eg
      (fun _ _ _ _ x y => los_any x y _) (holds_sp hown) hgs (by simp; omega)
    rw [show l.toArray.size = n by simp [hn]] at hcon
    refine Calls.mono hcon ?_
    rintro e w' ⟨rfl, d', m, os, hp, hs, rfl⟩
    obtain ⟨hp1, _, hp2⟩ := hp
    have hsz : d'.size = n := by rw [hp1]; simp [hn]
    refine ⟨d'.toList, rfl, ?_, ?_, ?_, ?_⟩
    · have e1 : d'.extract 0 n = d' := by rw [← hsz]; simp
      have e2 : l.toArray.extract 0 n = l.toArray := by rw [show n = l.toArray.size by simp [hn]]; simp
      rw [e1, e2] at hp2
      simpa using hp2
    · intro i j hij hj
      have hj' : j < n := by simpa [hsz] using hj
      have := hs i j (Nat.zero_le _) hij hj'
      rw [lt_atS] at this
      have := of_decide_eq_false this
      have a1 : d'[i]! = d'.toList.getD i z3 := by simp [List.getD, show i < d'.size by omega]
      have a2 : d'[j]! = d'.toList.getD j z3 := by simp [List.getD, show j < d'.size by omega]
      rw [a1, a2] at this
      omega
    · have := owns_sortedS (m := m) (os := os) (l' := d'.toList) hown (by simp [hsz, hn])
      simpa using this
    · exact (but_put (m := m) (os := os) _).below (by omega) hBg
/-- The fewest spans of what is sorted. -/
def PinOk (w : World) (B : Nat) (S : List Sp) (e : Ending) (w' : World) : Prop := ∃ v', e = .returned v' ∧ HeldS w' v' (fewestS S) ∧ Below B w w'
set_option maxRecDepth 100000 in
theorem pinfew_any (v : Value) (T S : List Sp) (hp : S.Perm T) (hr : rightN S S.length = true) (w : World) (B n : Nat) (hn : n = T.length) (hown : w.ownsRow B 98 3 v n (spCells T)) (hB : B ≤ w.heap.size) (hl : n ≤ 999999) :
    Calls Try.prog 79 #[v] w (PinOk w B S) := by
  have HS := Lib.hid (sortS_any v T w B n hn hown hB (by omega))
  have HP := Lib.hid hp
  have HR := Lib.hid hr
  have HN := Lib.hid (show T.length ≤ 999999 by omega)
  clear hp hr hown
  go_enter Try.func79, Try.ntmps79
  go_wp2_with fail
  refine HS.out.mono ?_
  rintro e w1 ⟨l', rfl, hp1, hu, ho1, b1⟩
  have hl' : l' = S := sorted_right (hp1.trans HP.out.symm) hu HR.out
  subst hl'
  have hh := heldS_of_owns ho1
  have hlen : l'.length ≤ 999999 := by rw [hp1.length_eq]; exact HN.out
  have HF := Lib.hid (fewest_any v l' w1 hh hlen)
  clear hp1 hu ho1 hh HS
  go_wp2_with fail
  refine HF.out.mono ?_
  rintro e w2 ⟨v2, n2, rfl, _, ho2, b2⟩
  have h2 := heldS_of_owns ho2
  have hb2 := b1.trans (b2.mono (Nat.le_trans hB b1.size))
  clear ho2 b2
  go_wp2
  go_ret
  exact ⟨_, rfl, h2, hb2⟩
end Go.Proofs.Ytgoeacmpphmnoaa
