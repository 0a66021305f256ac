/- Contracts of spans: Find. -/
import Derived.Test.YtmfoldohmbaikaaSpanE
import Derived.Test.YtmfoldohmbaikaaSearch
import Derived.Test.YtmfoldohmbaikaaGrow
namespace Go.Proofs.Ytmfoldohmbaikaa
open Go.RowKit Go.ChangeShapes Go.WideShapes
def endsS (T : List Sp) (n : Int) (i : Nat) : Bool := decide (n ≤ (T.getD i z3).2.1)
theorem hi_mono {T : List Sp} (hr : rightN T T.length = true) : ∀ a b, a ≤ b → b < T.length → (T.getD a z3).2.1 ≤ (T.getD b z3).2.1 := by
  intro a b hab hb
  induction b with
  | zero => have : a = 0 := by omega
            subst this; omega
  | succ b ih =>
    rcases Nat.lt_or_ge b a with h1 | h1
    · have : a = b + 1 := by omega
      subst this; omega
    · have h2 := ih h1 (by omega)
      have h3 := right_at hr hb
      unfold lastOf at h3
      rw [if_neg (by omega), show b + 1 - 1 = b from rfl] at h3
      omega
theorem ends_monoS {T : List Sp} {n : Int} (hr : rightN T T.length = true) : ∀ a b, a ≤ b → b < T.length → endsS T n a = true → endsS T n b = true := by
  intro a b hab hb h
  unfold endsS at *
  have := hi_mono hr a b hab hb
  simp only [decide_eq_true_eq] at h ⊢
  omega
theorem find_search {T : List Sp} {n : Int} (hr : rightN T T.length = true) {k : Nat} (hk : k < T.length) (hlo : ∀ j, j < k → endsS T n j = false) (hhi : endsS T n k = true) :
    findS T n = if (T.getD k z3).1 ≤ n then (T.getD k z3).2.2 else 0 := by
  have hb : ∀ j, j < k → holdS (T.getD j z3) n = false := fun j hj => by
    have := hlo j hj
    unfold endsS at this
    unfold holdS
    rw [this]; simp
  unfold endsS at hhi
  by_cases h : (T.getD k z3).1 ≤ n
  · rw [if_pos h]
    exact find_here hk hb (by unfold holdS; rw [hhi, decide_eq_true h]; rfl)
  · rw [if_neg h]
    refine find_none fun j hj => ?_
    rcases Nat.lt_or_ge j k with h1 | h1
    · exact hb j h1
    · have : (T.getD k z3).1 ≤ (T.getD j z3).1 := by
        rcases Nat.lt_or_ge k j with h2 | h2
        · have h3 := right_at hr hj
          have h4 := hi_mono hr k (j - 1) (by omega) (by omega)
          have h5 := right_at hr hk
          unfold lastOf at h3
          rw [if_neg (by omega)] at h3
          omega
        · have : j = k := by omega
          subst this; omega
      unfold holdS
      rw [decide_eq_false (by omega)]; rfl
theorem find_past {T : List Sp} {n : Int} (h : ∀ j, j < T.length → endsS T n j = false) : findS T n = 0 := find_none fun j hj => by
  have := h j hj
  unfold endsS at this
  unfold holdS
  rw [this]; simp
set_option maxRecDepth 100000 in
theorem sclo_any (w : World) (b1 b2 : Nat) (ao : Option Addr) (n cap : Nat) (T : List Sp) (r : Int) (hb1 : w.cell? ⟨b1, 0, none⟩ = some (.slice ao n cap)) (hb2 : w.cell? ⟨b2, 0, none⟩ = some (.int .i64 r)) (hh : HeldS w (.slice ao n cap) T) (i : Nat) (hi : i < T.length) (hl : T.length ≤ 1000000) :
    Calls Try.prog 66 (#[.int .i64 i] ++ #[.pointer (some ⟨b1, 0, none⟩), .pointer (some ⟨b2, 0, none⟩)]) w (Gives w (.bool (endsS T r i))) := by
  obtain ⟨ao', cap', e, hc⟩ := hh
  cases e
  obtain ⟨b, off, rfl, hb, h1, h2, h3⟩ := hc i hi
  unfold endsS
  generalize (T.getD i z3).2.1 = y at *
  clear hc h1 h3
  go_enter Try.func66, Try.ntmps66
  go_wp2
  go_quiet (fail)
  go_wp2
  go_ret
  exact ⟨(ret_eq (by first | rfl | (simp <;> omega))), (Below.refl _ _).drewN _⟩
set_option maxRecDepth 100000 in
set_option maxHeartbeats 1000000 in
theorem find_any (v : Value) (T : List Sp) (r : Int) (w : World) (hh : HeldS w v T) (hl : T.length ≤ 1000000) :
    Calls Try.prog 37 #[v, .int .i64 r] w (Gives w (.int .i64 (if rightN T T.length = true then findS T r else 0))) := by
  obtain ⟨ao, cap, rfl⟩ := hh.len
  obtain ⟨W, hW⟩ : ∃ W, W = (w.alloc (.cells #[.slice ao T.length cap] 55)).alloc (.cells #[.int .i64 r] 3) := ⟨_, rfl⟩
  have hb1 : Has W w.heap.size [.slice ao T.length cap] 55 := by rw [hW]; exact (Has.new w _ _).alloc _
  have hb2 : Has W (w.heap.size + 1) [.int .i64 r] 3 := by rw [hW]; have := Has.new (w.alloc (.cells #[.slice ao T.length cap] 55)) [.int .i64 r] 3; simpa using this
  have hl0 : Below w.heap.size w W := by rw [hW]; exact ((Below.refl _ _).alloc (Nat.le_refl _) _).alloc (by simp) _
  have hrr := right_any _ T W (hh.below hl0) hl
  cases hr : rightN T T.length with
  | false =>
    rw [hr] at hrr
    have HR := Lib.hid hrr
    have HL := Lib.hid hl0
    clear hr hrr hb1 hb2 hh hl0
    go_enter Try.func37, Try.ntmps37
    go_wp2_with (rw [← hW]; go_at_call 36; refine HR.out.mono ?_; rintro e w1 ⟨rfl, hb1⟩)
    go_ret
    exact ⟨(ret_eq (by first | rfl | (simp <;> omega))), HL.out.trans (hb1.mono HL.out.size)⟩
  | true =>
    rw [hr] at hrr
    have HR := Lib.hid hrr
    have HQ := Lib.hid hr
    have HS := Lib.hid fun (w1 : World) (hb : Below W.heap.size W w1) => search_any 66 #[.pointer (some ⟨w.heap.size, 0, none⟩), .pointer (some ⟨w.heap.size + 1, 0, none⟩)] T.length (endsS T r) w1 (enters_of Try.func66 (by kernel_rfl) rfl) (by omega)
      (fun w' hb' i hi => sclo_any w' w.heap.size (w.heap.size + 1) ao T.length cap T r ((hb1.below (hb.trans (hb'.mono hb.size)) hb1.lt).cell 0 _ rfl) ((hb2.below (hb.trans (hb'.mono hb.size)) hb2.lt).cell 0 _ rfl) ((hh.below hl0).below (hb.trans (hb'.mono hb.size))) i hi hl) (ends_monoS hr)
    have HC := Lib.hid hh
    have HL := Lib.hid hl0
    have HB1 := Lib.hid hb1
    have HB2 := Lib.hid hb2
    clear hrr hr hl0 hb1 hb2 hh
    go_enter Try.func37, Try.ntmps37
    go_wp2_with (rw [← hW]; go_at_call 36; refine HR.out.mono ?_; rintro e w1 ⟨rfl, hbR⟩; have q1 := (HB1.out.below hbR HB1.out.lt).cell 0 _ rfl; have q2 := (HB2.out.below hbR HB2.out.lt).cell 0 _ rfl)
    refine (HS.out w1 hbR).mono ?_
    rintro e w' ⟨k, hk, rfl, hlo, hhi, hbw0⟩
    have hbw := hbR.trans (hbw0.mono hbR.size)
    have hb1 := (HB1.out.below hbw HB1.out.lt).cell 0 _ rfl
    have hb2 := (HB2.out.below hbw HB2.out.lt).cell 0 _ rfl
    have hbl : Below w.heap.size w w' := HL.out.trans (hbw.mono HL.out.size)
    by_cases hkl : k < T.length
    · obtain ⟨b, off, rfl, hb, c0, c1, c2⟩ := (HC.out.below hbl).spots k hkl
      have hf := find_search HQ.out hkl hlo (hhi k (Nat.le_refl _) hkl)
      have d0 : ((k : Int) == (T.length : Int)) = false := by simp; omega
      have HBL := Lib.hid hbl
      clear hlo hhi hbw hW q1 q2 hbw0 hbR hbl
      obtain ⟨s, hs⟩ : ∃ s, s = T.getD k z3 := ⟨_, rfl⟩
      rw [← hs] at c0 c1 c2 hf
      obtain ⟨lo, hi, val⟩ := s
      simp only at c0 c1 c2 hf
      clear hs
      by_cases hlr : lo ≤ r
      · rw [if_pos hlr] at hf
        have d1 : decide (r < lo) = false := decide_eq_false (by omega)
        have HF := Lib.hid hf
        clear hf hlr
        go_wp2
        go_quiet (fail)
        go_wp2
        go_ret
        exact ⟨ret_eq (by rw [HF.out]; try rfl), HBL.out.drewN _⟩
      · rw [if_neg hlr] at hf
        have d1 : decide (r < lo) = true := decide_eq_true (by omega)
        have HF := Lib.hid hf
        clear hf hlr
        go_wp2
        go_quiet (fail)
        go_wp2
        go_ret
        exact ⟨ret_eq (by rw [HF.out]; try rfl), HBL.out.drewN _⟩
    · obtain rfl : k = T.length := by omega
      have hf := find_past (T := T) (n := r) fun j hj => hlo j hj
      have HF := Lib.hid hf
      have HBL := Lib.hid hbl
      clear hf hlo hhi hbw hW q1 q2 hbw0 hbR hbl
      go_wp2
      go_quiet (fail)
      go_wp2
      go_ret
      exact ⟨ret_eq (by rw [HF.out]; try rfl), HBL.out.drewN _⟩
end Go.Proofs.Ytmfoldohmbaikaa
