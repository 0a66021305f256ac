/- Texts put together: GrdW, GrdZ. -/
import Derived.Test.YtgndolgihplngaaGreatDoorGrdR
import Derived.Test.YtgndolgihplngaaGreatDoorCellS
/- Which line is wrong (32): the reference's Wrong. -/
namespace Go.Proofs.YtgndolgihplngaaGreatDoor
open Go.RowKit Go.ChangeShapes Go.WideShapes
def codeAt (n0 : Nat) (l : Ln) : Nat := if l.1.length = 0 ∨ 1024 < l.1.length then 3 else if soundB l.1 = false then 5 else if l.1.length ≠ n0 then 3 else 0
def firstN (Ls : List Ln) : Nat := (Ls.getD 0 zl).1.length
def AllGood (Ls : List Ln) : Prop := ∀ k, k < Ls.length → codeAt (firstN Ls) (Ls.getD k zl) = 0
def FirstBad (Ls : List Ln) (i c : Nat) : Prop := i < Ls.length ∧ (∀ j, j < i → codeAt (firstN Ls) (Ls.getD j zl) = 0) ∧ codeAt (firstN Ls) (Ls.getD i zl) = c ∧ c ≠ 0
theorem wrong_cases (Ls : List Ln) : AllGood Ls ∨ ∃ i c, FirstBad Ls i c := by
  have h : ∀ n, n ≤ Ls.length → (∀ j, j < n → codeAt (firstN Ls) (Ls.getD j zl) = 0) ∨ ∃ i c, FirstBad Ls i c := by
    intro n
    induction n with
    | zero => intro _; exact .inl fun j hj => absurd hj (Nat.not_lt_zero _)
    | succ n ih =>
      intro hn
      rcases ih (by omega) with h | h
      · by_cases e : codeAt (firstN Ls) (Ls.getD n zl) = 0
        · refine .inl fun j hj => ?_
          by_cases ej : j = n
          · subst ej; exact e
          · exact h j (by omega)
        · exact .inr ⟨n, _, by omega, h, rfl, e⟩
      · exact .inr h
  exact h Ls.length (Nat.le_refl _)
theorem first_one {Ls : List Ln} {k i c : Nat} (hk : k < Ls.length) (h : ∀ j, j < k → codeAt (firstN Ls) (Ls.getD j zl) = 0) (hn : codeAt (firstN Ls) (Ls.getD k zl) ≠ 0) (hb : FirstBad Ls i c) : i = k ∧ c = codeAt (firstN Ls) (Ls.getD k zl) := by
  obtain ⟨h1, h2, h3, h4⟩ := hb
  rcases Nat.lt_trichotomy i k with hl | rfl | hl
  · exact absurd (h3.symm.trans (h i hl)) h4
  · exact ⟨rfl, h3.symm⟩
  · exact absurd (h2 k hl) hn
theorem first_none {Ls : List Ln} {i c : Nat} (h : ∀ j, j < Ls.length → codeAt (firstN Ls) (Ls.getD j zl) = 0) (hb : FirstBad Ls i c) : False := hb.2.2.2 (hb.2.2.1.symm.trans (h i hb.1))
theorem code_cases (n0 : Nat) (l : Ln) : (codeAt n0 l = 3 ∧ (l.1.length = 0 ∨ 1024 < l.1.length)) ∨ (0 < l.1.length ∧ l.1.length ≤ 1024 ∧ ((codeAt n0 l = 5 ∧ soundB l.1 = false) ∨ (soundB l.1 = true ∧ ((codeAt n0 l = 3 ∧ l.1.length ≠ n0) ∨ (codeAt n0 l = 0 ∧ l.1.length = n0))))) := by
  unfold codeAt
  by_cases h1 : l.1.length = 0 ∨ 1024 < l.1.length
  · exact .inl ⟨if_pos h1, h1⟩
  · refine .inr ⟨by omega, by omega, ?_⟩
    rw [if_neg h1]
    cases hs : soundB l.1 with
    | false => exact .inl ⟨if_pos rfl, rfl⟩
    | true =>
      refine .inr ⟨rfl, ?_⟩
      rw [if_neg (by decide)]
      by_cases h2 : l.1.length = n0
      · exact .inr ⟨if_neg (fun e => e h2), h2⟩
      · exact .inl ⟨if_pos h2, h2⟩
def WrongTold (w : World) (Ls : List Ln) (e : Ending) (w' : World) : Prop := (AllGood Ls → e = .returned (.tuple #[.int .i64 (-1), .int .i64 0])) ∧ (∀ i c : Nat, FirstBad Ls i c → e = .returned (.tuple #[.int .i64 i, .int .i64 c])) ∧ Below w.heap.size w w'
theorem WrongTold.bad {w w' : World} {Ls : List Ln} {k c : Nat} (hk : k < Ls.length) (h : ∀ j, j < k → codeAt (firstN Ls) (Ls.getD j zl) = 0) (hc : codeAt (firstN Ls) (Ls.getD k zl) = c) (hn : c ≠ 0) (hb : Below w.heap.size w w') : WrongTold w Ls (.returned (.tuple #[.int .i64 k, .int .i64 c])) w' := by
  refine ⟨fun hg => absurd (hc.symm.trans (hg k hk)) hn, fun i c' hf => ?_, hb⟩
  obtain ⟨rfl, rfl⟩ := first_one hk h (by rw [hc]; exact hn) hf
  rw [hc]
set_option maxRecDepth 100000 in
set_option maxHeartbeats 3000000 in
theorem rlwrong_any (Z : Zone) (v : Value) (Ls : List Ln) (w : World) (hv : HeldE lineE Z w v Ls) : Calls Tryz.prog 4 #[v] w (WrongTold w Ls) := by
  have hlm := hv.max
  obtain ⟨ao, cap, rfl⟩ := hv.len
  obtain ⟨n, hn⟩ : ∃ n, n = Ls.length := ⟨_, rfl⟩
  have hc := (lines_at hv).2.2
  have hcap := (lines_at hv).2.1
  have HN := Lib.hid hn
  rw [← hn] at hc hcap hlm ⊢
  have HC := Lib.hid hc
  have HFN := Lib.hid (show firstN Ls = (Ls.getD 0 zl).1.length from rfl)
  obtain ⟨n0, hn0⟩ : ∃ n0, n0 = firstN Ls := ⟨_, rfl⟩
  have HN0 := Lib.hid hn0
  clear hc hv hn hn0
  go_enter Tryz.func4, Tryz.ntmps4
  go_wp2
  go_loopw [4] (fun i wr => ∃ k : Nat, k ≤ n ∧ i = .int .i64 k ∧ Go.RowKit.Hid (∀ j, j < k → codeAt (firstN Ls) (Ls.getD j zl) = 0) ∧ Below w.heap.size w wr) (fun i _ => n - (intOf i).toNat)
  case atStart => exact ⟨0, Nat.zero_le _, rfl, Lib.hid (fun j hj => absurd hj (Nat.not_lt_zero _)), Below.refl _ _⟩
  case round =>
    obtain ⟨k, hk, rfl, HOK, hbw⟩ := hrel
    have HBW := Lib.hid hbw
    clear hbw
    by_cases hlt : k < n
    · obtain ⟨b, off, cv, rfl, hb, _, c0, c1, hh⟩ := HC.out k hlt
      obtain ⟨b', off', cv0, e0, hb', _, z0, _, hz⟩ := HC.out 0 (by omega)
      cases e0
      rw [Nat.zero_mul, Nat.add_zero] at z0
      have hcc := code_cases (firstN Ls) (Ls.getD k zl)
      have HKL := Lib.hid (show k < Ls.length by rw [← HN.out]; exact hlt)
      obtain ⟨a0, x0, rfl⟩ := hz.len
      rw [← HFN.out, ← HN0.out] at z0
      have HCC := Lib.hid hcc
      have hxm := hh.max
      have HX := Lib.hid hh
      have HEL := Lib.hid hh.len
      obtain ⟨X, hX⟩ : ∃ X, X = (Ls.getD k zl).1 := ⟨_, rfl⟩
      have hcc2 := HCC.out
      rw [← hX] at HX HEL hxm hcc2
      obtain ⟨a1, x1, rfl⟩ := HEL.out
      have HF := Lib.hid (show ∀ w2, Below w.heap.size w w2 → w2.cell? ⟨b, off + k * 2, none⟩ = some (.slice a1 X.length x1) ∧ w2.cell? ⟨b, off, none⟩ = some (.slice a0 n0 x0) from fun w2 h => ⟨(h.cell (p := ⟨b, off + k * 2, none⟩) hb).trans c0, (h.cell (p := ⟨b, off, none⟩) hb).trans z0⟩)
      obtain ⟨xn, hxn⟩ : ∃ xn, xn = X.length := ⟨_, rfl⟩
      have HXN := Lib.hid hxn
      rw [← hxn] at HF hxm hcc2
      have HS := Lib.hid (show Calls Tryz.prog 14 #[.slice a1 xn x1] wr (Gives wr (.bool (okTo X X.length))) by rw [hxn]; exact rsound_any _ _ _ _ (HX.out.below HBW.out))
      rw [← sound_iff] at HS
      clear hh hz c0 c1 z0 hX HEL hb hb' hcc HCC hxn HX
      obtain ⟨q0, q1⟩ := HF.out wr HBW.out
      rcases hcc2 with ⟨hcd, hbad⟩ | ⟨hx0, hx1, ⟨hcd, hs⟩ | ⟨hs, ⟨hcd, hne⟩ | ⟨hcd, heq⟩⟩⟩
      · have HCD := Lib.hid hcd
        clear hcd
        by_cases hx : xn = 0
        · have hz : ((xn : Int) == 0) = true := by rw [beq_iff_eq]; omega
          clear hbad hx
          go_wp2
          go_ret2
          exact WrongTold.bad HKL.out HOK.out HCD.out (by decide) HBW.out
        · have hz : ((xn : Int) == 0) = false := by rw [beq_eq_false_iff_ne]; omega
          have hd : decide ((1024 : Int) < xn) = true := by rw [decide_eq_true_eq]; omega
          have hdn : decide (1024 < xn) = true := by rw [decide_eq_true_eq]; omega
          clear hbad hx
          go_wp2
          go_ret2
          exact WrongTold.bad HKL.out HOK.out HCD.out (by decide) HBW.out
      · have hz : ((xn : Int) == 0) = false := by rw [beq_eq_false_iff_ne]; omega
        have hd : decide ((1024 : Int) < xn) = false := by rw [decide_eq_false_iff_not]; omega
        have hdn : decide (1024 < xn) = false := by rw [decide_eq_false_iff_not]; omega
        rw [hs] at HS
        have HCD := Lib.hid hcd
        clear hcd hs hx0 hx1
        go_wp2_with fail
        refine HS.out.mono ?_
        rintro e w2 ⟨rfl, b2⟩
        have HB2 := Lib.hid (HBW.out.trans (b2.mono HBW.out.size))
        clear b2
        go_wp2
        go_ret2
        exact WrongTold.bad HKL.out HOK.out HCD.out (by decide) HB2.out
      · have hz : ((xn : Int) == 0) = false := by rw [beq_eq_false_iff_ne]; omega
        have hd : decide ((1024 : Int) < xn) = false := by rw [decide_eq_false_iff_not]; omega
        have hdn : decide (1024 < xn) = false := by rw [decide_eq_false_iff_not]; omega
        have hnn : ((xn : Int) != (n0 : Int)) = true := by rw [← HN0.out] at hne; simp; omega
        rw [hs] at HS
        have HCD := Lib.hid hcd
        clear hcd hs hx0 hx1 hne q0 q1
        obtain ⟨q0, q1⟩ := HF.out wr HBW.out
        go_wp2_with fail
        refine HS.out.mono ?_
        rintro e w2 ⟨rfl, b2⟩
        have HB2 := Lib.hid (HBW.out.trans (b2.mono HBW.out.size))
        clear b2 q0 q1
        obtain ⟨q0, q1⟩ := HF.out w2 HB2.out
        go_wp2
        go_ret2
        exact WrongTold.bad HKL.out HOK.out HCD.out (by decide) HB2.out
      · have hz : ((xn : Int) == 0) = false := by rw [beq_eq_false_iff_ne]; omega
        have hd : decide ((1024 : Int) < xn) = false := by rw [decide_eq_false_iff_not]; omega
        have hdn : decide (1024 < xn) = false := by rw [decide_eq_false_iff_not]; omega
        have hnn : ((xn : Int) != (n0 : Int)) = false := by rw [← HN0.out] at heq; simp; omega
        rw [hs] at HS
        have HOK2 := Lib.hid (show ∀ j, j < k + 1 → codeAt (firstN Ls) (Ls.getD j zl) = 0 from fun j hj => by
          by_cases e : j = k
          · subst e; exact hcd
          · exact HOK.out j (by omega))
        clear hcd hs hx0 hx1 heq
        go_wp2_with fail
        refine HS.out.mono ?_
        rintro e w2 ⟨rfl, b2⟩
        have HB2 := Lib.hid (HBW.out.trans (b2.mono HBW.out.size))
        clear b2 q0 q1
        obtain ⟨q0, q1⟩ := HF.out w2 HB2.out
        go_wp2
        go_roundw
        case rel => exact ⟨k + 1, by omega, by go_num, HOK2, HB2.out⟩
        case measure => simp [intOf] <;> omega
    · obtain rfl : k = n := by omega
      go_wp2
      go_ret2
      have hok := HOK.out
      rw [HN.out] at hok
      exact ⟨fun _ => rfl, fun i c hf => (first_none hok hf).elim, HBW.out⟩
end Go.Proofs.YtgndolgihplngaaGreatDoor
/- linotyperef32.New: what it makes lies behind. -/
namespace Go.Proofs.YtgndolgihplngaaGreatDoor
open Go.RowKit Go.ChangeShapes Go.WideShapes
end Go.Proofs.YtgndolgihplngaaGreatDoor
