/- Texts put together: GrdW, GrdZ, ShfD, FitA, FitB, FitR. -/
import Derived.Test.YtgndolgihplngaaDoorGrdR
import Derived.Test.YtgndolgihplngaaDoorCellS
import Derived.Test.YtgndolgihplngaaDoorShfC
import Derived.Test.YtgndolgihplngaaDoorMg4
import Derived.Test.YtgndolgihplngaaDoorMg1
import Derived.Test.YtgndolgihplngaaDoorMg5
import Derived.Test.YtgndolgihplngaaDoorMg3
import Derived.Test.YtgndolgihplngaaDoorErrS
import Derived.Lib.MinMax
/- Which line is wrong (32): the reference's Wrong. -/
namespace Go.Proofs.YtgndolgihplngaaDoor
open Go.RowKit Go.ChangeShapes Go.WideShapes
def codeAt (n0 : Nat) (l : Ln) : Nat := if l.1.length = 0 ∨ 1024 < l.1.length then 3 else if soundB l.1 = false then 5 else if l.1.length ≠ n0 then 3 else 0
def firstN (Ls : List Ln) : Nat := (Ls.getD 0 zl).1.length
def AllGood (Ls : List Ln) : Prop := ∀ k, k < Ls.length → codeAt (firstN Ls) (Ls.getD k zl) = 0
def FirstBad (Ls : List Ln) (i c : Nat) : Prop := i < Ls.length ∧ (∀ j, j < i → codeAt (firstN Ls) (Ls.getD j zl) = 0) ∧ codeAt (firstN Ls) (Ls.getD i zl) = c ∧ c ≠ 0
theorem wrong_cases (Ls : List Ln) : AllGood Ls ∨ ∃ i c, FirstBad Ls i c := by
  have h : ∀ n, n ≤ Ls.length → (∀ j, j < n → codeAt (firstN Ls) (Ls.getD j zl) = 0) ∨ ∃ i c, FirstBad Ls i c := by
    intro n
    induction n with
    | zero => intro _; exact .inl fun j hj => absurd hj (Nat.not_lt_zero _)
    | succ n ih =>
      intro hn
      rcases ih (by omega) with h | h
      · by_cases e : codeAt (firstN Ls) (Ls.getD n zl) = 0
        · refine .inl fun j hj => ?_
          by_cases ej : j = n
          · subst ej; exact e
          · exact h j (by omega)
        · exact .inr ⟨n, _, by omega, h, rfl, e⟩
      · exact .inr h
  exact h Ls.length (Nat.le_refl _)
theorem first_one {Ls : List Ln} {k i c : Nat} (hk : k < Ls.length) (h : ∀ j, j < k → codeAt (firstN Ls) (Ls.getD j zl) = 0) (hn : codeAt (firstN Ls) (Ls.getD k zl) ≠ 0) (hb : FirstBad Ls i c) : i = k ∧ c = codeAt (firstN Ls) (Ls.getD k zl) := by
  obtain ⟨h1, h2, h3, h4⟩ := hb
  rcases Nat.lt_trichotomy i k with hl | rfl | hl
  · exact absurd (h3.symm.trans (h i hl)) h4
  · exact ⟨rfl, h3.symm⟩
  · exact absurd (h2 k hl) hn
theorem first_none {Ls : List Ln} {i c : Nat} (h : ∀ j, j < Ls.length → codeAt (firstN Ls) (Ls.getD j zl) = 0) (hb : FirstBad Ls i c) : False := hb.2.2.2 (hb.2.2.1.symm.trans (h i hb.1))
theorem code_cases (n0 : Nat) (l : Ln) : (codeAt n0 l = 3 ∧ (l.1.length = 0 ∨ 1024 < l.1.length)) ∨ (0 < l.1.length ∧ l.1.length ≤ 1024 ∧ ((codeAt n0 l = 5 ∧ soundB l.1 = false) ∨ (soundB l.1 = true ∧ ((codeAt n0 l = 3 ∧ l.1.length ≠ n0) ∨ (codeAt n0 l = 0 ∧ l.1.length = n0))))) := by
  unfold codeAt
  by_cases h1 : l.1.length = 0 ∨ 1024 < l.1.length
  · exact .inl ⟨if_pos h1, h1⟩
  · refine .inr ⟨by omega, by omega, ?_⟩
    rw [if_neg h1]
    cases hs : soundB l.1 with
    | false => exact .inl ⟨if_pos rfl, rfl⟩
    | true =>
      refine .inr ⟨rfl, ?_⟩
      rw [if_neg (by decide)]
      by_cases h2 : l.1.length = n0
      · exact .inr ⟨if_neg (fun e => e h2), h2⟩
      · exact .inl ⟨if_pos h2, h2⟩
def WrongTold (w : World) (Ls : List Ln) (e : Ending) (w' : World) : Prop := (AllGood Ls → e = .returned (.tuple #[.int .i64 (-1), .int .i64 0])) ∧ (∀ i c : Nat, FirstBad Ls i c → e = .returned (.tuple #[.int .i64 i, .int .i64 c])) ∧ Below w.heap.size w w'
theorem WrongTold.bad {w w' : World} {Ls : List Ln} {k c : Nat} (hk : k < Ls.length) (h : ∀ j, j < k → codeAt (firstN Ls) (Ls.getD j zl) = 0) (hc : codeAt (firstN Ls) (Ls.getD k zl) = c) (hn : c ≠ 0) (hb : Below w.heap.size w w') : WrongTold w Ls (.returned (.tuple #[.int .i64 k, .int .i64 c])) w' := by
  refine ⟨fun hg => absurd (hc.symm.trans (hg k hk)) hn, fun i c' hf => ?_, hb⟩
  obtain ⟨rfl, rfl⟩ := first_one hk h (by rw [hc]; exact hn) hf
  rw [hc]
set_option maxRecDepth 100000 in
set_option maxHeartbeats 3000000 in
theorem rlwrong_any (Z : Zone) (v : Value) (Ls : List Ln) (w : World) (hv : HeldE lineE Z w v Ls) : Calls Tryd.prog 8 #[v] w (WrongTold w Ls) := by
  have hlm := hv.max
  obtain ⟨ao, cap, rfl⟩ := hv.len
  obtain ⟨n, hn⟩ : ∃ n, n = Ls.length := ⟨_, rfl⟩
  have hc := (lines_at hv).2.2
  have hcap := (lines_at hv).2.1
  have HN := Lib.hid hn
  rw [← hn] at hc hcap hlm ⊢
  have HC := Lib.hid hc
  have HFN := Lib.hid (show firstN Ls = (Ls.getD 0 zl).1.length from rfl)
  obtain ⟨n0, hn0⟩ : ∃ n0, n0 = firstN Ls := ⟨_, rfl⟩
  have HN0 := Lib.hid hn0
  clear hc hv hn hn0
  go_enter Tryd.func8, Tryd.ntmps8
  go_wp2
  go_loopw [4] (fun i wr => ∃ k : Nat, k ≤ n ∧ i = .int .i64 k ∧ Go.RowKit.Hid (∀ j, j < k → codeAt (firstN Ls) (Ls.getD j zl) = 0) ∧ Below w.heap.size w wr) (fun i _ => n - (intOf i).toNat)
  case atStart => exact ⟨0, Nat.zero_le _, rfl, Lib.hid (fun j hj => absurd hj (Nat.not_lt_zero _)), Below.refl _ _⟩
  case round =>
    obtain ⟨k, hk, rfl, HOK, hbw⟩ := hrel
    have HBW := Lib.hid hbw
    clear hbw
    by_cases hlt : k < n
    · obtain ⟨b, off, cv, rfl, hb, _, c0, c1, hh⟩ := HC.out k hlt
      obtain ⟨b', off', cv0, e0, hb', _, z0, _, hz⟩ := HC.out 0 (by omega)
      cases e0
      rw [Nat.zero_mul, Nat.add_zero] at z0
      have hcc := code_cases (firstN Ls) (Ls.getD k zl)
      have HKL := Lib.hid (show k < Ls.length by rw [← HN.out]; exact hlt)
      obtain ⟨a0, x0, rfl⟩ := hz.len
      rw [← HFN.out, ← HN0.out] at z0
      have HCC := Lib.hid hcc
      have hxm := hh.max
      have HX := Lib.hid hh
      have HEL := Lib.hid hh.len
      obtain ⟨X, hX⟩ : ∃ X, X = (Ls.getD k zl).1 := ⟨_, rfl⟩
      have hcc2 := HCC.out
      rw [← hX] at HX HEL hxm hcc2
      obtain ⟨a1, x1, rfl⟩ := HEL.out
      have HF := Lib.hid (show ∀ w2, Below w.heap.size w w2 → w2.cell? ⟨b, off + k * 2, none⟩ = some (.slice a1 X.length x1) ∧ w2.cell? ⟨b, off, none⟩ = some (.slice a0 n0 x0) from fun w2 h => ⟨(h.cell (p := ⟨b, off + k * 2, none⟩) hb).trans c0, (h.cell (p := ⟨b, off, none⟩) hb).trans z0⟩)
      obtain ⟨xn, hxn⟩ : ∃ xn, xn = X.length := ⟨_, rfl⟩
      have HXN := Lib.hid hxn
      rw [← hxn] at HF hxm hcc2
      have HS := Lib.hid (show Calls Tryd.prog 21 #[.slice a1 xn x1] wr (Gives wr (.bool (okTo X X.length))) by rw [hxn]; exact rsound_any _ _ _ _ (HX.out.below HBW.out))
      rw [← sound_iff] at HS
      clear hh hz c0 c1 z0 hX HEL hb hb' hcc HCC hxn HX
      obtain ⟨q0, q1⟩ := HF.out wr HBW.out
      rcases hcc2 with ⟨hcd, hbad⟩ | ⟨hx0, hx1, ⟨hcd, hs⟩ | ⟨hs, ⟨hcd, hne⟩ | ⟨hcd, heq⟩⟩⟩
      · have HCD := Lib.hid hcd
        clear hcd
        by_cases hx : xn = 0
        · have hz : ((xn : Int) == 0) = true := by rw [beq_iff_eq]; omega
          clear hbad hx
          go_wp2
          go_ret2
          exact WrongTold.bad HKL.out HOK.out HCD.out (by decide) HBW.out
        · have hz : ((xn : Int) == 0) = false := by rw [beq_eq_false_iff_ne]; omega
          have hd : decide ((1024 : Int) < xn) = true := by rw [decide_eq_true_eq]; omega
          have hdn : decide (1024 < xn) = true := by rw [decide_eq_true_eq]; omega
          clear hbad hx
          go_wp2
          go_ret2
          exact WrongTold.bad HKL.out HOK.out HCD.out (by decide) HBW.out
      · have hz : ((xn : Int) == 0) = false := by rw [beq_eq_false_iff_ne]; omega
        have hd : decide ((1024 : Int) < xn) = false := by rw [decide_eq_false_iff_not]; omega
        have hdn : decide (1024 < xn) = false := by rw [decide_eq_false_iff_not]; omega
        rw [hs] at HS
        have HCD := Lib.hid hcd
        clear hcd hs hx0 hx1
        go_wp2_with fail
        refine HS.out.mono ?_
        rintro e w2 ⟨rfl, b2⟩
        have HB2 := Lib.hid (HBW.out.trans (b2.mono HBW.out.size))
        clear b2
        go_wp2
        go_ret2
        exact WrongTold.bad HKL.out HOK.out HCD.out (by decide) HB2.out
      · have hz : ((xn : Int) == 0) = false := by rw [beq_eq_false_iff_ne]; omega
        have hd : decide ((1024 : Int) < xn) = false := by rw [decide_eq_false_iff_not]; omega
        have hdn : decide (1024 < xn) = false := by rw [decide_eq_false_iff_not]; omega
        have hnn : ((xn : Int) != (n0 : Int)) = true := by rw [← HN0.out] at hne; simp; omega
        rw [hs] at HS
        have HCD := Lib.hid hcd
        clear hcd hs hx0 hx1 hne q0 q1
        obtain ⟨q0, q1⟩ := HF.out wr HBW.out
        go_wp2_with fail
        refine HS.out.mono ?_
        rintro e w2 ⟨rfl, b2⟩
        have HB2 := Lib.hid (HBW.out.trans (b2.mono HBW.out.size))
        clear b2 q0 q1
        obtain ⟨q0, q1⟩ := HF.out w2 HB2.out
        go_wp2
        go_ret2
        exact WrongTold.bad HKL.out HOK.out HCD.out (by decide) HB2.out
      · have hz : ((xn : Int) == 0) = false := by rw [beq_eq_false_iff_ne]; omega
        have hd : decide ((1024 : Int) < xn) = false := by rw [decide_eq_false_iff_not]; omega
        have hdn : decide (1024 < xn) = false := by rw [decide_eq_false_iff_not]; omega
        have hnn : ((xn : Int) != (n0 : Int)) = false := by rw [← HN0.out] at heq; simp; omega
        rw [hs] at HS
        have HOK2 := Lib.hid (show ∀ j, j < k + 1 → codeAt (firstN Ls) (Ls.getD j zl) = 0 from fun j hj => by
          by_cases e : j = k
          · subst e; exact hcd
          · exact HOK.out j (by omega))
        clear hcd hs hx0 hx1 heq
        go_wp2_with fail
        refine HS.out.mono ?_
        rintro e w2 ⟨rfl, b2⟩
        have HB2 := Lib.hid (HBW.out.trans (b2.mono HBW.out.size))
        clear b2 q0 q1
        obtain ⟨q0, q1⟩ := HF.out w2 HB2.out
        go_wp2
        go_roundw
        case rel => exact ⟨k + 1, by omega, by go_num, HOK2, HB2.out⟩
        case measure => simp [intOf] <;> omega
    · obtain rfl : k = n := by omega
      go_wp2
      go_ret2
      have hok := HOK.out
      rw [HN.out] at hok
      exact ⟨fun _ => rfl, fun i c hf => (first_none hok hf).elim, HBW.out⟩
end Go.Proofs.YtgndolgihplngaaDoor
/- linotyperef32.New: what it makes lies behind. -/
namespace Go.Proofs.YtgndolgihplngaaDoor
open Go.RowKit Go.ChangeShapes Go.WideShapes
end Go.Proofs.YtgndolgihplngaaDoor
/- shift: Delete; what does nothing. -/
namespace Go.Proofs.YtgndolgihplngaaDoor
open Go.RowKit Go.ChangeShapes Go.WideShapes
end Go.Proofs.YtgndolgihplngaaDoor
/- fit: made, Resize. -/
namespace Go.Proofs.YtgndolgihplngaaDoor
open Go.RowKit Go.ChangeShapes Go.WideShapes
/-- ErrRange is an error. -/
def RangeErr (w : World) : Prop := ∃ a : Addr, w.cell? ⟨0, 0, none⟩ = some (.iface 180 (.pointer (some a)))
theorem RangeErr.below {w w' : World} (h : RangeErr w) (hb : Below w.heap.size w w') : RangeErr w' := by
  obtain ⟨a, h⟩ := h
  refine ⟨a, (hb.cell (p := ⟨0, 0, none⟩) ?_).trans h⟩
  rcases Nat.lt_or_ge (0 : Nat) w.heap.size with h' | h'
  · exact h'
  · exfalso
    have : w.heap[(0 : Nat)]? = none := Array.getElem?_eq_none h'
    simp [World.cell?, this] at h
set_option maxRecDepth 100000 in
theorem made_ok (Y : Zone) (v : Value) (L : List Cl) (w : World) (hv : HeldE cellE Y w v L) (h0 : 0 < L.length) (h1 : L.length ≤ 1024) (hs : soundB L = true) : Calls Tryd.prog 82 #[v] w (RowMade (fun b => w.heap.size ≤ b) w L false) := by
  have H := Lib.hid (rof_ok _ _ _ _ hv h0 h1 hs)
  obtain ⟨ao, pc, rfl⟩ := hv.len
  clear hv hs
  go_enter Tryd.func82, Tryd.ntmps82
  go_wp2_with fail
  refine H.out.mono ?_
  rintro e w1 ⟨g, gc, rfl, hr, b1⟩
  have HE := Lib.hid (And.intro hr b1)
  clear hr b1
  go_wp2
  go_ret
  exact ⟨g, gc, rfl, HE.out.1, HE.out.2⟩
def rszL (L : List Cl) (n : Nat) : List Cl := if L.length < n then L ++ List.replicate (n - L.length) zc else fixL (L.take n)
theorem rsz_len (L : List Cl) (n : Nat) : (rszL L n).length = n := by
  unfold rszL
  split
  · simp; omega
  · rw [fix_len, List.length_take]; omega
theorem rsz_sound {L : List Cl} (h : soundB L = true) (n : Nat) : soundB (rszL L n) = true := by
  unfold rszL
  split
  · exact sound_app h (blank_soundM _)
  · exact fix_cut h n
theorem part_head {Z : Zone} {w : World} {gq cap : Nat} {L : List Cl} (h : HeldE cellE Z w (.slice (some ⟨gq, 0, none⟩) L.length cap) L) (n : Nat) (hn : n ≤ L.length) : HeldE cellE Z w (.slice (some ⟨gq, 0, none⟩) n cap) (L.take n) := by
  have := part3 h 0 n (Nat.zero_le _) hn
  simpa using this
theorem RowMade.up {Z Y : Zone} {w w1 w' : World} {L : List Cl} {wrap : Bool} {e : Ending} (h : RowMade Z w1 L wrap e w') (b : Below w.heap.size w w1) (hz : ∀ b, w1.heap.size ≤ b → Y b) (hzz : ∀ b, Z b → Y b) : RowMade Y w L wrap e w' := by
  obtain ⟨g, gc, e, hr, hb⟩ := h
  exact ⟨g, gc, e, (hr.keep (.refl _ _) (fun b _ h => hzz b h)).base b.size, b.trans (hb.mono b.size)⟩
set_option maxRecDepth 100000 in
set_option maxHeartbeats 2000000 in
theorem fresize_any (B g gc : Nat) (L : List Cl) (wrap : Bool) (n : Int) (w : World) (h : RowAt (fun _ => True) w B g gc L wrap) : Calls Tryd.prog 45 #[.pointer (some ⟨g, 0, none⟩), .int .i64 n] w (RowMade (fun b => w.heap.size ≤ b) w (rszL L (rowN n)) false) := by
  obtain ⟨hl0, hl1, hs⟩ := h.len
  have HR := Lib.hid h
  have HN := Lib.hid (show 0 < rowN n ∧ rowN n ≤ 1024 from ⟨by unfold rowN; omega, by unfold rowN; omega⟩)
  have hmx : min (max n 1) 1024 = (rowN n : Int) := by unfold rowN; omega
  have HRL := Lib.hid (rsz_len L (rowN n))
  have HRS := Lib.hid (rsz_sound hs (rowN n))
  have HRZ := Lib.hid (show rszL L (rowN n) = if L.length < rowN n then L ++ List.replicate (rowN n - L.length) zc else fixL (L.take (rowN n)) from rfl)
  obtain ⟨N, hN⟩ : ∃ N, N = rowN n := ⟨_, rfl⟩
  rw [← hN] at HN HRL HRS HRZ hmx ⊢
  have hn1 := HN.out.1
  have hn2 := HN.out.2
  clear h hN hs
  by_cases hlt : L.length < N
  · have hd : decide ((L.length : Int) < (N : Int)) = true := by simp; omega
    have hw : IntKind.i64.wrap ((N : Int) - L.length) = (N : Int) - L.length := by rw [IntKind.wrap_i64]; omega
    have HK := Lib.hid (show blankN ((N : Int) - L.length) = N - L.length by unfold blankN; omega)
    have HE := Lib.hid (show rszL L N = L ++ List.replicate (N - L.length) zc by rw [HRZ.out, if_pos hlt])
    go_enter Tryd.func45, Tryd.ntmps45
    go_wp2_with fail
    refine (rcells_any _ B g gc L wrap w HR.out).mono ?_
    rintro e w1 ⟨v1, rfl, ho1, b1⟩
    obtain ⟨gq, cap, rfl, hq1, hq2⟩ := ho1.some hl0
    have HO1 := Lib.hid (ho1.zone (Y := fun b => w.heap.size ≤ b) (fun _ _ h => h))
    have HB := Lib.hid b1
    clear ho1 b1
    go_wp2_with fail
    refine (blanks_any (fun b => w.heap.size ≤ b ∧ (Value.slice (some ⟨gq, 0, none⟩) L.length cap).ownBlock ≠ some b) _ w1).mono ?_
    rintro e w2 ⟨v2, rfl, ho2, b2⟩
    rw [HK.out] at ho2
    have HU := Lib.hid (ho2.held (fun b h _ => ⟨Nat.le_trans HB.out.size h, fun e => by simp [Value.ownBlock] at e; omega⟩))
    replace HB := Lib.hid (HB.out.trans (b2.mono HB.out.size))
    replace HO1 := Lib.hid (HO1.out.below b2)
    clear b2
    obtain ⟨ao2, c2, rfl⟩ := HU.out.len
    rw [List.length_replicate] at HU
    clear ho2 hw
    go_wp2_with (at_builtin; refine wpList_append_e (E := cellE) (Z := fun b => w.heap.size ≤ b) rfl (.tmp 17) (.tmp 22) 54 rfl (.agg #[.int .i64 0, .slice none 0 0]) 32 Tryd.underlying54 info_cell rfl (by decide) rfl rfl HO1.out HU.out (by rw [List.length_replicate]; omega) (by rw [List.length_replicate]; omega) HB.out.size ?_)
    intro v3 w3 ho3 b3 _ _
    rw [← HE.out] at ho3
    have HH3 := Lib.hid (ho3.held (fun _ h _ => h))
    replace HB := Lib.hid (HB.out.trans b3)
    have HM := Lib.hid (made_ok _ _ _ _ HH3.out (by rw [HRL.out]; exact hn1) (by rw [HRL.out]; exact hn2) HRS.out)
    obtain ⟨ao3, c3, rfl⟩ := HH3.out.len
    clear ho3 b3
    go_wp2_with fail
    refine HM.out.mono ?_
    intro e w4 hm
    have hm := hm.up (Y := fun b => w.heap.size ≤ b) HB.out (fun b h => Nat.le_trans HB.out.size h) (fun b h => Nat.le_trans HB.out.size h)
    obtain ⟨g5, gc5, rfl, hr5, b5⟩ := hm
    have HF := Lib.hid (And.intro hr5 b5)
    clear hr5 b5
    go_wp2
    go_ret
    exact ⟨g5, gc5, rfl, HF.out.1, HF.out.2⟩
  · have hd : decide ((L.length : Int) < (N : Int)) = false := by simp; omega
    have hdn : decide (L.length < N) = false := by simp; omega
    have HE := Lib.hid (show rszL L N = fixL (L.take N) by rw [HRZ.out, if_neg hlt])
    obtain ⟨j, hj⟩ : ∃ j, N = j + 1 := ⟨N - 1, by omega⟩
    have hj1 : (N : Int) - 1 = j := by omega
    have hjw : IntKind.i64.wrap (j : Int) = (j : Int) := by rw [IntKind.wrap_i64]; omega
    have hjN : j < N := by omega
    have hjL : j < L.length := by omega
    have HJ := Lib.hid hj
    have HTN := Lib.hid (show (L.take N).length = N by rw [List.length_take]; omega)
    have HTK := Lib.hid (show (L.take N).getD j zc = L.getD j zc by rw [getD_take, if_pos hjN])
    clear hj
    go_enter Tryd.func45, Tryd.ntmps45
    go_wp2_with fail
    refine (rcells_any _ B g gc L wrap w HR.out).mono ?_
    rintro e w1 ⟨v1, rfl, ho1, b1⟩
    obtain ⟨gq, cap, rfl, hq1, hq2⟩ := ho1.some hl0
    have HO1 := Lib.hid ho1
    have HB := Lib.hid b1
    have HQ := Lib.hid (And.intro hq1 hq2)
    have hcap : L.length ≤ cap := by obtain ⟨_, hn, _⟩ := (ho1.held (Z := fun b => w.heap.size ≤ b) (fun _ h _ => h)).spots; exact hn
    have hNc : (N : Int) ≤ (cap : Int) := by omega
    have hNc2 : N ≤ cap := by omega
    have ck := ownE_kind ho1 hjL
    clear ho1 b1 hq1 hq2
    by_cases hk : (L.getD j zc).1 = 2
    · have HF := Lib.hid (show fixL (L.take N) = (L.set j zc).take N by
        unfold fixL
        rw [HTN.out, show N - 1 = j by have := HJ.out; omega, HTK.out, if_pos hk, List.take_set])
      rw [hk] at ck
      go_wp2_with (refine wpList_put_e (E := cellE) (Y := fun b => w.heap.size ≤ b) (i := j) rfl 73 (.tmp 39) (.tmp 38) rfl rfl rfl [.int .i64 0, .slice none 0 0] rfl (by kernel_rfl) HO1.out.each hjL zc (zero_rep _ _) ?_)
      intro w6 hw6 hu6
      have ho6 : OwnE cellE (fun b => w.heap.size ≤ b) w6 w.heap.size 73 (.slice (some ⟨gq, 0, none⟩) L.length cap) (L.set j zc) := hw6
      have hh6 := ho6.held (Z := fun b => w.heap.size ≤ b) (fun b h _ => h)
      have hh7 := part_head (L := L.set j zc) (by rw [List.length_set]; exact hh6) N (by rw [List.length_set]; omega)
      rw [← HF.out, ← HE.out] at hh7
      have b6 := HB.out.upd hu6 HB.out.size (fun x e => by have := HQ.out.1; omega)
      have HM := Lib.hid (made_ok _ _ _ _ hh7 (by rw [HRL.out]; exact hn1) (by rw [HRL.out]; exact hn2) HRS.out)
      have HB6 := Lib.hid b6
      clear hw6 hu6 ho6 hh6 hh7 b6 ck hk
      go_wp2_with fail
      refine HM.out.mono ?_
      intro e w7 hm
      have hm := hm.up (Y := fun b => w.heap.size ≤ b) HB6.out (fun b h => Nat.le_trans HB6.out.size h) (fun b h => Nat.le_trans HB6.out.size h)
      obtain ⟨g5, gc5, rfl, hr5, b5⟩ := hm
      have HFF := Lib.hid (And.intro hr5 b5)
      clear hr5 b5
      go_wp2
      go_ret
      exact ⟨g5, gc5, rfl, HFF.out.1, HFF.out.2⟩
    · have HF := Lib.hid (show fixL (L.take N) = L.take N by
        unfold fixL
        rw [HTN.out, show N - 1 = j by have := HJ.out; omega, HTK.out, if_neg hk])
      obtain ⟨K, hK⟩ : ∃ K, K = (L.getD j zc).1 := ⟨_, rfl⟩
      rw [← hK] at ck hk
      have hkb : (K == 2) = false := by rw [beq_eq_false_iff_ne]; exact hk
      have hh6 := HO1.out.held (Z := fun b => w.heap.size ≤ b) (fun b h _ => h)
      have hh7 := part_head hh6 N (by omega)
      rw [← HF.out, ← HE.out] at hh7
      have HM := Lib.hid (made_ok _ _ _ _ hh7 (by rw [HRL.out]; exact hn1) (by rw [HRL.out]; exact hn2) HRS.out)
      clear hh6 hh7 hk hK
      go_wp2_with fail
      refine HM.out.mono ?_
      intro e w7 hm
      have hm := hm.up (Y := fun b => w.heap.size ≤ b) HB.out (fun b h => Nat.le_trans HB.out.size h) (fun b h => Nat.le_trans HB.out.size h)
      obtain ⟨g5, gc5, rfl, hr5, b5⟩ := hm
      have HFF := Lib.hid (And.intro hr5 b5)
      clear hr5 b5
      go_wp2
      go_ret
      exact ⟨g5, gc5, rfl, HFF.out.1, HFF.out.2⟩
end Go.Proofs.YtgndolgihplngaaDoor
/- fit: Split, Join. -/
namespace Go.Proofs.YtgndolgihplngaaDoor
open Go.RowKit Go.ChangeShapes Go.WideShapes
def catL (Ls : List (Option (List Cl))) (k : Nat) : List Cl := flatG (Ls.map fun x => x.getD []) k
def JoinGood (Ls : List (Option (List Cl))) : Prop := (∀ j, j < Ls.length → Ls.getD j none ≠ none) ∧ 0 < (catL Ls Ls.length).length ∧ (catL Ls Ls.length).length ≤ 1024
def Joined (w : World) (Ls : List (Option (List Cl))) (e : Ending) (w' : World) : Prop := (JoinGood Ls → RowMade (fun b => w.heap.size ≤ b) w (catL Ls Ls.length) false e w') ∧ (¬ JoinGood Ls → e = .returned (.pointer none) ∧ Below w.heap.size w w')
end Go.Proofs.YtgndolgihplngaaDoor
/- The reference's Resize and Split (28). -/
namespace Go.Proofs.YtgndolgihplngaaDoor
open Go.RowKit Go.ChangeShapes Go.WideShapes
theorem rsz_at (L : List Cl) (n : Nat) (i : Nat) (hi : i < n) : (rszL L n).getD i zc = if i + 1 = n ∧ (L.getD i zc).1 = 2 ∧ n ≤ L.length then zc else L.getD i zc := by
  unfold rszL
  by_cases h : L.length < n
  · rw [if_pos h, if_neg (by omega), getD_app, getD_repl]
    by_cases h2 : i < L.length
    · rw [if_pos h2]
    · rw [if_neg h2, getD_ge L zc i (by omega)]
  · have hl : (L.take n).length = n := by rw [List.length_take]; omega
    rw [if_neg h, fix_at, getD_take, if_pos hi, hl]
    by_cases h2 : i + 1 = n ∧ (L.getD i zc).1 = 2
    · rw [if_pos h2, if_pos ⟨h2.1, h2.2, by omega⟩]
    · rw [if_neg h2, if_neg (fun h' => h2 ⟨h'.1, h'.2.1⟩)]
/-- The first cells are there. -/
def RszTo (L : List Cl) (N k : Nat) (X : List Cl) : Prop := X.length = N ∧ ∀ i, i < N → X.getD i zc = if i < k then (if i + 1 = N ∧ (L.getD i zc).1 = 2 then zc else L.getD i zc) else zc
set_option maxRecDepth 100000 in
set_option maxHeartbeats 3000000 in
theorem rresize_any (Z : Zone) (v : Value) (L : List Cl) (n : Int) (w : World) (hZ : ∀ b, w.heap.size ≤ b → Z b) (hv : HeldE cellE Z w v L) (hs : soundB L = true) : Calls Tryd.prog 48 #[v, .int .i64 n] w (MadeE cellE Z 73 w (rszL L (rowN n))) := by
  have hvm := hv.max
  have hv := hv.zone (Y := fun b => Z b ∧ b < w.heap.size) (fun b hb hz => ⟨hz, hb⟩)
  obtain ⟨ao, ca, rfl⟩ := hv.len
  obtain ⟨_, _, hcells⟩ := cells_at hv
  have HC := Lib.hid hcells
  have HZ := Lib.hid hZ
  have HSND := Lib.hid ((sound_prop L).1 hs)
  have hmx : max 1 (min n 1024) = (rowN n : Int) := by unfold rowN; omega
  have hn1 : 0 < rowN n := by unfold rowN; omega
  have hn2 : rowN n ≤ 1024 := by unfold rowN; omega
  have HRL := Lib.hid (rsz_len L (rowN n))
  have HAT := Lib.hid (rsz_at L (rowN n))
  obtain ⟨R2, hR2⟩ : ∃ R2, R2 = rszL L (rowN n) := ⟨_, rfl⟩
  have HR3 := Lib.hid hR2
  rw [← hR2] at HRL HAT
  obtain ⟨N, hN⟩ : ∃ N, N = rowN n := ⟨_, rfl⟩
  have HNN := Lib.hid hN
  rw [← hN] at hmx hn1 hn2 HRL HAT
  obtain ⟨i0, hi, hz0, hz1, hz2⟩ := info_parts info_cell
  have HI := Lib.hid (And.intro hi (And.intro hz0 (And.intro hz1 hz2)))
  clear hcells hv hZ hs hN hR2 hi hz0 hz1 hz2
  go_enter Tryd.func48, Tryd.ntmps48
  go_wp2_with (at_make; refine wpList_make_full w rfl (.tmp 10) (.tmp 10) 54 rfl w.heap.size 73 i0 (.agg #[.int .i64 0, .slice none 0 0]) 2 Tryd.underlying54 HI.out.1 HI.out.2.1 HI.out.2.2.1 .i64 .i64 _ _ N rfl rfl rfl rfl (by rw [HI.out.2.2.2]; omega) (by unfold maxLen; omega) (Nat.le_refl _) ?_)
  intro w3 hown3 hg3
  have b3 : Below w.heap.size w w3 := (Below.refl _ _).grown hg3 (Nat.le_refl _) (by intro k hk; cases hk)
  have ho3 := blank_own (Z := Z) hown3
  obtain ⟨go, hgo⟩ : ∃ go, go = w.heap.size := ⟨_, rfl⟩
  have HGO := Lib.hid hgo
  rw [← hgo] at ho3 ⊢
  have HO3 := Lib.hid ho3
  have HB3 := Lib.hid b3
  have HZG := Lib.hid (show ∀ b, Z b ∧ b < w.heap.size → Z b ∧ b ≠ go from fun b h => ⟨h.1, by have := HGO.out; omega⟩)
  clear hown3 hg3 b3 ho3 hgo
  go_wp2
  clear hmx
  go_loopw [6] (fun i wr => ∃ (k : Nat) (X : List Cl), k ≤ N ∧ i = .int .i64 k ∧ OwnE cellE Z wr go 73 (.slice (some ⟨go, 0, none⟩) N N) X ∧ Go.RowKit.Hid (RszTo L N k X) ∧ Below w.heap.size w wr) (fun i _ => N - (intOf i).toNat)
  case atStart =>
    refine ⟨0, List.replicate N zc, Nat.zero_le _, rfl, HO3.out, Lib.hid ⟨by simp, fun i hi => ?_⟩, HB3.out⟩
    rw [if_neg (Nat.not_lt_zero _), getD_repl]
  case round =>
    obtain ⟨k, X, hk, rfl, hown, HX, hbw⟩ := hrel
    have HOW := Lib.hid hown
    have HBW := Lib.hid hbw
    clear hown hbw
    by_cases hkN : k < N
    · have hdN : decide ((k : Int) < (N : Int)) = true := by simp; omega
      by_cases hlt : k < L.length
      · have hdL : decide ((k : Int) < (L.length : Int)) = true := by simp; omega
        obtain ⟨b, off, tv, rfl, hb, _, c0, c1, hh⟩ := HC.out k hlt
        have c0 := (HBW.out.cell (p := ⟨b, off + k * 2, none⟩) hb).trans c0
        have c1 := (HBW.out.cell (p := ⟨b, off + k * 2 + 1, none⟩) hb).trans c1
        have hb1 : b < wr.heap.size := Nat.lt_of_lt_of_le hb HBW.out.size
        have hx := HX.out
        obtain ⟨hx1, hx2⟩ := hx
        have HXL := Lib.hid (show k < X.length by rw [hx1]; exact hkN)
        obtain ⟨⟨K, T⟩, hKT⟩ : ∃ y, y = L.getD k zc := ⟨_, rfl⟩
        rw [← hKT] at c0 hh
        simp only at c0 hh
        have hxl := HXL.out
        have hw2 : IntKind.i64.wrap ((k : Int) + 1) = (k : Int) + 1 := by rw [IntKind.wrap_i64]; omega
        have HSTORE := Lib.hid (show (k + 1 < N ∨ K ≠ 2) → RszTo L N (k + 1) (X.set k (K, T)) from fun h => by
          refine ⟨by rw [List.length_set]; exact hx1, fun i hi => ?_⟩
          rw [getD_set, hx2 i hi]
          by_cases hik : k = i
          · subst hik
            rw [if_pos ⟨rfl, hxl⟩, if_pos (Nat.lt_succ_self _), ← hKT, if_neg (by rintro ⟨h1, h2⟩; rcases h with h | h; omega; exact h h2)]
          · rw [if_neg (fun h' => hik h'.1)]
            by_cases hi2 : i < k
            · rw [if_pos hi2, if_pos (show i < k + 1 by omega)]
            · rw [if_neg hi2, if_neg (show ¬ i < k + 1 by omega)])
        have HSKIP := Lib.hid (show k + 1 = N → K = 2 → RszTo L N (k + 1) X from fun h1 h2 => by
          refine ⟨hx1, fun i hi => ?_⟩
          rw [hx2 i hi]
          by_cases hik : i = k
          · subst hik
            rw [if_neg (Nat.lt_irrefl _), if_pos (Nat.lt_succ_self _), if_pos ⟨h1, by rw [← hKT]; exact h2⟩]
          · by_cases hi2 : i < k
            · rw [if_pos hi2, if_pos (show i < k + 1 by omega)]
            · rw [if_neg hi2, if_neg (show ¬ i < k + 1 by omega)])
        have HHL := Lib.hid ((hh.below HBW.out).zone (Y := fun b => Z b ∧ b ≠ go) (fun b _ h => HZG.out b h))
        obtain ⟨ta, tc, rfl⟩ := hh.len
        clear hh hKT hx1 hx2
        by_cases hA : k + 1 < N
        · have hdA : decide ((k : Int) + 1 < (N : Int)) = true := by simp; omega
          have HX2 := Lib.hid (HSTORE.out (.inl hA))
          clear hA
          go_wp2_with (refine wpList_put_e (E := cellE) (Y := Z) (i := k) rfl 73 (.tmp 41) (.tmp 40) rfl rfl rfl [.int .i64 K, .slice ta T.length tc] rfl (by kernel_rfl) HOW.out.each hxl (K, T) (cell_rep.2 ⟨_, rfl, HHL.out⟩) ?_)
          intro w4 hw4 hu4
          have H4 := Lib.hid (show OwnE cellE Z w4 go 73 (.slice (some ⟨go, 0, none⟩) N N) (X.set k (K, T)) from hw4)
          have HB4 := Lib.hid (HBW.out.upd hu4 HBW.out.size (fun x e => by have := HGO.out; omega))
          clear hw4 hu4
          go_wp2
          go_roundw
          case rel => exact ⟨k + 1, _, by omega, by go_num, H4.out, HX2, HB4.out⟩
          case measure => simp [intOf] <;> omega
        · have hdA : decide ((k : Int) + 1 < (N : Int)) = false := by simp; omega
          have hdAn : decide (k + 1 < N) = false := by simp; omega
          by_cases hK : K = 2
          · have HX2 := Lib.hid (HSKIP.out (by omega) hK)
            subst hK
            clear hA
            go_wp2
            go_roundw
            case rel => exact ⟨k + 1, _, by omega, by go_num, HOW.out, HX2, HBW.out⟩
            case measure => simp [intOf] <;> omega
          · have hkb : (K != 2) = true := by simp [hK]
            have hkb2 : (K == 2) = false := by simp [hK]
            have HX2 := Lib.hid (HSTORE.out (.inr hK))
            clear hA hK
            go_wp2_with (refine wpList_put_e (E := cellE) (Y := Z) (i := k) rfl 73 (.tmp 41) (.tmp 40) rfl rfl rfl [.int .i64 K, .slice ta T.length tc] rfl (by kernel_rfl) HOW.out.each hxl (K, T) (cell_rep.2 ⟨_, rfl, HHL.out⟩) ?_)
            intro w4 hw4 hu4
            have H4 := Lib.hid (show OwnE cellE Z w4 go 73 (.slice (some ⟨go, 0, none⟩) N N) (X.set k (K, T)) from hw4)
            have HB4 := Lib.hid (HBW.out.upd hu4 HBW.out.size (fun x e => by have := HGO.out; omega))
            clear hw4 hu4
            go_wp2
            go_roundw
            case rel => exact ⟨k + 1, _, by omega, by go_num, H4.out, HX2, HB4.out⟩
            case measure => simp [intOf] <;> omega
      · have hdL : decide ((k : Int) < (L.length : Int)) = false := by simp; omega
        have hdLn : decide (k < L.length) = false := by simp; omega
        have HE := Lib.hid (show X = R2 from by
          obtain ⟨hx1, hx2⟩ := HX.out
          refine ext_getD zc (by rw [hx1, HRL.out]) (fun i hi => ?_)
          rw [hx1] at hi
          rw [hx2 i hi, HAT.out i hi]
          by_cases h2 : i < L.length
          · rw [if_pos (by omega), if_neg (by omega), if_neg (by omega)]
          · rw [if_neg (c := i + 1 = N ∧ _ ∧ _) (by omega), getD_ge L zc i (by omega)]
            split
            · split <;> rfl
            · rfl)
        have hf : OwnE cellE Z wr w.heap.size 73 (.slice (some ⟨go, 0, none⟩) N N) R2 := by
          have := HOW.out
          rw [HE.out, HGO.out] at this
          rw [HGO.out]
          exact this
        have HF := Lib.hid hf
        clear hf
        go_wp2
        go_ret
        exact ⟨_, rfl, by rw [← HR3.out]; exact HF.out, HBW.out⟩
    · obtain rfl : k = N := by omega
      have HE := Lib.hid (show X = R2 from by
        obtain ⟨hx1, hx2⟩ := HX.out
        refine ext_getD zc (by rw [hx1, HRL.out]) (fun i hi => ?_)
        rw [hx1] at hi
        rw [hx2 i hi, HAT.out i hi, if_pos hi]
        by_cases h2 : i + 1 = k ∧ (L.getD i zc).1 = 2
        · have hil : i < L.length := by
            rcases Nat.lt_or_ge i L.length with h | h
            · exact h
            · rw [getD_ge L zc i h] at h2; exact absurd h2.2 (by decide)
          have h3 := (HSND.out i hil).2.1 h2.2
          have h4 : i + 1 < L.length := by
            rcases Nat.lt_or_ge (i + 1) L.length with h | h
            · exact h
            · rw [getD_ge L zc _ h] at h3; exact absurd h3 (by decide)
          rw [if_pos h2, if_pos ⟨h2.1, h2.2, by omega⟩]
        · rw [if_neg h2, if_neg (fun h' => h2 ⟨h'.1, h'.2.1⟩)])
      have hf : OwnE cellE Z wr w.heap.size 73 (.slice (some ⟨go, 0, none⟩) k k) R2 := by
        have := HOW.out
        rw [HE.out, HGO.out] at this
        rw [HGO.out]
        exact this
      have HF := Lib.hid hf
      clear hf
      go_wp2
      go_ret
      exact ⟨_, rfl, by rw [← HR3.out]; exact HF.out, HBW.out⟩
end Go.Proofs.YtgndolgihplngaaDoor
