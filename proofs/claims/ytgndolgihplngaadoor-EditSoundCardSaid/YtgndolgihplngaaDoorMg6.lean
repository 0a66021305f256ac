/- Texts put together: GrdW, GrdZ, ShfD. -/
import Derived.Test.YtgndolgihplngaaDoorGrdR
import Derived.Test.YtgndolgihplngaaDoorCellS
import Derived.Test.YtgndolgihplngaaDoorShfC
/- Which line is wrong (32): the reference's Wrong. -/
namespace Go.Proofs.YtgndolgihplngaaDoor
open Go.RowKit Go.ChangeShapes Go.WideShapes
def codeAt (n0 : Nat) (l : Ln) : Nat := if l.1.length = 0 ∨ 1024 < l.1.length then 3 else if soundB l.1 = false then 5 else if l.1.length ≠ n0 then 3 else 0
def firstN (Ls : List Ln) : Nat := (Ls.getD 0 zl).1.length
def AllGood (Ls : List Ln) : Prop := ∀ k, k < Ls.length → codeAt (firstN Ls) (Ls.getD k zl) = 0
def FirstBad (Ls : List Ln) (i c : Nat) : Prop := i < Ls.length ∧ (∀ j, j < i → codeAt (firstN Ls) (Ls.getD j zl) = 0) ∧ codeAt (firstN Ls) (Ls.getD i zl) = c ∧ c ≠ 0
theorem wrong_cases (Ls : List Ln) : AllGood Ls ∨ ∃ i c, FirstBad Ls i c := by
  have h : ∀ n, n ≤ Ls.length → (∀ j, j < n → codeAt (firstN Ls) (Ls.getD j zl) = 0) ∨ ∃ i c, FirstBad Ls i c := by
    intro n
    induction n with
    | zero => intro _; exact .inl fun j hj => absurd hj (Nat.not_lt_zero _)
    | succ n ih =>
      intro hn
      rcases ih (by omega) with h | h
      · by_cases e : codeAt (firstN Ls) (Ls.getD n zl) = 0
        · refine .inl fun j hj => ?_
          by_cases ej : j = n
          · subst ej; exact e
          · exact h j (by omega)
        · exact .inr ⟨n, _, by omega, h, rfl, e⟩
      · exact .inr h
  exact h Ls.length (Nat.le_refl _)
theorem first_one {Ls : List Ln} {k i c : Nat} (hk : k < Ls.length) (h : ∀ j, j < k → codeAt (firstN Ls) (Ls.getD j zl) = 0) (hn : codeAt (firstN Ls) (Ls.getD k zl) ≠ 0) (hb : FirstBad Ls i c) : i = k ∧ c = codeAt (firstN Ls) (Ls.getD k zl) := by
  obtain ⟨h1, h2, h3, h4⟩ := hb
  rcases Nat.lt_trichotomy i k with hl | rfl | hl
  · exact absurd (h3.symm.trans (h i hl)) h4
  · exact ⟨rfl, h3.symm⟩
  · exact absurd (h2 k hl) hn
theorem first_none {Ls : List Ln} {i c : Nat} (h : ∀ j, j < Ls.length → codeAt (firstN Ls) (Ls.getD j zl) = 0) (hb : FirstBad Ls i c) : False := hb.2.2.2 (hb.2.2.1.symm.trans (h i hb.1))
theorem code_cases (n0 : Nat) (l : Ln) : (codeAt n0 l = 3 ∧ (l.1.length = 0 ∨ 1024 < l.1.length)) ∨ (0 < l.1.length ∧ l.1.length ≤ 1024 ∧ ((codeAt n0 l = 5 ∧ soundB l.1 = false) ∨ (soundB l.1 = true ∧ ((codeAt n0 l = 3 ∧ l.1.length ≠ n0) ∨ (codeAt n0 l = 0 ∧ l.1.length = n0))))) := by
  unfold codeAt
  by_cases h1 : l.1.length = 0 ∨ 1024 < l.1.length
  · exact .inl ⟨if_pos h1, h1⟩
  · refine .inr ⟨by omega, by omega, ?_⟩
    rw [if_neg h1]
    cases hs : soundB l.1 with
    | false => exact .inl ⟨if_pos rfl, rfl⟩
    | true =>
      refine .inr ⟨rfl, ?_⟩
      rw [if_neg (by decide)]
      by_cases h2 : l.1.length = n0
      · exact .inr ⟨if_neg (fun e => e h2), h2⟩
      · exact .inl ⟨if_pos h2, h2⟩
def WrongTold (w : World) (Ls : List Ln) (e : Ending) (w' : World) : Prop := (AllGood Ls → e = .returned (.tuple #[.int .i64 (-1), .int .i64 0])) ∧ (∀ i c : Nat, FirstBad Ls i c → e = .returned (.tuple #[.int .i64 i, .int .i64 c])) ∧ Below w.heap.size w w'
theorem WrongTold.bad {w w' : World} {Ls : List Ln} {k c : Nat} (hk : k < Ls.length) (h : ∀ j, j < k → codeAt (firstN Ls) (Ls.getD j zl) = 0) (hc : codeAt (firstN Ls) (Ls.getD k zl) = c) (hn : c ≠ 0) (hb : Below w.heap.size w w') : WrongTold w Ls (.returned (.tuple #[.int .i64 k, .int .i64 c])) w' := by
  refine ⟨fun hg => absurd (hc.symm.trans (hg k hk)) hn, fun i c' hf => ?_, hb⟩
  obtain ⟨rfl, rfl⟩ := first_one hk h (by rw [hc]; exact hn) hf
  rw [hc]
set_option maxRecDepth 100000 in
set_option maxHeartbeats 3000000 in
theorem rlwrong_any (Z : Zone) (v : Value) (Ls : List Ln) (w : World) (hv : HeldE lineE Z w v Ls) : Calls Tryd.prog 8 #[v] w (WrongTold w Ls) := by
  have hlm := hv.max
  obtain ⟨ao, cap, rfl⟩ := hv.len
  obtain ⟨n, hn⟩ : ∃ n, n = Ls.length := ⟨_, rfl⟩
  have hc := (lines_at hv).2.2
  have hcap := (lines_at hv).2.1
  have HN := Lib.hid hn
  rw [← hn] at hc hcap hlm ⊢
  have HC := Lib.hid hc
  have HFN := Lib.hid (show firstN Ls = (Ls.getD 0 zl).1.length from rfl)
  obtain ⟨n0, hn0⟩ : ∃ n0, n0 = firstN Ls := ⟨_, rfl⟩
  have HN0 := Lib.hid hn0
  clear hc hv hn hn0
  go_enter Tryd.func8, Tryd.ntmps8
  go_wp2
  go_loopw [4] (fun i wr => ∃ k : Nat, k ≤ n ∧ i = .int .i64 k ∧ Go.RowKit.Hid (∀ j, j < k → codeAt (firstN Ls) (Ls.getD j zl) = 0) ∧ Below w.heap.size w wr) (fun i _ => n - (intOf i).toNat)
  case atStart => exact ⟨0, Nat.zero_le _, rfl, Lib.hid (fun j hj => absurd hj (Nat.not_lt_zero _)), Below.refl _ _⟩
  case round =>
    obtain ⟨k, hk, rfl, HOK, hbw⟩ := hrel
    have HBW := Lib.hid hbw
    clear hbw
    by_cases hlt : k < n
    · obtain ⟨b, off, cv, rfl, hb, _, c0, c1, hh⟩ := HC.out k hlt
      obtain ⟨b', off', cv0, e0, hb', _, z0, _, hz⟩ := HC.out 0 (by omega)
      cases e0
      rw [Nat.zero_mul, Nat.add_zero] at z0
      have hcc := code_cases (firstN Ls) (Ls.getD k zl)
      have HKL := Lib.hid (show k < Ls.length by rw [← HN.out]; exact hlt)
      obtain ⟨a0, x0, rfl⟩ := hz.len
      rw [← HFN.out, ← HN0.out] at z0
      have HCC := Lib.hid hcc
      have hxm := hh.max
      have HX := Lib.hid hh
      have HEL := Lib.hid hh.len
      obtain ⟨X, hX⟩ : ∃ X, X = (Ls.getD k zl).1 := ⟨_, rfl⟩
      have hcc2 := HCC.out
      rw [← hX] at HX HEL hxm hcc2
      obtain ⟨a1, x1, rfl⟩ := HEL.out
      have HF := Lib.hid (show ∀ w2, Below w.heap.size w w2 → w2.cell? ⟨b, off + k * 2, none⟩ = some (.slice a1 X.length x1) ∧ w2.cell? ⟨b, off, none⟩ = some (.slice a0 n0 x0) from fun w2 h => ⟨(h.cell (p := ⟨b, off + k * 2, none⟩) hb).trans c0, (h.cell (p := ⟨b, off, none⟩) hb).trans z0⟩)
      obtain ⟨xn, hxn⟩ : ∃ xn, xn = X.length := ⟨_, rfl⟩
      have HXN := Lib.hid hxn
      rw [← hxn] at HF hxm hcc2
      have HS := Lib.hid (show Calls Tryd.prog 21 #[.slice a1 xn x1] wr (Gives wr (.bool (okTo X X.length))) by rw [hxn]; exact rsound_any _ _ _ _ (HX.out.below HBW.out))
      rw [← sound_iff] at HS
      clear hh hz c0 c1 z0 hX HEL hb hb' hcc HCC hxn HX
      obtain ⟨q0, q1⟩ := HF.out wr HBW.out
      rcases hcc2 with ⟨hcd, hbad⟩ | ⟨hx0, hx1, ⟨hcd, hs⟩ | ⟨hs, ⟨hcd, hne⟩ | ⟨hcd, heq⟩⟩⟩
      · have HCD := Lib.hid hcd
        clear hcd
        by_cases hx : xn = 0
        · have hz : ((xn : Int) == 0) = true := by rw [beq_iff_eq]; omega
          clear hbad hx
          go_wp2
          go_ret2
          exact WrongTold.bad HKL.out HOK.out HCD.out (by decide) HBW.out
        · have hz : ((xn : Int) == 0) = false := by rw [beq_eq_false_iff_ne]; omega
          have hd : decide ((1024 : Int) < xn) = true := by rw [decide_eq_true_eq]; omega
          have hdn : decide (1024 < xn) = true := by rw [decide_eq_true_eq]; omega
          clear hbad hx
          go_wp2
          go_ret2
          exact WrongTold.bad HKL.out HOK.out HCD.out (by decide) HBW.out
      · have hz : ((xn : Int) == 0) = false := by rw [beq_eq_false_iff_ne]; omega
        have hd : decide ((1024 : Int) < xn) = false := by rw [decide_eq_false_iff_not]; omega
        have hdn : decide (1024 < xn) = false := by rw [decide_eq_false_iff_not]; omega
        rw [hs] at HS
        have HCD := Lib.hid hcd
        clear hcd hs hx0 hx1
        go_wp2_with fail
        refine HS.out.mono ?_
        rintro e w2 ⟨rfl, b2⟩
        have HB2 := Lib.hid (HBW.out.trans (b2.mono HBW.out.size))
        clear b2
        go_wp2
        go_ret2
        exact WrongTold.bad HKL.out HOK.out HCD.out (by decide) HB2.out
      · have hz : ((xn : Int) == 0) = false := by rw [beq_eq_false_iff_ne]; omega
        have hd : decide ((1024 : Int) < xn) = false := by rw [decide_eq_false_iff_not]; omega
        have hdn : decide (1024 < xn) = false := by rw [decide_eq_false_iff_not]; omega
        have hnn : ((xn : Int) != (n0 : Int)) = true := by rw [← HN0.out] at hne; simp; omega
        rw [hs] at HS
        have HCD := Lib.hid hcd
        clear hcd hs hx0 hx1 hne q0 q1
        obtain ⟨q0, q1⟩ := HF.out wr HBW.out
        go_wp2_with fail
        refine HS.out.mono ?_
        rintro e w2 ⟨rfl, b2⟩
        have HB2 := Lib.hid (HBW.out.trans (b2.mono HBW.out.size))
        clear b2 q0 q1
        obtain ⟨q0, q1⟩ := HF.out w2 HB2.out
        go_wp2
        go_ret2
        exact WrongTold.bad HKL.out HOK.out HCD.out (by decide) HB2.out
      · have hz : ((xn : Int) == 0) = false := by rw [beq_eq_false_iff_ne]; omega
        have hd : decide ((1024 : Int) < xn) = false := by rw [decide_eq_false_iff_not]; omega
        have hdn : decide (1024 < xn) = false := by rw [decide_eq_false_iff_not]; omega
        have hnn : ((xn : Int) != (n0 : Int)) = false := by rw [← HN0.out] at heq; simp; omega
        rw [hs] at HS
        have HOK2 := Lib.hid (show ∀ j, j < k + 1 → codeAt (firstN Ls) (Ls.getD j zl) = 0 from fun j hj => by
          by_cases e : j = k
          · subst e; exact hcd
          · exact HOK.out j (by omega))
        clear hcd hs hx0 hx1 heq
        go_wp2_with fail
        refine HS.out.mono ?_
        rintro e w2 ⟨rfl, b2⟩
        have HB2 := Lib.hid (HBW.out.trans (b2.mono HBW.out.size))
        clear b2 q0 q1
        obtain ⟨q0, q1⟩ := HF.out w2 HB2.out
        go_wp2
        go_roundw
        case rel => exact ⟨k + 1, by omega, by go_num, HOK2, HB2.out⟩
        case measure => simp [intOf] <;> omega
    · obtain rfl : k = n := by omega
      go_wp2
      go_ret2
      have hok := HOK.out
      rw [HN.out] at hok
      exact ⟨fun _ => rfl, fun i c hf => (first_none hok hf).elim, HBW.out⟩
end Go.Proofs.YtgndolgihplngaaDoor
/- linotyperef32.New: what it makes lies behind. -/
namespace Go.Proofs.YtgndolgihplngaaDoor
open Go.RowKit Go.ChangeShapes Go.WideShapes
end Go.Proofs.YtgndolgihplngaaDoor
/- shift: Delete; what does nothing. -/
namespace Go.Proofs.YtgndolgihplngaaDoor
open Go.RowKit Go.ChangeShapes Go.WideShapes
set_option maxRecDepth 100000 in
set_option maxHeartbeats 3000000 in
theorem sdel_goodz (Z : Zone) (B g gc : Nat) (L : List Cl) (wrap : Bool) (c m : Nat) (n : Int) (w : World) (hZ : ∀ b, w.heap.size ≤ b → Z b) (h : RowAt Z w B g gc L wrap) (hc : c < L.length) (hn : 1 ≤ n) (hm : min n ((L.length : Int) - c) = m) : Calls Tryd.prog 93 #[.pointer (some ⟨g, 0, none⟩), .int .i64 c, .int .i64 n] w (RowTurned Z w B g gc (delL L c m) false) := by
  obtain ⟨hl0, hl1, hs⟩ := h.len
  have hlt := h.lt
  have hcm : c + m ≤ L.length := by omega
  have HR := Lib.hid h
  have HGL := Lib.hid hlt
  have HD := Lib.hid (sheld_good _ B g gc L wrap c n w h hc hn m hm)
  have HS := Lib.hid hs
  have HS2 := Lib.hid (tear_sound hs c)
  have HIS := Lib.hid (del_sound hs c m)
  have HIL := Lib.hid (del_len hcm)
  have HTL1 := Lib.hid (tear_len L c)
  have HTL := Lib.hid (show (tearL (tearL L c) (c + m)).length = L.length by rw [tear_len, tear_len])
  obtain ⟨D, hD⟩ : ∃ D : Nat, c + m = D := ⟨_, rfl⟩
  have hDl : D ≤ L.length := by omega
  have hDi : (c : Int) + (m : Int) = (D : Int) := by omega
  have hDw : IntKind.i64.wrap (D : Int) = (D : Int) := by rw [IntKind.wrap_i64]; omega
  have HDD := Lib.hid hD
  have hm0 : m ≤ 1024 := by omega
  have HCD := Lib.hid (show c ≤ D by omega)
  clear h hlt hn hm hs hcm
  go_enter Tryd.func93, Tryd.ntmps93
  go_wp2_with fail
  refine HD.out.mono ?_
  rintro e w1 ⟨rfl, rfl⟩
  go_wp2_with fail
  refine (rcells_any _ B g gc L wrap w HR.out).mono ?_
  rintro e w1 ⟨v1, rfl, ho1, b1⟩
  obtain ⟨gq, cap, rfl, hq1, hq2⟩ := ho1.some hl0
  have HQ := Lib.hid (And.intro hq1 hq2)
  have HT := Lib.hid (stear_any _ _ gq cap L c w1 ho1 HS.out hl1)
  have HB1 := Lib.hid b1
  clear ho1 b1 hq1 hq2
  go_wp2_with fail
  refine HT.out.mono ?_
  rintro e w2 ⟨rfl, ho2, u2⟩
  have HB2 := Lib.hid (HB1.out.trans (u2.below (B := w.heap.size) (Nat.le_trans HB1.out.size (Nat.le_refl _)) (fun b e => by have := HQ.out.1; omega)))
  have HT2 := Lib.hid (stear_any _ _ gq cap (tearL L c) D w2 ho2 HS2.out (by rw [HTL1.out]; omega))
  rw [← HDD.out] at HT2
  rw [HTL1.out, HDD.out] at HT2
  clear ho2 u2 HT
  go_wp2_with fail
  refine HT2.out.mono ?_
  rintro e w3 ⟨rfl, ho3, u3⟩
  have hdel : delL L c m = (tearL (tearL L c) D).take c ++ (tearL (tearL L c) D).drop D ++ List.replicate m zc := by unfold delL; rw [HDD.out]
  rw [HDD.out] at HTL
  obtain ⟨Tl, hTl⟩ : ∃ Tl, Tl = tearL (tearL L c) D := ⟨_, rfl⟩
  rw [← hTl] at ho3 HTL hdel
  clear hTl
  rw [HTL.out] at ho3
  have hh3 := ho3.held (Z := fun b => w.heap.size ≤ b) (fun b hb _ => hb)
  have hqc : L.length ≤ cap := by obtain ⟨_, hn, _⟩ := hh3.spots; exact hn
  have HH := Lib.hid (HTL.out.symm ▸ hh3 : HeldE cellE (fun b => w.heap.size ≤ b) w3 (.slice (some ⟨gq, 0, none⟩) Tl.length cap) Tl)
  have B3 := Lib.hid (HB2.out.trans (u3.below (B := w.heap.size) (Nat.le_trans HB2.out.size (Nat.le_refl _)) (fun b e => by have := HQ.out.1; omega)))
  have HFM := Lib.hid (show [Tl.take c, Tl.drop D, List.replicate m zc].flatten = delL L c m by rw [hdel]; simp)
  have HFL := Lib.hid (show [Tl.take c, Tl.drop D, List.replicate m zc].flatten.length ≤ 1000000 by rw [HFM.out, HIL.out]; omega)
  clear ho3 u3 hh3 HT2 hdel
  have HA := Lib.hid (fun w' (b : Below w3.heap.size w3 w') => part3 (HH.out.below b) 0 c (Nat.zero_le _) (by rw [HTL.out]; omega))
  have HC := Lib.hid (show ∀ w', Below w3.heap.size w3 w' → HeldE cellE (fun b => w.heap.size ≤ b) w' (.slice (if cap = D then some ⟨gq, 0, none⟩ else some ⟨gq, D * 2, none⟩) (L.length - D) (cap - D)) (Tl.drop D) from fun w' b => by
    have h3 := HH.out.below b
    obtain ⟨_, _, e, hcm, _⟩ := id h3
    cases e
    have hp := h3.part D L.length hDl (by rw [HTL.out]; exact Nat.le_refl _) (if cap = D then some ⟨gq, 0, none⟩ else some ⟨gq, D * 2, none⟩) (cap - D) (fun e => by cases e) (fun b off e hlt => by cases e; rw [if_neg (by omega)]; simp [cellE_size]) (fun _ _ => by split <;> simp) (by omega) (by omega)
    rw [List.take_of_length_le (by rw [List.length_drop, HTL.out]; exact Nat.le_refl _)] at hp
    exact hp)
  have HPN := Lib.hid (fun (v' : Value) (w' : World) (b : Below w.heap.size w w') (hv : HeldE cellE (fun b => w.heap.size ≤ b) w' v' (delL L c m)) => rpaint_good Z (fun b => w.heap.size ≤ b) B g gc L (delL L c m) wrap v' w' (HR.out.below b) hv (fun b h => by have := HGL.out; omega) (fun x hx => hZ x (Nat.le_trans b.size hx)) 0 (by rw [HIL.out]; omega) HIS.out)
  rw [paint_all HIL.out, hit_all HIL.out hl0, Bool.not_true, Bool.and_false] at HPN
  have hz0 : (c : Int) ≤ (cap : Int) := by omega
  have hz1 : (D : Int) ≤ (L.length : Int) := by omega
  have hz9 : c ≤ cap := by omega
  have hz8 : D ≤ cap := by omega
  go_upto_region 5 with (fail)
  obtain ⟨Erg, hErg⟩ : ∃ EE : Nat → Value → World → Prop, EE = fun jj xx ww => match jj with
      | 0 => xx = .pointer (some ⟨g, 0, none⟩)
      | 1 => xx = .slice (some ⟨gq, 0, none⟩) L.length cap
      | 2 => xx = .int .i64 c
      | 3 => xx = .slice (some ⟨gq, 0, none⟩) c cap
      | 4 => xx = .slice (some ⟨gq, 0, none⟩) L.length cap
      | 5 => xx = .int .i64 c
      | 6 => xx = .int .i64 m
      | 7 => xx = .int .i64 D
      | 8 => xx = .slice (if cap = D then some ⟨gq, 0, none⟩ else some ⟨gq, D * 2, none⟩) (L.length - D) (cap - D)
      | 9 => xx = .int .i64 m
      | 10 => (fun x w' => HeldE cellE (fun b => w.heap.size ≤ b) w' x (List.replicate m zc)) xx ww
      | 11 => (fun x w' => HeldE cellsE (fun b => w.heap.size ≤ b) w' x [Tl.take c, Tl.drop D, List.replicate m zc]) xx ww
      | 12 => (fun x w' => HeldE cellE (fun b => w.heap.size ≤ b) w' x (delL L c m)) xx ww
      | 13 => xx = .nilIface
      | _ => True := ⟨_, rfl⟩
  have erg0 : ∀ xx ww, Erg 0 xx ww = (xx = .pointer (some ⟨g, 0, none⟩)) := fun xx ww => congrFun (congrFun (congrFun hErg 0) xx) ww
  have erg1 : ∀ xx ww, Erg 1 xx ww = (xx = .slice (some ⟨gq, 0, none⟩) L.length cap) := fun xx ww => congrFun (congrFun (congrFun hErg 1) xx) ww
  have erg2 : ∀ xx ww, Erg 2 xx ww = (xx = .int .i64 c) := fun xx ww => congrFun (congrFun (congrFun hErg 2) xx) ww
  have erg3 : ∀ xx ww, Erg 3 xx ww = (xx = .slice (some ⟨gq, 0, none⟩) c cap) := fun xx ww => congrFun (congrFun (congrFun hErg 3) xx) ww
  have erg4 : ∀ xx ww, Erg 4 xx ww = (xx = .slice (some ⟨gq, 0, none⟩) L.length cap) := fun xx ww => congrFun (congrFun (congrFun hErg 4) xx) ww
  have erg5 : ∀ xx ww, Erg 5 xx ww = (xx = .int .i64 c) := fun xx ww => congrFun (congrFun (congrFun hErg 5) xx) ww
  have erg6 : ∀ xx ww, Erg 6 xx ww = (xx = .int .i64 m) := fun xx ww => congrFun (congrFun (congrFun hErg 6) xx) ww
  have erg7 : ∀ xx ww, Erg 7 xx ww = (xx = .int .i64 D) := fun xx ww => congrFun (congrFun (congrFun hErg 7) xx) ww
  have erg8 : ∀ xx ww, Erg 8 xx ww = (xx = .slice (if cap = D then some ⟨gq, 0, none⟩ else some ⟨gq, D * 2, none⟩) (L.length - D) (cap - D)) := fun xx ww => congrFun (congrFun (congrFun hErg 8) xx) ww
  have erg9 : ∀ xx ww, Erg 9 xx ww = (xx = .int .i64 m) := fun xx ww => congrFun (congrFun (congrFun hErg 9) xx) ww
  have erg10 : ∀ xx ww, Erg 10 xx ww = ((fun x w' => HeldE cellE (fun b => w.heap.size ≤ b) w' x (List.replicate m zc)) xx ww) := fun xx ww => congrFun (congrFun (congrFun hErg 10) xx) ww
  have erg11 : ∀ xx ww, Erg 11 xx ww = ((fun x w' => HeldE cellsE (fun b => w.heap.size ≤ b) w' x [Tl.take c, Tl.drop D, List.replicate m zc]) xx ww) := fun xx ww => congrFun (congrFun (congrFun hErg 11) xx) ww
  have erg12 : ∀ xx ww, Erg 12 xx ww = ((fun x w' => HeldE cellE (fun b => w.heap.size ≤ b) w' x (delL L c m)) xx ww) := fun xx ww => congrFun (congrFun (congrFun hErg 12) xx) ww
  have erg13 : ∀ xx ww, Erg 13 xx ww = (xx = .nilIface) := fun xx ww => congrFun (congrFun (congrFun hErg 13) xx) ww
  obtain ⟨Crg, hCrg⟩ : ∃ CC : Array Bool → World → Prop, CC = fun L8 w' => (Mix.one L8 13 = 0 → Below w3.heap.size w3 w') ∧ (Mix.one L8 13 = 1 → RowAt Z w' B g gc (delL L c m) false ∧ Upd (fun b => b = g ∨ b = gc) w w') := ⟨_, rfl⟩
  have krg : ∀ i L w, i ≠ 13 →  Crg L w → Crg (L.setIfInBounds i true) w := by
    intro i L w q13 h
    rw [hCrg] at h ⊢
    simp only [Mix.one_ne q13]; exact h
  obtain ⟨Xrg, hXrg⟩ : ∃ XX : World → World → Prop, XX = fun x y => Upd (fun b => b = g ∨ b = gc) x y := ⟨_, rfl⟩
  have xrg : ∀ w, Xrg w w := fun w => by rw [hXrg]; exact Upd.refl _ _
  have strg : ∀ j x w w1, Xrg w w1 → Erg j x w → Erg j x w1 := by
    intro j x w w1 hx h
    rw [hXrg] at hx
    match j with
    | 0 => rw [erg0] at h ⊢; exact h
    | 1 => rw [erg1] at h ⊢; exact h
    | 2 => rw [erg2] at h ⊢; exact h
    | 3 => rw [erg3] at h ⊢; exact h
    | 4 => rw [erg4] at h ⊢; exact h
    | 5 => rw [erg5] at h ⊢; exact h
    | 6 => rw [erg6] at h ⊢; exact h
    | 7 => rw [erg7] at h ⊢; exact h
    | 8 => rw [erg8] at h ⊢; exact h
    | 9 => rw [erg9] at h ⊢; exact h
    | 10 => rw [erg10] at h ⊢; (exact HeldE.upd h hx (fun b hb e => by have := HGL.out; omega))
    | 11 => rw [erg11] at h ⊢; (exact HeldE.upd h hx (fun b hb e => by have := HGL.out; omega))
    | 12 => rw [erg12] at h ⊢; (exact HeldE.upd h hx (fun b hb e => by have := HGL.out; omega))
    | 13 => rw [erg13] at h ⊢; exact h
    | j + 14 => rw [hErg]; trivial
  have crg : Crg (Array.replicate 14 false) w3.drew := by rw [hCrg]; exact ⟨fun _ => (Below.refl _ _).drew, fun e => absurd e (by decide)⟩
  have brg : ∀ L w w1, Crg L w → Below w.heap.size w w1 → Crg L w1 := by
    intro L w w1 h hb
    rw [hCrg] at h ⊢
    exact ⟨fun e => (h.1 e).trans (hb.mono (h.1 e).size), fun e => ⟨(h.2 e).1.below hb, (h.2 e).2.trans (.ofBelow hb)⟩⟩
  have xbrg : ∀ w w1, Below w.heap.size w w1 → Xrg w w1 := by
    intro w w1 hb
    rw [hXrg]
    exact Upd.ofBelow hb
  have Hrgb := Lib.hid brg
  have Hrgxb := Lib.hid xbrg
  clear brg xbrg
  clear hErg
  have Hrgk := Lib.hid krg
  have Hrgx := Lib.hid xrg
  have Hrgst := Lib.hid strg
  have Hrgc := Lib.hid crg
  have HrghC := Lib.hid hCrg
  have HrghX := Lib.hid hXrg
  have Hrge0 := Lib.hid erg0
  have Hrge1 := Lib.hid erg1
  have Hrge2 := Lib.hid erg2
  have Hrge3 := Lib.hid erg3
  have Hrge4 := Lib.hid erg4
  have Hrge5 := Lib.hid erg5
  have Hrge6 := Lib.hid erg6
  have Hrge7 := Lib.hid erg7
  have Hrge8 := Lib.hid erg8
  have Hrge9 := Lib.hid erg9
  have Hrge10 := Lib.hid erg10
  have Hrge11 := Lib.hid erg11
  have Hrge12 := Lib.hid erg12
  have Hrge13 := Lib.hid erg13
  clear krg xrg strg crg hCrg hXrg erg0 erg1 erg2 erg3 erg4 erg5 erg6 erg7 erg8 erg9 erg10 erg11 erg12 erg13
  go_wp2_with fail
  refine Reg.regionF Erg Crg Xrg Hrgst.out (by kernel_rfl) (by kernel_rfl) (by kernel_rfl) Hrgc.out (fun Frg hFrg => ?_)
  simp only [Reg.frame, Reg.dsts, List.map_cons, List.map_nil, Mix.put_lit, List.set_cons_succ, List.set_cons_zero, Nat.zero_add, Nat.reduceAdd] at hFrg
  refine ⟨?_, ?_⟩
  · refine ⟨?_, ?_, ?_, ?_, ?_, ?_, ?_, ?_, ?_, ?_, ?_, ?_, ?_, ?_, trivial⟩
    · intro Lq wq xq hh
      simp only [hFrg]
      refine .inl ⟨rfl, ?_⟩
      unfold Reg.upon
      have hk := Hrgk.out 0 Lq wq (by decide)  hh.cls
      have hx := Hrgx.out wq
      have he : Erg 0 (.pointer (some ⟨g, 0, none⟩)) wq := by rw [Hrge0.out]
      have HK := Lib.hid (And.intro hk (And.intro he hx))
      clear hk hx he
      go_simp
      exact HK.out
    · intro Lq wq xq hh
      simp only [hFrg]
      refine .inl ⟨rfl, ?_⟩
      unfold Reg.upon
      have hk := Hrgk.out 1 Lq wq (by decide)  hh.cls
      have hx := Hrgx.out wq
      have he : Erg 1 (.slice (some ⟨gq, 0, none⟩) L.length cap) wq := by rw [Hrge1.out]
      have HK := Lib.hid (And.intro hk (And.intro he hx))
      clear hk hx he
      go_simp
      exact HK.out
    · intro Lq wq xq hh
      simp only [hFrg]
      refine .inl ⟨rfl, ?_⟩
      unfold Reg.upon
      have hk := Hrgk.out 2 Lq wq (by decide)  hh.cls
      have hx := Hrgx.out wq
      have he : Erg 2 (.int .i64 c) wq := by rw [Hrge2.out]
      have HK := Lib.hid (And.intro hk (And.intro he hx))
      clear hk hx he
      go_simp
      exact HK.out
    · intro Lq wq xq hh
      have d1 : Erg 1 (xq 1) wq := hh.val 1 (by kernel_rfl) (by kernel_rfl)
      rw [Hrge1.out] at d1
      have d2 : Erg 2 (xq 2) wq := hh.val 2 (by kernel_rfl) (by kernel_rfl)
      rw [Hrge2.out] at d2
      simp only [hFrg, d1, d2]
      clear d1 d2
      refine .inl ⟨rfl, ?_⟩
      unfold Reg.upon
      have hk := Hrgk.out 3 Lq wq (by decide)  hh.cls
      have hx := Hrgx.out wq
      have he : Erg 3 (.slice (some ⟨gq, 0, none⟩) c cap) wq := by rw [Hrge3.out]
      have HK := Lib.hid (And.intro hk (And.intro he hx))
      clear hk hx he
      go_simp
      exact HK.out
    · intro Lq wq xq hh
      simp only [hFrg]
      refine .inl ⟨rfl, ?_⟩
      unfold Reg.upon
      have hk := Hrgk.out 4 Lq wq (by decide)  hh.cls
      have hx := Hrgx.out wq
      have he : Erg 4 (.slice (some ⟨gq, 0, none⟩) L.length cap) wq := by rw [Hrge4.out]
      have HK := Lib.hid (And.intro hk (And.intro he hx))
      clear hk hx he
      go_simp
      exact HK.out
    · intro Lq wq xq hh
      simp only [hFrg]
      refine .inl ⟨rfl, ?_⟩
      unfold Reg.upon
      have hk := Hrgk.out 5 Lq wq (by decide)  hh.cls
      have hx := Hrgx.out wq
      have he : Erg 5 (.int .i64 c) wq := by rw [Hrge5.out]
      have HK := Lib.hid (And.intro hk (And.intro he hx))
      clear hk hx he
      go_simp
      exact HK.out
    · intro Lq wq xq hh
      simp only [hFrg]
      refine .inl ⟨rfl, ?_⟩
      unfold Reg.upon
      have hk := Hrgk.out 6 Lq wq (by decide)  hh.cls
      have hx := Hrgx.out wq
      have he : Erg 6 (.int .i64 m) wq := by rw [Hrge6.out]
      have HK := Lib.hid (And.intro hk (And.intro he hx))
      clear hk hx he
      go_simp
      exact HK.out
    · intro Lq wq xq hh
      have d5 : Erg 5 (xq 5) wq := hh.val 5 (by kernel_rfl) (by kernel_rfl)
      rw [Hrge5.out] at d5
      have d6 : Erg 6 (xq 6) wq := hh.val 6 (by kernel_rfl) (by kernel_rfl)
      rw [Hrge6.out] at d6
      simp only [hFrg, d5, d6]
      clear d5 d6
      refine .inl ⟨rfl, ?_⟩
      unfold Reg.upon
      have hk := Hrgk.out 7 Lq wq (by decide)  hh.cls
      have hx := Hrgx.out wq
      have he : Erg 7 (.int .i64 D) wq := by rw [Hrge7.out]
      have HK := Lib.hid (And.intro hk (And.intro he hx))
      clear hk hx he
      go_simp
      exact HK.out
    · intro Lq wq xq hh
      have d4 : Erg 4 (xq 4) wq := hh.val 4 (by kernel_rfl) (by kernel_rfl)
      rw [Hrge4.out] at d4
      have d7 : Erg 7 (xq 7) wq := hh.val 7 (by kernel_rfl) (by kernel_rfl)
      rw [Hrge7.out] at d7
      simp only [hFrg, d4, d7]
      clear d4 d7
      refine .inl ⟨rfl, ?_⟩
      unfold Reg.upon
      have hk := Hrgk.out 8 Lq wq (by decide)  hh.cls
      have hx := Hrgx.out wq
      have he : Erg 8 (.slice (if cap = D then some ⟨gq, 0, none⟩ else some ⟨gq, D * 2, none⟩) (L.length - D) (cap - D)) wq := by rw [Hrge8.out]
      have HK := Lib.hid (And.intro hk (And.intro he hx))
      clear hk hx he
      go_simp
      exact HK.out
    · intro Lq wq xq hh
      simp only [hFrg]
      refine .inl ⟨rfl, ?_⟩
      unfold Reg.upon
      have hk := Hrgk.out 9 Lq wq (by decide)  hh.cls
      have hx := Hrgx.out wq
      have he : Erg 9 (.int .i64 m) wq := by rw [Hrge9.out]
      have HK := Lib.hid (And.intro hk (And.intro he hx))
      clear hk hx he
      go_simp
      exact HK.out
    · intro Lq wq xq hh
      have d9 : Erg 9 (xq 9) wq := hh.val 9 (by kernel_rfl) (by kernel_rfl)
      rw [Hrge9.out] at d9
      simp only [hFrg, d9]
      clear d9
      refine .inl ⟨rfl, ?_⟩
      unfold Reg.upon
      have hc : Crg Lq wq := hh.cls
      rw [HrghC.out] at hc
      go_simp
      refine (blanks_any (fun b => w.heap.size ≤ b) (m : Int) wq).mono ?_
      rintro e w4 ⟨v4, rfl, ho, hb⟩
      have hc0 := hc.1 (Mix.one_un (hh.notYet 13 (by kernel_rfl)))
      refine ⟨_, rfl, Hrgk.out 10 Lq w4 (by decide) (Hrgb.out Lq wq w4 hh.cls hb), ?_, Hrgxb.out wq w4 hb⟩
      rw [Hrge10.out]
      rw [show blankN (m : Int) = m by unfold blankN; omega] at ho
      exact ho.held (fun b h _ => Nat.le_trans (Nat.le_trans B3.out.size hc0.size) h)
    · intro Lq wq xq hh
      have d3 : Erg 3 (xq 3) wq := hh.val 3 (by kernel_rfl) (by kernel_rfl)
      rw [Hrge3.out] at d3
      have d8 : Erg 8 (xq 8) wq := hh.val 8 (by kernel_rfl) (by kernel_rfl)
      rw [Hrge8.out] at d8
      have d10 : Erg 10 (xq 10) wq := hh.val 10 (by kernel_rfl) (by kernel_rfl)
      rw [Hrge10.out] at d10
      simp only [hFrg, d3, d8]
      clear d3 d8
      refine .inl ⟨rfl, ?_⟩
      unfold Reg.upon
      have hc : Crg Lq wq := hh.cls
      rw [HrghC.out] at hc
      have hc0 := hc.1 (Mix.one_un (hh.notYet 13 (by kernel_rfl)))
      obtain ⟨ao4, ca4, e4⟩ := d10.len
      obtain ⟨A8, hA8⟩ : ∃ A8, A8 = (if cap = D then some (⟨gq, 0, none⟩ : Addr) else some ⟨gq, D * 2, none⟩) := ⟨_, rfl⟩
      have hb1 := (Below.refl wq.heap.size wq).alloc (Nat.le_refl _) (.cells #[.slice (some ⟨gq, 0, none⟩) c cap, .slice A8 (L.length - D) (cap - D), xq 10] 54)
      have ha := HA.out wq hc0
      have hcc := HC.out wq hc0
      rw [← hA8] at hcc ⊢
      have ho := three_own (Z := fun b => w.heap.size ≤ b) (B := w.heap.size) (by simpa using ha) hcc d10 (Nat.le_trans B3.out.size hc0.size) (fun _ h => h)
      rw [e4, List.length_replicate] at ho hb1 ⊢
      clear hA8 hcc
      go_simp
      refine ⟨Hrgk.out 11 Lq _ (by decide) (Hrgb.out Lq wq _ hh.cls hb1), ?_, Hrgxb.out wq _ hb1⟩
      rw [Hrge11.out]
      exact ho
    · intro Lq wq xq hh
      have d11 : Erg 11 (xq 11) wq := hh.val 11 (by kernel_rfl) (by kernel_rfl)
      rw [Hrge11.out] at d11
      simp only [hFrg]
      refine .inl ⟨rfl, ?_⟩
      unfold Reg.upon
      have hc : Crg Lq wq := hh.cls
      rw [HrghC.out] at hc
      go_simp
      refine (cconcat_any (fun b => w.heap.size ≤ b) _ _ wq d11 (by simp) HFL.out).mono ?_
      rintro e w4 ⟨v4, rfl, ho, hb⟩
      have hc0 := hc.1 (Mix.one_un (hh.notYet 13 (by kernel_rfl)))
      refine ⟨_, rfl, Hrgk.out 12 Lq w4 (by decide) (Hrgb.out Lq wq w4 hh.cls hb), ?_, Hrgxb.out wq w4 hb⟩
      rw [Hrge12.out]
      rw [HFM.out] at ho
      exact ho.held (fun b h _ => Nat.le_trans (Nat.le_trans B3.out.size hc0.size) h)
    · intro Lq wq xq hh
      have d0 : Erg 0 (xq 0) wq := hh.val 0 (by kernel_rfl) (by kernel_rfl)
      rw [Hrge0.out] at d0
      have d12 : Erg 12 (xq 12) wq := hh.val 12 (by kernel_rfl) (by kernel_rfl)
      rw [Hrge12.out] at d12
      simp only [hFrg, d0]
      clear d0
      refine .inl ⟨rfl, ?_⟩
      unfold Reg.upon
      have hc : Crg Lq wq := hh.cls
      rw [HrghC.out] at hc
      have hc0 := hc.1 hh.un
      have hbw := B3.out.trans (hc0.mono B3.out.size)
      go_simp
      refine (HPN.out _ wq hbw d12).mono ?_
      rintro e w4 ⟨rfl, h1, u1⟩
      refine ⟨_, rfl, ?_, (by rw [Hrge13.out]), (by rw [HrghX.out]; exact u1)⟩
      rw [HrghC.out]
      dsimp only
      refine ⟨fun e => ?_, fun _ => ⟨h1, (Upd.ofBelow hbw).trans u1⟩⟩
      rw [Mix.one_set (by rw [hh.size]; decide)] at e
      exact absurd e (by decide)
  intro xq wrg hcrg hvrg
  rw [HrghC.out] at hcrg
  simp only [hFrg]
  have vrg13 : Erg 13 (xq 13) wrg := hvrg 13 (by decide)
  rw [Hrge13.out] at vrg13
  rw [vrg13]
  clear hvrg hFrg Hrgk Hrgx Hrgst Hrgc HrghC HrghX Hrgb Hrgxb Hrge0 Hrge1 Hrge2 Hrge3 Hrge4 Hrge5 Hrge6 Hrge7 Hrge8 Hrge9 Hrge10 Hrge11 Hrge12 Hrge13
  have HE := Lib.hid (hcrg.2 (by kernel_rfl))
  clear hcrg vrg13
  go_wp2
  exact bodyPost_end (by kernel_rfl) rfl ⟨rfl, HE.out.1, HE.out.2⟩
def insA (L : List Cl) (wrap : Bool) (c n : Int) : List Cl × Bool := if c < 0 ∨ (L.length : Int) ≤ c ∨ n < 1 then (L, wrap) else (insL L c.toNat (min n ((L.length : Int) - c)).toNat, false)
def delA (L : List Cl) (wrap : Bool) (c n : Int) : List Cl × Bool := if c < 0 ∨ (L.length : Int) ≤ c ∨ n < 1 then (L, wrap) else (delL L c.toNat (min n ((L.length : Int) - c)).toNat, false)
theorem sins_z (Z : Zone) (B g gc : Nat) (L : List Cl) (wrap : Bool) (c n : Int) (w : World) (hZ : ∀ b, w.heap.size ≤ b → Z b) (h : RowAt Z w B g gc L wrap) : Calls Tryd.prog 92 #[.pointer (some ⟨g, 0, none⟩), .int .i64 c, .int .i64 n] w (RowTurned Z w B g gc (insA L wrap c n).1 (insA L wrap c n).2) := by
  by_cases hb : c < 0 ∨ (L.length : Int) ≤ c ∨ n < 1
  · have HD := Lib.hid (sheld_bad _ B g gc L wrap c n w h hb)
    have HR := Lib.hid h
    unfold insA
    rw [if_pos hb]
    clear h hb
    go_enter Tryd.func92, Tryd.ntmps92
    go_wp2_with fail
    refine HD.out.mono ?_
    rintro e w1 ⟨rfl, rfl⟩
    go_wp2
    exact bodyPost_ret (by kernel_rfl) rfl ⟨rfl, HR.out, Upd.refl _ _⟩
  · unfold insA
    rw [if_neg hb]
    obtain ⟨k, rfl⟩ := Int.eq_ofNat_of_zero_le (show 0 ≤ c by omega)
    obtain ⟨m, hm⟩ : ∃ m : Nat, min n ((L.length : Int) - k) = m := ⟨(min n ((L.length : Int) - k)).toNat, by omega⟩
    rw [hm]
    exact sins_goodz Z B g gc L wrap k m n w hZ h (by omega) (by omega) hm
theorem sdel_z (Z : Zone) (B g gc : Nat) (L : List Cl) (wrap : Bool) (c n : Int) (w : World) (hZ : ∀ b, w.heap.size ≤ b → Z b) (h : RowAt Z w B g gc L wrap) : Calls Tryd.prog 93 #[.pointer (some ⟨g, 0, none⟩), .int .i64 c, .int .i64 n] w (RowTurned Z w B g gc (delA L wrap c n).1 (delA L wrap c n).2) := by
  by_cases hb : c < 0 ∨ (L.length : Int) ≤ c ∨ n < 1
  · have HD := Lib.hid (sheld_bad _ B g gc L wrap c n w h hb)
    have HR := Lib.hid h
    unfold delA
    rw [if_pos hb]
    clear h hb
    go_enter Tryd.func93, Tryd.ntmps93
    go_wp2_with fail
    refine HD.out.mono ?_
    rintro e w1 ⟨rfl, rfl⟩
    go_wp2
    exact bodyPost_ret (by kernel_rfl) rfl ⟨rfl, HR.out, Upd.refl _ _⟩
  · unfold delA
    rw [if_neg hb]
    obtain ⟨k, rfl⟩ := Int.eq_ofNat_of_zero_le (show 0 ≤ c by omega)
    obtain ⟨m, hm⟩ : ∃ m : Nat, min n ((L.length : Int) - k) = m := ⟨(min n ((L.length : Int) - k)).toNat, by omega⟩
    rw [hm]
    exact sdel_goodz Z B g gc L wrap k m n w hZ h (by omega) (by omega) hm
end Go.Proofs.YtgndolgihplngaaDoor
