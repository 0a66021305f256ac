/- Texts put together: CwidS, GrdW, GrdZ, WidP. -/
import Derived.Test.YtoeggiplcaegoaaGreatDoorCwidA
import Derived.Test.YtoeggiplcaegoaaGreatDoorMg1
import Derived.Test.YtoeggiplcaegoaaGreatDoorGrdR
import Derived.Test.YtoeggiplcaegoaaGreatDoorCellS
import Derived.Test.YtoeggiplcaegoaaGreatDoorMg5
import Derived.OpenShut
/- Rows of properties: a copy of a held row into a new block; what an append of held properties leaves. -/
namespace Go.Proofs.YtoeggiplcaegoaaGreatDoor
open Go.RowKit Go.ChangeShapes Go.WideShapes
theorem info_prop4 : (Tryz.prog.info? 33).map (fun i => (i.zero, i.size, i.bytes)) = some (some (.agg #[.int .i64 0, .bool false, .int .i64 0, .int .i64 0]), 4, 32) := by kernel_rfl
theorem heldP_news {w : World} {ad : Addr} {n cap : Nat} {L : List Pr} (h : HeldP w (.slice (some ad) n cap) L) : n = L.length ∧ ∀ j u, (prsCells L)[j]? = some u → w.cell? (ad.add j) = some u := by
  obtain ⟨hn, hc⟩ := h.at
  refine ⟨hn, fun j u hj => ?_⟩
  have hjl : j < 4 * L.length := by
    rcases Nat.lt_or_ge j (4 * L.length) with h | h
    · exact h
    · rw [List.getElem?_eq_none (by rw [prsCells_len]; exact h)] at hj; cases hj
  obtain ⟨b, off, e, _, d0, d1, d2, d3⟩ := hc (j / 4) (by omega)
  cases e
  rw [Addr.add_lit]
  obtain ⟨k0, k1, k2, k3⟩ := prsCells_at L (j / 4) (by omega)
  have hg : L.getD (j / 4) Pr.none = L[j / 4]'(by omega) := by simp [List.getD, List.getElem?_eq_getElem (show j / 4 < L.length by omega)]
  rw [hg] at d0 d1 d2 d3
  have hcase : j = j / 4 * 4 ∨ j = j / 4 * 4 + 1 ∨ j = j / 4 * 4 + 2 ∨ j = j / 4 * 4 + 3 := by omega
  rcases hcase with e | e | e | e
  · rw [e] at hj ⊢; rw [k0] at hj; cases hj; exact d0
  · rw [e] at hj ⊢; rw [k1] at hj; cases hj; rw [← Nat.add_assoc]; exact d1
  · rw [e] at hj ⊢; rw [k2] at hj; cases hj; rw [← Nat.add_assoc]; exact d2
  · rw [e] at hj ⊢; rw [k3] at hj; cases hj; rw [← Nat.add_assoc]; exact d3
theorem prs_one (L : List Pr) : ∀ u ∈ prsCells L, u.oneCell' = true := by
  intro u hu
  unfold prsCells prCells at hu
  simp only [List.mem_flatMap, List.mem_cons, List.not_mem_nil, or_false] at hu
  obtain ⟨q, _, rfl | rfl | rfl | rfl⟩ := hu <;> rfl
theorem exec_append {P : Program} {ρ : Operand → Value} {o : Oper} {s x : Operand} {t : TypeId} {w w' : World} {v u v' : Value} (ho : o.op = .call { callee := .builtin .append, args := #[s, x], argTypes := #[t, t] }) (hs : ρ s = v) (hx : ρ x = u)
    (hr : (Builtin.append_ #[t, t] o.type #[v, u]).run P w = .ok v' w') : (execOp ρ o).run P w = .ok (.value v') w' := by
  unfold execOp
  simp only [ho, resolve, invoke, builtin, Sem.run_bind, Sem.run_pure, Result.andThen_ok, List.map_toArray, List.map_cons, List.map_nil, hs, hx, hr]
/-- An append of held properties to a row of the call's own. -/
theorem prs_append (w : World) (B : Nat) (ty : TypeId) (v : Value) (n : Nat) (xs : List Value) (hown : w.ownsRow B 33 4 v n xs) (g c : Nat) (L : List Pr) (hu : HeldP w (.slice (some ⟨g, 0, none⟩) L.length c) L)
    (hn : n + L.length ≤ 1000000) (hbase : B ≤ w.heap.size) :
    ∃ v' w', (Builtin.append_ #[28, 28] ty #[v, .slice (some ⟨g, 0, none⟩) L.length c]).run Tryz.prog w = .ok v' w' ∧ w'.ownsRow B 33 4 v' (n + L.length) (xs ++ prsCells L) ∧ Below B w w' ∧ Kept w w' B 33 4 (xs ++ prsCells L) (prsCells L) L.length := by
  obtain ⟨i0, hi, hz0, hz1, hz2⟩ := info_parts info_prop4
  obtain ⟨_, hnews⟩ := heldP_news hu
  obtain ⟨v', w', hr, h2, h3, h4⟩ := run_append_kept (P := Tryz.prog) w B 28 ty 33 i0 _ 4 32 Tryz.underlying28 hi hz0 hz1 hz2 rfl (by decide) v n xs hown ⟨g, 0, none⟩ L.length c (prsCells L) (by rw [prsCells_len]; omega) hnews (prs_one L) (by unfold maxLen; omega) (by omega) hbase
  exact ⟨v', w', hr, h2, (Below.refl B w).grown h3 hbase fun k hk => (hown.lt k hk).1, h4⟩
/-- A copy of a held row into a new block. -/
theorem prs_copy (w : World) (B : Nat) (ty : TypeId) (g : Nat) (hown : w.ownsRow B 33 4 (.slice (some ⟨g, 0, none⟩) 0 0) 0 []) (u : Value) (L : List Pr) (hu : HeldP w u L) (hn : L.length ≤ 1000000) (hbase : B ≤ w.heap.size) :
    ∃ v' w', (Builtin.append_ #[28, 28] ty #[.slice (some ⟨g, 0, none⟩) 0 0, u]).run Tryz.prog w = .ok v' w' ∧ w'.ownsRow B 33 4 v' L.length (prsCells L) ∧ Below w.heap.size w w' := by
  obtain ⟨i0, hi, hz0, hz1, hz2⟩ := info_parts info_prop4
  by_cases h0 : L = []
  · subst h0
    refine ⟨_, w, ?_, hown, Below.refl _ _⟩
    obtain ⟨ao, cap, rfl, _⟩ := hu
    cases ao with
    | none => simp [Builtin.append_, run_underlying Tryz.underlying28, sizeOf, typeInfo, hi, Builtin.lenOf, Builtin.firstCells, storeCells]
    | some ad => simp [Builtin.append_, run_underlying Tryz.underlying28, sizeOf, typeInfo, hi, Builtin.lenOf, Builtin.firstCells, loadCells, loadCellsFrom, storeCells]
  · obtain ⟨ao, cap, rfl, hh⟩ := id hu
    have hpos : 0 < L.length := List.length_pos_iff.2 h0
    cases ao with
    | none => obtain ⟨b, off, e, _⟩ := hh 0 hpos; cases e
    | some ad =>
      obtain ⟨_, hnews⟩ := heldP_news hu
      obtain ⟨v', w', hr, h2, h3, _, h5⟩ := run_append_keep (P := Tryz.prog) w B 28 ty 33 i0 _ 4 32 Tryz.underlying28 hi hz0 hz1 hz2 rfl (by decide) _ 0 [] hown ad L.length cap (prsCells L) (by rw [prsCells_len]; omega) hnews (prs_one L) (by unfold maxLen; omega) (by omega) hbase
      refine ⟨v', w', hr, by simpa using h2, ?_⟩
      rcases h5 with h5 | ⟨g2, cap2, e1, rfl⟩
      · exact (Below.refl _ w).grown (⟨h3.os, h3.tape, h3.output, h3.size, fun i hi _ => h5 i hi⟩ : w.grownBy w' none) (Nat.le_refl _) (by simp)
      · exfalso
        simp only [Value.slice.injEq, Option.some.injEq, Addr.mk.injEq, and_true, true_and] at e1
        obtain ⟨rfl, rfl⟩ := e1
        rcases h2.2 with ⟨h', _⟩ | ⟨g3, cap3, cur3, h', _, _, hn3, _⟩
        · simp at h'
        · simp only [Value.slice.injEq, Option.some.injEq, Addr.mk.injEq, and_true, true_and] at h'
          omega
end Go.Proofs.YtoeggiplcaegoaaGreatDoor
/- Which line is wrong (32): the reference's Wrong. -/
namespace Go.Proofs.YtoeggiplcaegoaaGreatDoor
open Go.RowKit Go.ChangeShapes Go.WideShapes
def codeAt (n0 : Nat) (l : Ln) : Nat := if l.1.length = 0 ∨ 1024 < l.1.length then 3 else if soundB l.1 = false then 5 else if l.1.length ≠ n0 then 3 else 0
def firstN (Ls : List Ln) : Nat := (Ls.getD 0 zl).1.length
def AllGood (Ls : List Ln) : Prop := ∀ k, k < Ls.length → codeAt (firstN Ls) (Ls.getD k zl) = 0
def FirstBad (Ls : List Ln) (i c : Nat) : Prop := i < Ls.length ∧ (∀ j, j < i → codeAt (firstN Ls) (Ls.getD j zl) = 0) ∧ codeAt (firstN Ls) (Ls.getD i zl) = c ∧ c ≠ 0
theorem wrong_cases (Ls : List Ln) : AllGood Ls ∨ ∃ i c, FirstBad Ls i c := by
  have h : ∀ n, n ≤ Ls.length → (∀ j, j < n → codeAt (firstN Ls) (Ls.getD j zl) = 0) ∨ ∃ i c, FirstBad Ls i c := by
    intro n
    induction n with
    | zero => intro _; exact .inl fun j hj => absurd hj (Nat.not_lt_zero _)
    | succ n ih =>
      intro hn
      rcases ih (by omega) with h | h
      · by_cases e : codeAt (firstN Ls) (Ls.getD n zl) = 0
        · refine .inl fun j hj => ?_
          by_cases ej : j = n
          · subst ej; exact e
          · exact h j (by omega)
        · exact .inr ⟨n, _, by omega, h, rfl, e⟩
      · exact .inr h
  exact h Ls.length (Nat.le_refl _)
theorem first_one {Ls : List Ln} {k i c : Nat} (hk : k < Ls.length) (h : ∀ j, j < k → codeAt (firstN Ls) (Ls.getD j zl) = 0) (hn : codeAt (firstN Ls) (Ls.getD k zl) ≠ 0) (hb : FirstBad Ls i c) : i = k ∧ c = codeAt (firstN Ls) (Ls.getD k zl) := by
  obtain ⟨h1, h2, h3, h4⟩ := hb
  rcases Nat.lt_trichotomy i k with hl | rfl | hl
  · exact absurd (h3.symm.trans (h i hl)) h4
  · exact ⟨rfl, h3.symm⟩
  · exact absurd (h2 k hl) hn
theorem first_none {Ls : List Ln} {i c : Nat} (h : ∀ j, j < Ls.length → codeAt (firstN Ls) (Ls.getD j zl) = 0) (hb : FirstBad Ls i c) : False := hb.2.2.2 (hb.2.2.1.symm.trans (h i hb.1))
theorem code_cases (n0 : Nat) (l : Ln) : (codeAt n0 l = 3 ∧ (l.1.length = 0 ∨ 1024 < l.1.length)) ∨ (0 < l.1.length ∧ l.1.length ≤ 1024 ∧ ((codeAt n0 l = 5 ∧ soundB l.1 = false) ∨ (soundB l.1 = true ∧ ((codeAt n0 l = 3 ∧ l.1.length ≠ n0) ∨ (codeAt n0 l = 0 ∧ l.1.length = n0))))) := by
  unfold codeAt
  by_cases h1 : l.1.length = 0 ∨ 1024 < l.1.length
  · exact .inl ⟨if_pos h1, h1⟩
  · refine .inr ⟨by omega, by omega, ?_⟩
    rw [if_neg h1]
    cases hs : soundB l.1 with
    | false => exact .inl ⟨if_pos rfl, rfl⟩
    | true =>
      refine .inr ⟨rfl, ?_⟩
      rw [if_neg (by decide)]
      by_cases h2 : l.1.length = n0
      · exact .inr ⟨if_neg (fun e => e h2), h2⟩
      · exact .inl ⟨if_pos h2, h2⟩
def WrongTold (w : World) (Ls : List Ln) (e : Ending) (w' : World) : Prop := (AllGood Ls → e = .returned (.tuple #[.int .i64 (-1), .int .i64 0])) ∧ (∀ i c : Nat, FirstBad Ls i c → e = .returned (.tuple #[.int .i64 i, .int .i64 c])) ∧ Below w.heap.size w w'
theorem WrongTold.bad {w w' : World} {Ls : List Ln} {k c : Nat} (hk : k < Ls.length) (h : ∀ j, j < k → codeAt (firstN Ls) (Ls.getD j zl) = 0) (hc : codeAt (firstN Ls) (Ls.getD k zl) = c) (hn : c ≠ 0) (hb : Below w.heap.size w w') : WrongTold w Ls (.returned (.tuple #[.int .i64 k, .int .i64 c])) w' := by
  refine ⟨fun hg => absurd (hc.symm.trans (hg k hk)) hn, fun i c' hf => ?_, hb⟩
  obtain ⟨rfl, rfl⟩ := first_one hk h (by rw [hc]; exact hn) hf
  rw [hc]
set_option maxRecDepth 100000 in
set_option maxHeartbeats 3000000 in
theorem rlwrong_any (Z : Zone) (v : Value) (Ls : List Ln) (w : World) (hv : HeldE lineE Z w v Ls) : Calls Tryz.prog 11 #[v] w (WrongTold w Ls) := by
  have hlm := hv.max
  obtain ⟨ao, cap, rfl⟩ := hv.len
  obtain ⟨n, hn⟩ : ∃ n, n = Ls.length := ⟨_, rfl⟩
  have hc := (lines_at hv).2.2
  have hcap := (lines_at hv).2.1
  have HN := Lib.hid hn
  rw [← hn] at hc hcap hlm ⊢
  have HC := Lib.hid hc
  have HFN := Lib.hid (show firstN Ls = (Ls.getD 0 zl).1.length from rfl)
  obtain ⟨n0, hn0⟩ : ∃ n0, n0 = firstN Ls := ⟨_, rfl⟩
  have HN0 := Lib.hid hn0
  clear hc hv hn hn0
  go_enter Tryz.func11, Tryz.ntmps11
  go_wp2
  go_loopw [4] (fun i wr => ∃ k : Nat, k ≤ n ∧ i = .int .i64 k ∧ Go.RowKit.Hid (∀ j, j < k → codeAt (firstN Ls) (Ls.getD j zl) = 0) ∧ Below w.heap.size w wr) (fun i _ => n - (intOf i).toNat)
  case atStart => exact ⟨0, Nat.zero_le _, rfl, Lib.hid (fun j hj => absurd hj (Nat.not_lt_zero _)), Below.refl _ _⟩
  case round =>
    obtain ⟨k, hk, rfl, HOK, hbw⟩ := hrel
    have HBW := Lib.hid hbw
    clear hbw
    by_cases hlt : k < n
    · obtain ⟨b, off, cv, rfl, hb, _, c0, c1, hh⟩ := HC.out k hlt
      obtain ⟨b', off', cv0, e0, hb', _, z0, _, hz⟩ := HC.out 0 (by omega)
      cases e0
      rw [Nat.zero_mul, Nat.add_zero] at z0
      have hcc := code_cases (firstN Ls) (Ls.getD k zl)
      have HKL := Lib.hid (show k < Ls.length by rw [← HN.out]; exact hlt)
      obtain ⟨a0, x0, rfl⟩ := hz.len
      rw [← HFN.out, ← HN0.out] at z0
      have HCC := Lib.hid hcc
      have hxm := hh.max
      have HX := Lib.hid hh
      have HEL := Lib.hid hh.len
      obtain ⟨X, hX⟩ : ∃ X, X = (Ls.getD k zl).1 := ⟨_, rfl⟩
      have hcc2 := HCC.out
      rw [← hX] at HX HEL hxm hcc2
      obtain ⟨a1, x1, rfl⟩ := HEL.out
      have HF := Lib.hid (show ∀ w2, Below w.heap.size w w2 → w2.cell? ⟨b, off + k * 2, none⟩ = some (.slice a1 X.length x1) ∧ w2.cell? ⟨b, off, none⟩ = some (.slice a0 n0 x0) from fun w2 h => ⟨(h.cell (p := ⟨b, off + k * 2, none⟩) hb).trans c0, (h.cell (p := ⟨b, off, none⟩) hb).trans z0⟩)
      obtain ⟨xn, hxn⟩ : ∃ xn, xn = X.length := ⟨_, rfl⟩
      have HXN := Lib.hid hxn
      rw [← hxn] at HF hxm hcc2
      have HS := Lib.hid (show Calls Tryz.prog 57 #[.slice a1 xn x1] wr (Gives wr (.bool (okTo X X.length))) by rw [hxn]; exact rsound_any _ _ _ _ (HX.out.below HBW.out))
      rw [← sound_iff] at HS
      clear hh hz c0 c1 z0 hX HEL hb hb' hcc HCC hxn HX
      obtain ⟨q0, q1⟩ := HF.out wr HBW.out
      rcases hcc2 with ⟨hcd, hbad⟩ | ⟨hx0, hx1, ⟨hcd, hs⟩ | ⟨hs, ⟨hcd, hne⟩ | ⟨hcd, heq⟩⟩⟩
      · have HCD := Lib.hid hcd
        clear hcd
        by_cases hx : xn = 0
        · have hz : ((xn : Int) == 0) = true := by rw [beq_iff_eq]; omega
          clear hbad hx
          go_wp2
          go_ret2
          exact WrongTold.bad HKL.out HOK.out HCD.out (by decide) HBW.out
        · have hz : ((xn : Int) == 0) = false := by rw [beq_eq_false_iff_ne]; omega
          have hd : decide ((1024 : Int) < xn) = true := by rw [decide_eq_true_eq]; omega
          have hdn : decide (1024 < xn) = true := by rw [decide_eq_true_eq]; omega
          clear hbad hx
          go_wp2
          go_ret2
          exact WrongTold.bad HKL.out HOK.out HCD.out (by decide) HBW.out
      · have hz : ((xn : Int) == 0) = false := by rw [beq_eq_false_iff_ne]; omega
        have hd : decide ((1024 : Int) < xn) = false := by rw [decide_eq_false_iff_not]; omega
        have hdn : decide (1024 < xn) = false := by rw [decide_eq_false_iff_not]; omega
        rw [hs] at HS
        have HCD := Lib.hid hcd
        clear hcd hs hx0 hx1
        go_wp2_with fail
        refine HS.out.mono ?_
        rintro e w2 ⟨rfl, b2⟩
        have HB2 := Lib.hid (HBW.out.trans (b2.mono HBW.out.size))
        clear b2
        go_wp2
        go_ret2
        exact WrongTold.bad HKL.out HOK.out HCD.out (by decide) HB2.out
      · have hz : ((xn : Int) == 0) = false := by rw [beq_eq_false_iff_ne]; omega
        have hd : decide ((1024 : Int) < xn) = false := by rw [decide_eq_false_iff_not]; omega
        have hdn : decide (1024 < xn) = false := by rw [decide_eq_false_iff_not]; omega
        have hnn : ((xn : Int) != (n0 : Int)) = true := by rw [← HN0.out] at hne; simp; omega
        rw [hs] at HS
        have HCD := Lib.hid hcd
        clear hcd hs hx0 hx1 hne q0 q1
        obtain ⟨q0, q1⟩ := HF.out wr HBW.out
        go_wp2_with fail
        refine HS.out.mono ?_
        rintro e w2 ⟨rfl, b2⟩
        have HB2 := Lib.hid (HBW.out.trans (b2.mono HBW.out.size))
        clear b2 q0 q1
        obtain ⟨q0, q1⟩ := HF.out w2 HB2.out
        go_wp2
        go_ret2
        exact WrongTold.bad HKL.out HOK.out HCD.out (by decide) HB2.out
      · have hz : ((xn : Int) == 0) = false := by rw [beq_eq_false_iff_ne]; omega
        have hd : decide ((1024 : Int) < xn) = false := by rw [decide_eq_false_iff_not]; omega
        have hdn : decide (1024 < xn) = false := by rw [decide_eq_false_iff_not]; omega
        have hnn : ((xn : Int) != (n0 : Int)) = false := by rw [← HN0.out] at heq; simp; omega
        rw [hs] at HS
        have HOK2 := Lib.hid (show ∀ j, j < k + 1 → codeAt (firstN Ls) (Ls.getD j zl) = 0 from fun j hj => by
          by_cases e : j = k
          · subst e; exact hcd
          · exact HOK.out j (by omega))
        clear hcd hs hx0 hx1 heq
        go_wp2_with fail
        refine HS.out.mono ?_
        rintro e w2 ⟨rfl, b2⟩
        have HB2 := Lib.hid (HBW.out.trans (b2.mono HBW.out.size))
        clear b2 q0 q1
        obtain ⟨q0, q1⟩ := HF.out w2 HB2.out
        go_wp2
        go_roundw
        case rel => exact ⟨k + 1, by omega, by go_num, HOK2, HB2.out⟩
        case measure => simp [intOf] <;> omega
    · obtain rfl : k = n := by omega
      go_wp2
      go_ret2
      have hok := HOK.out
      rw [HN.out] at hok
      exact ⟨fun _ => rfl, fun i c hf => (first_none hok hf).elim, HBW.out⟩
end Go.Proofs.YtoeggiplcaegoaaGreatDoor
/- linotyperef32.New: what it makes lies behind. -/
namespace Go.Proofs.YtoeggiplcaegoaaGreatDoor
open Go.RowKit Go.ChangeShapes Go.WideShapes
end Go.Proofs.YtoeggiplcaegoaaGreatDoor
/- Capacities of slices that come in. -/
namespace Go.Proofs.YtoeggiplcaegoaaGreatDoor
open Go.RowKit Go.ChangeShapes Go.WideShapes
def CapW (v : Value) : Prop := ∀ ao n c, v = .slice ao n c → n ≤ c
theorem capW_of {ao : Option Addr} {n c : Nat} (h : n ≤ c) : CapW (.slice ao n c) := fun _ _ _ e => by cases e; exact h
theorem heldw_arg {H : Type} {enc : TypeId × Value → H} {P : Program} {w : World} {base : Nat} {t e : TypeId} {k : IntKind} {v : Value} {d : DataW H} {p : List MemPlace} (ht : P.underlying t = some (.slice e)) (he : P.underlying e = some (.int k)) (hc : P.cellsOf e = 1)
    (hv : Value.okWide P w .any base t v) (h : DataW.Trod enc P w 0 (fun _ => true) true t v d p) : ∃ xs, Held k w v xs ∧ CapW v ∧ ∀ n ∈ xs, (Lit.int k n).wf = true := by
  obtain ⟨xs, hh, hw⟩ := held_arg ht he hc hv h
  refine ⟨xs, hh, ?_, hw⟩
  obtain ⟨a0, len, cap, rfl⟩ := okWide_slice ht hv
  obtain ⟨fuel, hf⟩ := h
  rcases open_ints ht he hc hf with ⟨hcs, _⟩ | ⟨a, len', cap', zs, hcs, _, hl, hm, hz, hx, hcell, hwz⟩
  · simp [Value.cells] at hcs
    obtain ⟨rfl, rfl, rfl⟩ := hcs
    exact capW_of (Nat.le_refl _)
  · simp [Value.cells] at hcs
    obtain ⟨rfl, rfl, rfl⟩ := hcs
    simp at hz
    exact capW_of (by omega)
theorem own_capW {w : World} {B e size : Nat} {v : Value} {n : Nat} {xs : List Value} (h : w.ownsRow B e size v n xs) : CapW v := by
  rcases h.2 with ⟨rfl, _⟩ | ⟨g, cap, cur, rfl, _, _, hnc, _⟩
  · exact capW_of (Nat.le_refl _)
  · exact capW_of hnc
set_option maxRecDepth 100000 in
theorem capW_arg {H : Type} {enc : TypeId × Value → H} {W : World} {base : Nat} {v : Value} {d : DataW H} {p : List MemPlace} (hv : Value.okWide Tryz.prog W .any base 28 v) (h : DataW.Trod enc Tryz.prog W 0 (fun _ => true) true 28 v d p) : CapW v := by
  obtain ⟨a0, len, cap, rfl⟩ := okWide_slice Tryz.underlying28 hv
  obtain ⟨fuel, hf⟩ := h
  rcases Deep.open_slice Tryz.underlying28 hf with ⟨hcs, _⟩ | ⟨a, len', cap', m, n, D, Pl, hcs, _, hl, hm, hmm, _, hx⟩
  · simp [Value.cells] at hcs
    obtain ⟨rfl, rfl, rfl⟩ := hcs
    exact capW_of (Nat.le_refl _)
  · simp [Value.cells] at hcs
    obtain ⟨rfl, rfl, rfl⟩ := hcs
    simp at hmm
    exact capW_of (by omega)
end Go.Proofs.YtoeggiplcaegoaaGreatDoor
