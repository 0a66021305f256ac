/- PlaceSound (34.3) answers true at all lines, every call and both marks, and turns nothing. No condition. -/
import Derived.Test.YteinppjklhomnaaDoorMg12
import Derived.Test.YteinppjklhomnaaDoorMg1
import Derived.Test.YteinppjklhomnaaDoorMg8
import Derived.Test.YteinppjklhomnaaDoorMg5
import Derived.Test.YteinppjklhomnaaDoorCellU
import Derived.Test.YteinppjklhomnaaDoorCellS
import Derived.Test.YteinppjklhomnaaDoorMg6
import Derived.Test.YteinppjklhomnaaDoorCards
import Derived.Test.YteinppjklhomnaaDoorTie
import Derived.ProofKit
import Derived.Lib.MinMax
namespace Go.Proofs.YteinppjklhomnaaDoor.lawPlaceSound
open Go.ChangeShapes Go.WideShapes Go.ChangeAt Go.RowKit
theorem paint_part (L p : List Cl) (a : Nat) (h : a + p.length ≤ L.length) : ((paintL L p a).take (a + p.length)).drop a = p := by
  apply List.ext_getElem?
  intro j
  rw [List.getElem?_drop, List.getElem?_take]
  by_cases hj : j < p.length
  · rw [if_pos (by omega)]
    have h1 : (paintL L p a)[a + j]? = some ((paintL L p a).getD (a + j) zc) := by
      rw [List.getElem?_eq_getElem (by rw [paint_len]; omega)]
      simp [List.getD, List.getElem?_eq_getElem (show a + j < (paintL L p a).length by rw [paint_len]; omega)]
    rw [h1, paint_get L p a (a + j) (by omega)]
    unfold paintAt
    rw [if_pos (show inP a p.length (a + j) from ⟨by omega, by omega⟩), show a + j - a = j from by omega]
    simp [List.getD, List.getElem?_eq_getElem hj]
  · rw [if_neg (by omega), List.getElem?_eq_none (by omega)]
theorem put_part (Ls : List Ln) (wd r c : Nat) (pd au : Bool) (n : Int) (xs : List Int) (he : Even Ls wd) (hr : r < Ls.length) (hc : c < wd) : (((plcL Ls wd r c pd au n xs).getD (plcR Ls wd r c pd au n) zl).1.take (plcC wd c pd au n + (ofC (plcK wd n) (plcX wd n xs)).length)).drop (plcC wd c pd au n) = ofC (plcK wd n) (plcX wd n xs) := by
  have h1 := p1_lt pd hr
  have h2 := p2_lt (wd := wd) (k := plcK wd n) (c := p1C c pd) au h1.1
  have h3 := plc_lt pd au n xs hr hc
  have h4 := p2_even (k := plcK wd n) (c := p1C c pd) (p1_even he pd hr) au h1.1
  have hk := plcK_cases wd n
  unfold plcL plcR plcC at *
  unfold pntL
  rw [getD_setI _ _ _ _ _ h2.1, if_pos rfl]
  refine paint_part _ _ _ ?_
  rw [h4.2.2.2.2 _ h2.1, ofC_len]
  split <;> rcases hk with h | h <;> omega
theorem it_notx {w : World} {g : Nat} {a : Int} {o : Option Addr} {n k : Nat} (h : Has w g [.int .i64 a, .slice o n k] 46) : NoTx w g := fun q x e => by
  rw [cell_of_row w g q _ _ (0, 0) h] at e
  match q with
  | 0 => simp at e
  | 1 => simp at e
  | q + 2 => simp at e
set_option maxRecDepth 100000 in
set_option maxHeartbeats 16000000 in
theorem walkH (W : World) (va : Value) (Ls : List Ln) (K N P Q : Int) (S au : Bool) (tv : Value) (T : List Int) (Z Y : Zone) (ha : HeldE lineE Z W va Ls) (htv : HeldE (intE .i32) Y W tv T) : Calls Tryd.prog 4 #[va, .agg #[.int .i64 K, .int .i64 N, tv, .int .i64 P, .int .i64 Q, .bool S], .bool au] W (Yes W) := by
  have hla := ha.max
  have hlt := htv.max
  have ha := ha.lower
  obtain ⟨ao, ca, rfl⟩ := ha.len
  obtain ⟨ta, tc, rfl⟩ := htv.len
  obtain ⟨n, hn⟩ : ∃ n, n = Ls.length := ⟨_, rfl⟩
  obtain ⟨tn, htn⟩ : ∃ tn, tn = T.length := ⟨_, rfl⟩
  have HN := Lib.hid hn
  have HTN := Lib.hid htn
  rw [← hn] at ha hla ⊢
  rw [← htn] at htv hlt ⊢
  have HA := Lib.hid ha
  have HT := Lib.hid htv.lower
  have HWR := Lib.hid (show ∀ w', Below W.heap.size W w' → Calls Tryd.prog 18 #[.slice ao n ca] w' (WrongTold w' Ls) from fun w' h => rlwrong_any _ _ Ls w' (HA.out.below h))
  have hb0 := (Below.refl W.heap.size W).alloc (Nat.le_refl _) (.cells [Value.int .i64 K, .int .i64 N, .slice ta tn tc, .int .i64 P, .int .i64 Q, .bool S].toArray 35)
  have hn0 := Has.new W [Value.int .i64 K, .int .i64 N, .slice ta tn tc, .int .i64 P, .int .i64 Q, .bool S] 35
  obtain ⟨W0, hW0⟩ : ∃ W0, W0 = W.alloc (.cells [Value.int .i64 K, .int .i64 N, .slice ta tn tc, .int .i64 P, .int .i64 Q, .bool S].toArray 35) := ⟨_, rfl⟩
  rw [← hW0] at hb0 hn0
  have hW0' : W0 = W.alloc (.cells #[Value.int .i64 K, .int .i64 N, .slice ta tn tc, .int .i64 P, .int .i64 Q, .bool S] 35) := hW0
  have HB0 := Lib.hid hb0
  have HX0 := Lib.hid hn0
  clear ha htv hn htn hb0 hn0 hW0
  go_enter Tryd.func4, Tryd.ntmps4
  go_upto_region 1 with (fail)
  rw [← hW0']
  clear hW0'
  obtain ⟨Erg, hErg⟩ : ∃ EE : Nat → Value → World → Prop, EE = fun jj xx ww => match jj with
      | 0 => xx = .pointer (some ⟨W.heap.size, 3, none⟩)
      | 1 => xx = .agg #[.int .i64 P, .int .i64 Q, .bool S]
      | 2 => xx = .pointer (some ⟨W.heap.size, 1, none⟩)
      | 3 => xx = .int .i64 N
      | 4 => xx = .pointer (some ⟨W.heap.size, 2, none⟩)
      | 5 => xx = .slice ta tn tc
      | 6 => xx = .agg #[.int .i64 N, .slice ta tn tc]
      | 7 => (fun x w' => True) xx ww
      | 8 => (fun x w' => True) xx ww
      | 9 => xx = undef
      | 10 => xx = undef
      | _ => True := ⟨_, rfl⟩
  have erg0 : ∀ xx ww, Erg 0 xx ww = (xx = .pointer (some ⟨W.heap.size, 3, none⟩)) := fun xx ww => congrFun (congrFun (congrFun hErg 0) xx) ww
  have erg1 : ∀ xx ww, Erg 1 xx ww = (xx = .agg #[.int .i64 P, .int .i64 Q, .bool S]) := fun xx ww => congrFun (congrFun (congrFun hErg 1) xx) ww
  have erg2 : ∀ xx ww, Erg 2 xx ww = (xx = .pointer (some ⟨W.heap.size, 1, none⟩)) := fun xx ww => congrFun (congrFun (congrFun hErg 2) xx) ww
  have erg3 : ∀ xx ww, Erg 3 xx ww = (xx = .int .i64 N) := fun xx ww => congrFun (congrFun (congrFun hErg 3) xx) ww
  have erg4 : ∀ xx ww, Erg 4 xx ww = (xx = .pointer (some ⟨W.heap.size, 2, none⟩)) := fun xx ww => congrFun (congrFun (congrFun hErg 4) xx) ww
  have erg5 : ∀ xx ww, Erg 5 xx ww = (xx = .slice ta tn tc) := fun xx ww => congrFun (congrFun (congrFun hErg 5) xx) ww
  have erg6 : ∀ xx ww, Erg 6 xx ww = (xx = .agg #[.int .i64 N, .slice ta tn tc]) := fun xx ww => congrFun (congrFun (congrFun hErg 6) xx) ww
  have erg7 : ∀ xx ww, Erg 7 xx ww = ((fun x w' => True) xx ww) := fun xx ww => congrFun (congrFun (congrFun hErg 7) xx) ww
  have erg8 : ∀ xx ww, Erg 8 xx ww = ((fun x w' => True) xx ww) := fun xx ww => congrFun (congrFun (congrFun hErg 8) xx) ww
  have erg9 : ∀ xx ww, Erg 9 xx ww = (xx = undef) := fun xx ww => congrFun (congrFun (congrFun hErg 9) xx) ww
  have erg10 : ∀ xx ww, Erg 10 xx ww = (xx = undef) := fun xx ww => congrFun (congrFun (congrFun hErg 10) xx) ww
  obtain ⟨Crg, hCrg⟩ : ∃ CC : Array Bool → Value → Value → World → Prop, CC = fun L8 x y w' => Below W0.heap.size W0 w' ∧ (Mix.one L8 7 = 1 → ∃ g, x = .pointer (some ⟨g, 0, none⟩) ∧ W0.heap.size ≤ g ∧ (Mix.one L8 9 = 0 → Has w' g [.int .i64 0, .int .i64 0, .bool false] 29) ∧ (Mix.one L8 9 = 1 → Has w' g [.int .i64 P, .int .i64 Q, .bool S] 29)) ∧ (Mix.one L8 8 = 1 → ∃ g, y = .pointer (some ⟨g, 0, none⟩) ∧ W0.heap.size ≤ g ∧ (Mix.one L8 10 = 0 → Has w' g [.int .i64 0, .slice none 0 0] 46) ∧ (Mix.one L8 10 = 1 → Has w' g [.int .i64 N, .slice ta tn tc] 46)) := ⟨_, rfl⟩
  have krg : ∀ i L {x y : Value} w, i ≠ 7 → i ≠ 8 → i ≠ 9 → i ≠ 10 →  Crg L x y w → Crg (L.setIfInBounds i true) x y w := by
    intro i L x y w q7 q8 q9 q10 h
    rw [hCrg] at h ⊢
    simp only [Mix.one_ne q7, Mix.one_ne q8, Mix.one_ne q9, Mix.one_ne q10]; exact h
  obtain ⟨Xrg, hXrg⟩ : ∃ XX : World → World → Prop, XX = fun _ _ => True := ⟨_, rfl⟩
  have xrg : ∀ w, Xrg w w := fun w => by rw [hXrg]; exact trivial
  have strg : ∀ j x w w1, Xrg w w1 → Erg j x w → Erg j x w1 := by
    intro j x w w1 hx h
    rw [hXrg] at hx
    match j with
    | 0 => rw [erg0] at h ⊢; exact h
    | 1 => rw [erg1] at h ⊢; exact h
    | 2 => rw [erg2] at h ⊢; exact h
    | 3 => rw [erg3] at h ⊢; exact h
    | 4 => rw [erg4] at h ⊢; exact h
    | 5 => rw [erg5] at h ⊢; exact h
    | 6 => rw [erg6] at h ⊢; exact h
    | 7 => rw [erg7] at h ⊢; (exact h)
    | 8 => rw [erg8] at h ⊢; (exact h)
    | 9 => rw [erg9] at h ⊢; exact h
    | 10 => rw [erg10] at h ⊢; exact h
    | j + 11 => rw [hErg]; trivial
  have crg : ∀ x y, Crg (Array.replicate 11 false) x y W0.drew := fun x y => by rw [hCrg]; exact ⟨(Below.refl _ _).drew, fun e => absurd e (by decide), fun e => absurd e (by decide)⟩
  have brg : ∀ L {x y : Value} w w1, Crg L x y w → Below w.heap.size w w1 → Crg L x y w1 := by
    intro L x y w w1 h hb
    rw [hCrg] at h ⊢
    (obtain ⟨q1, q2, q3⟩ := h; exact ⟨q1.trans (hb.mono q1.size), fun e => by obtain ⟨g, e1, e2, e3, e4⟩ := q2 e; exact ⟨g, e1, e2, fun f => (e3 f).below hb (e3 f).lt, fun f => (e4 f).below hb (e4 f).lt⟩, fun e => by obtain ⟨g, e1, e2, e3, e4⟩ := q3 e; exact ⟨g, e1, e2, fun f => (e3 f).below hb (e3 f).lt, fun f => (e4 f).below hb (e4 f).lt⟩⟩)
  have xbrg : ∀ w w1, Below w.heap.size w w1 → Xrg w w1 := by
    intro w w1 hb
    rw [hXrg]
    trivial
  have Hrgb : Go.RowKit.Hid (∀ L {x y : Value} w w1, Crg L x y w → Below w.heap.size w w1 → Crg L x y w1) := @brg
  have Hrgxb := Lib.hid xbrg
  clear brg xbrg
  clear hErg
  have Hrgk : Go.RowKit.Hid (∀ i L {x y : Value} w, i ≠ 7 → i ≠ 8 → i ≠ 9 → i ≠ 10 →  Crg L x y w → Crg (L.setIfInBounds i true) x y w) := @krg
  have Hrgx := Lib.hid xrg
  have Hrgst := Lib.hid strg
  have Hrgc := Lib.hid crg
  have HrghC := Lib.hid hCrg
  have HrghX := Lib.hid hXrg
  have Hrge0 := Lib.hid erg0
  have Hrge1 := Lib.hid erg1
  have Hrge2 := Lib.hid erg2
  have Hrge3 := Lib.hid erg3
  have Hrge4 := Lib.hid erg4
  have Hrge5 := Lib.hid erg5
  have Hrge6 := Lib.hid erg6
  have Hrge7 := Lib.hid erg7
  have Hrge8 := Lib.hid erg8
  have Hrge9 := Lib.hid erg9
  have Hrge10 := Lib.hid erg10
  clear krg xrg strg crg hCrg hXrg erg0 erg1 erg2 erg3 erg4 erg5 erg6 erg7 erg8 erg9 erg10
  go_wp2_with fail
  refine RegC.regionF2 7 8 Erg Crg Xrg Hrgst.out (by kernel_rfl) (by kernel_rfl) (by kernel_rfl) Hrgc.out (fun Frg hFrg => ?_)
  simp only [Reg.frame, Reg.dsts, List.map_cons, List.map_nil, Mix.put_lit, Reg.put_none, List.set_cons_succ, List.set_cons_zero, Nat.zero_add, Nat.reduceAdd] at hFrg
  refine ⟨?_, ?_⟩
  · refine ⟨?_, ?_, ?_, ?_, ?_, ?_, ?_, ?_, ?_, ?_, ?_, trivial⟩
    · intro Lq wq xq hh
      simp only [hFrg]
      refine .inl ⟨rfl, ?_⟩
      unfold Reg.upon
      have hk := Hrgk.out 0 Lq wq (by decide) (by decide) (by decide) (by decide)  hh.cls
      have hx := Hrgx.out wq
      have he : Erg 0 (.pointer (some ⟨W.heap.size, 3, none⟩)) wq := by rw [Hrge0.out]
      have HK := Lib.hid (And.intro hk (And.intro he hx))
      clear hk hx he
      go_simp
      exact HK.out
    · intro Lq wq xq hh
      have d0 : Erg 0 (xq 0) wq := hh.val 0 (by kernel_rfl) (by kernel_rfl)
      rw [Hrge0.out] at d0
      simp only [hFrg, d0]
      clear d0
      refine .inl ⟨rfl, ?_⟩
      unfold Reg.upon
      have hc : Crg Lq (xq 7) (xq 8) wq := hh.cls
      rw [HrghC.out] at hc
      have hx := HX0.out.below hc.1 HX0.out.lt
      have y3 := hx.cell 3 _ rfl
      have y4 := hx.cell 4 _ rfl
      have y5 := hx.cell 5 _ rfl
      clear hc
      have hk := Hrgk.out 1 Lq wq (by decide) (by decide) (by decide) (by decide)  hh.cls
      have hx := Hrgx.out wq
      have he : Erg 1 (.agg #[.int .i64 P, .int .i64 Q, .bool S]) wq := by rw [Hrge1.out]
      have HK := Lib.hid (And.intro hk (And.intro he hx))
      clear hk hx he
      go_simp
      exact HK.out
    · intro Lq wq xq hh
      simp only [hFrg]
      refine .inl ⟨rfl, ?_⟩
      unfold Reg.upon
      have hk := Hrgk.out 2 Lq wq (by decide) (by decide) (by decide) (by decide)  hh.cls
      have hx := Hrgx.out wq
      have he : Erg 2 (.pointer (some ⟨W.heap.size, 1, none⟩)) wq := by rw [Hrge2.out]
      have HK := Lib.hid (And.intro hk (And.intro he hx))
      clear hk hx he
      go_simp
      exact HK.out
    · intro Lq wq xq hh
      have d2 : Erg 2 (xq 2) wq := hh.val 2 (by kernel_rfl) (by kernel_rfl)
      rw [Hrge2.out] at d2
      simp only [hFrg, d2]
      clear d2
      refine .inl ⟨rfl, ?_⟩
      unfold Reg.upon
      have hc : Crg Lq (xq 7) (xq 8) wq := hh.cls
      rw [HrghC.out] at hc
      have hx := HX0.out.below hc.1 HX0.out.lt
      have y1 := hx.cell 1 _ rfl
      clear hc
      have hk := Hrgk.out 3 Lq wq (by decide) (by decide) (by decide) (by decide)  hh.cls
      have hx := Hrgx.out wq
      have he : Erg 3 (.int .i64 N) wq := by rw [Hrge3.out]
      have HK := Lib.hid (And.intro hk (And.intro he hx))
      clear hk hx he
      go_simp
      exact HK.out
    · intro Lq wq xq hh
      simp only [hFrg]
      refine .inl ⟨rfl, ?_⟩
      unfold Reg.upon
      have hk := Hrgk.out 4 Lq wq (by decide) (by decide) (by decide) (by decide)  hh.cls
      have hx := Hrgx.out wq
      have he : Erg 4 (.pointer (some ⟨W.heap.size, 2, none⟩)) wq := by rw [Hrge4.out]
      have HK := Lib.hid (And.intro hk (And.intro he hx))
      clear hk hx he
      go_simp
      exact HK.out
    · intro Lq wq xq hh
      have d4 : Erg 4 (xq 4) wq := hh.val 4 (by kernel_rfl) (by kernel_rfl)
      rw [Hrge4.out] at d4
      simp only [hFrg, d4]
      clear d4
      refine .inl ⟨rfl, ?_⟩
      unfold Reg.upon
      have hc : Crg Lq (xq 7) (xq 8) wq := hh.cls
      rw [HrghC.out] at hc
      have hx := HX0.out.below hc.1 HX0.out.lt
      have y2 := hx.cell 2 _ rfl
      clear hc
      have hk := Hrgk.out 5 Lq wq (by decide) (by decide) (by decide) (by decide)  hh.cls
      have hx := Hrgx.out wq
      have he : Erg 5 (.slice ta tn tc) wq := by rw [Hrge5.out]
      have HK := Lib.hid (And.intro hk (And.intro he hx))
      clear hk hx he
      go_simp
      exact HK.out
    · intro Lq wq xq hh
      have d3 : Erg 3 (xq 3) wq := hh.val 3 (by kernel_rfl) (by kernel_rfl)
      rw [Hrge3.out] at d3
      have d5 : Erg 5 (xq 5) wq := hh.val 5 (by kernel_rfl) (by kernel_rfl)
      rw [Hrge5.out] at d5
      simp only [hFrg, d3, d5]
      clear d3 d5
      refine .inl ⟨rfl, ?_⟩
      unfold Reg.upon
      have hk := Hrgk.out 6 Lq wq (by decide) (by decide) (by decide) (by decide)  hh.cls
      have hx := Hrgx.out wq
      have he : Erg 6 (.agg #[.int .i64 N, .slice ta tn tc]) wq := by rw [Hrge6.out]
      have HK := Lib.hid (And.intro hk (And.intro he hx))
      clear hk hx he
      go_simp
      exact HK.out
    · intro Lq wq xq hh
      simp only [hFrg]
      refine .inl ⟨rfl, ?_⟩
      unfold Reg.upon
      have hc : Crg Lq (xq 7) (xq 8) wq := hh.cls
      rw [HrghC.out] at hc
      have hn := Has.new wq [.int .i64 0, .int .i64 0, .bool false] 29
      have hb := (Below.refl wq.heap.size wq).alloc (Nat.le_refl _) (.cells [Value.int .i64 0, .int .i64 0, .bool false].toArray 29)
      have hF : Crg (Lq.setIfInBounds 7 true) (.pointer (some ⟨wq.heap.size, 0, none⟩)) (xq 8) (wq.alloc (.cells [Value.int .i64 0, .int .i64 0, .bool false].toArray 29)) := by
        rw [HrghC.out]
        obtain ⟨q1, q2, q3⟩ := hc
        refine ⟨q1.trans (hb.mono q1.size), ?_, ?_⟩
        · exact fun _ => ⟨_, rfl, q1.size, fun _ => hn, fun e => by rw [Mix.one_ne (by decide), Mix.one_un (hh.notYet 9 (by kernel_rfl))] at e; exact absurd e (by decide)⟩
        · exact fun e => by rw [Mix.one_ne (by decide)] at e; obtain ⟨g, e1, e2, e3, e4⟩ := q3 e; exact ⟨g, e1, e2, fun f => (e3 (by rw [Mix.one_ne (by decide)] at f; exact f)).below hb (e3 (by rw [Mix.one_ne (by decide)] at f; exact f)).lt, fun f => (e4 (by rw [Mix.one_ne (by decide)] at f; exact f)).below hb (e4 (by rw [Mix.one_ne (by decide)] at f; exact f)).lt⟩
      have hE : Erg 7 (.pointer (some ⟨wq.heap.size, 0, none⟩)) (wq.alloc (.cells [Value.int .i64 0, .int .i64 0, .bool false].toArray 29)) := by rw [Hrge7.out]; trivial
      have hX : Xrg wq (wq.alloc (.cells [Value.int .i64 0, .int .i64 0, .bool false].toArray 29)) := by rw [HrghX.out]; trivial
      go_simp
      exact ⟨hF, hE, hX⟩
    · intro Lq wq xq hh
      simp only [hFrg]
      refine .inl ⟨rfl, ?_⟩
      unfold Reg.upon
      have hc : Crg Lq (xq 7) (xq 8) wq := hh.cls
      rw [HrghC.out] at hc
      have hn := Has.new wq [.int .i64 0, .slice none 0 0] 46
      have hb := (Below.refl wq.heap.size wq).alloc (Nat.le_refl _) (.cells [Value.int .i64 0, .slice none 0 0].toArray 46)
      have hF : Crg (Lq.setIfInBounds 8 true) (xq 7) (.pointer (some ⟨wq.heap.size, 0, none⟩)) (wq.alloc (.cells [Value.int .i64 0, .slice none 0 0].toArray 46)) := by
        rw [HrghC.out]
        obtain ⟨q1, q2, q3⟩ := hc
        refine ⟨q1.trans (hb.mono q1.size), ?_, ?_⟩
        · exact fun e => by rw [Mix.one_ne (by decide)] at e; obtain ⟨g, e1, e2, e3, e4⟩ := q2 e; exact ⟨g, e1, e2, fun f => (e3 (by rw [Mix.one_ne (by decide)] at f; exact f)).below hb (e3 (by rw [Mix.one_ne (by decide)] at f; exact f)).lt, fun f => (e4 (by rw [Mix.one_ne (by decide)] at f; exact f)).below hb (e4 (by rw [Mix.one_ne (by decide)] at f; exact f)).lt⟩
        · exact fun _ => ⟨_, rfl, q1.size, fun _ => hn, fun e => by rw [Mix.one_ne (by decide), Mix.one_un (hh.notYet 10 (by kernel_rfl))] at e; exact absurd e (by decide)⟩
      have hE : Erg 8 (.pointer (some ⟨wq.heap.size, 0, none⟩)) (wq.alloc (.cells [Value.int .i64 0, .slice none 0 0].toArray 46)) := by rw [Hrge8.out]; trivial
      have hX : Xrg wq (wq.alloc (.cells [Value.int .i64 0, .slice none 0 0].toArray 46)) := by rw [HrghX.out]; trivial
      go_simp
      exact ⟨hF, hE, hX⟩
    · intro Lq wq xq hh
      have d1 : Erg 1 (xq 1) wq := hh.val 1 (by kernel_rfl) (by kernel_rfl)
      rw [Hrge1.out] at d1
      have d7 : Erg 7 (xq 7) wq := hh.val 7 (by kernel_rfl) (by kernel_rfl)
      rw [Hrge7.out] at d7
      simp only [hFrg, d1]
      clear d1
      refine .inl ⟨rfl, ?_⟩
      unfold Reg.upon
      have hc : Crg Lq (xq 7) (xq 8) wq := hh.cls
      rw [HrghC.out] at hc
      obtain ⟨q1, q2, q3⟩ := hc
      obtain ⟨g, e1, e2, e3, e4⟩ := q2 (hh.isDone 7 (by kernel_rfl))
      have hz := e3 hh.un
      have y0 := hz.cell 0 _ rfl
      have s0 := hz.free 0
      have y1 := hz.cell 1 _ rfl
      have s1 := hz.free 1
      have y2 := hz.cell 2 _ rfl
      have s2 := hz.free 2
      have hu := (((Upd.refl (fun b => b = g) wq).setCell (p := ⟨g, 0, none⟩) (.inl rfl) (.int .i64 P)).setCell (p := ⟨g, 1, none⟩) (.inl rfl) (.int .i64 Q)).setCell (p := ⟨g, 2, none⟩) (.inl rfl) (.bool S)
      have hF : Crg (Lq.setIfInBounds 9 true) (xq 7) (xq 8) (((wq.setCell ⟨g, 0, none⟩ (.int .i64 P)).setCell ⟨g, 1, none⟩ (.int .i64 Q)).setCell ⟨g, 2, none⟩ (.bool S)) := by
        rw [HrghC.out]
        exact ⟨q1.trans (hu.below q1.size fun b e => by omega), fun _ => ⟨g, e1, e2, fun e => (by rw [Mix.one_set (by rw [hh.size]; decide)] at e; exact absurd e (by decide)), fun _ => ((hz.set 0 _).set 1 _).set 2 _⟩, fun e => by rw [Mix.one_ne (by decide)] at e; obtain ⟨g2, d1, d2, d3, d4⟩ := q3 e; exact ⟨g2, d1, d2, fun f => hu.keep.has (d3 (by rw [Mix.one_ne (by decide)] at f; exact f)) (fun e9 => by have h9 := d3 (by rw [Mix.one_ne (by decide)] at f; exact f); subst e9; exact other_type h9 hz (by decide)), fun f => hu.keep.has (d4 (by rw [Mix.one_ne (by decide)] at f; exact f)) (fun e9 => by have h9 := d4 (by rw [Mix.one_ne (by decide)] at f; exact f); subst e9; exact other_type h9 hz (by decide))⟩⟩
      have hE : Erg 9 undef (((wq.setCell ⟨g, 0, none⟩ (.int .i64 P)).setCell ⟨g, 1, none⟩ (.int .i64 Q)).setCell ⟨g, 2, none⟩ (.bool S)) := by rw [Hrge9.out]
      have hX : Xrg wq (((wq.setCell ⟨g, 0, none⟩ (.int .i64 P)).setCell ⟨g, 1, none⟩ (.int .i64 Q)).setCell ⟨g, 2, none⟩ (.bool S)) := by rw [HrghX.out]; trivial
      rw [e1]
      clear q1 q2 q3 e3 e4 hz hu
      go_simp
      exact ⟨hF, hE, hX⟩
    · intro Lq wq xq hh
      have d6 : Erg 6 (xq 6) wq := hh.val 6 (by kernel_rfl) (by kernel_rfl)
      rw [Hrge6.out] at d6
      have d8 : Erg 8 (xq 8) wq := hh.val 8 (by kernel_rfl) (by kernel_rfl)
      rw [Hrge8.out] at d8
      simp only [hFrg, d6]
      clear d6
      refine .inl ⟨rfl, ?_⟩
      unfold Reg.upon
      have hc : Crg Lq (xq 7) (xq 8) wq := hh.cls
      rw [HrghC.out] at hc
      obtain ⟨q1, q2, q3⟩ := hc
      obtain ⟨g, e1, e2, e3, e4⟩ := q3 (hh.isDone 8 (by kernel_rfl))
      have hz := e3 hh.un
      have y0 := hz.cell 0 _ rfl
      have s0 := hz.free 0
      have y1 := hz.cell 1 _ rfl
      have s1 := hz.free 1
      have hu := ((Upd.refl (fun b => b = g) wq).setCell (p := ⟨g, 0, none⟩) (.inl rfl) (.int .i64 N)).setCell (p := ⟨g, 1, none⟩) (.inl rfl) (.slice ta tn tc)
      have hF : Crg (Lq.setIfInBounds 10 true) (xq 7) (xq 8) ((wq.setCell ⟨g, 0, none⟩ (.int .i64 N)).setCell ⟨g, 1, none⟩ (.slice ta tn tc)) := by
        rw [HrghC.out]
        exact ⟨q1.trans (hu.below q1.size fun b e => by omega), fun e => by rw [Mix.one_ne (by decide)] at e; obtain ⟨g2, d1, d2, d3, d4⟩ := q2 e; exact ⟨g2, d1, d2, fun f => hu.keep.has (d3 (by rw [Mix.one_ne (by decide)] at f; exact f)) (fun e9 => by have h9 := d3 (by rw [Mix.one_ne (by decide)] at f; exact f); subst e9; exact other_type h9 hz (by decide)), fun f => hu.keep.has (d4 (by rw [Mix.one_ne (by decide)] at f; exact f)) (fun e9 => by have h9 := d4 (by rw [Mix.one_ne (by decide)] at f; exact f); subst e9; exact other_type h9 hz (by decide))⟩, fun _ => ⟨g, e1, e2, fun e => (by rw [Mix.one_set (by rw [hh.size]; decide)] at e; exact absurd e (by decide)), fun _ => (hz.set 0 _).set 1 _⟩⟩
      have hE : Erg 10 undef ((wq.setCell ⟨g, 0, none⟩ (.int .i64 N)).setCell ⟨g, 1, none⟩ (.slice ta tn tc)) := by rw [Hrge10.out]
      have hX : Xrg wq ((wq.setCell ⟨g, 0, none⟩ (.int .i64 N)).setCell ⟨g, 1, none⟩ (.slice ta tn tc)) := by rw [HrghX.out]; trivial
      rw [e1]
      clear q1 q2 q3 e3 e4 hz hu
      go_simp
      exact ⟨hF, hE, hX⟩
  intro xq wrg hcrg hvrg
  rw [HrghC.out] at hcrg
  simp only [hFrg]
  have vrg7 : Erg 7 (xq 7) wrg := hvrg 7 (by decide)
  rw [Hrge7.out] at vrg7
  have vrg8 : Erg 8 (xq 8) wrg := hvrg 8 (by decide)
  rw [Hrge8.out] at vrg8
  clear hvrg hFrg Hrgk Hrgx Hrgst Hrgc HrghC HrghX Hrgb Hrgxb Hrge0 Hrge1 Hrge2 Hrge3 Hrge4 Hrge5 Hrge6 Hrge7 Hrge8 Hrge9 Hrge10
  obtain ⟨hbw, h7, h8⟩ := hcrg
  obtain ⟨g7, e7, hg7, _, h7⟩ := h7 (by kernel_rfl)
  obtain ⟨g8, e8, hg8, _, h8⟩ := h8 (by kernel_rfl)
  have H7 := Lib.hid (h7 (by kernel_rfl))
  have H8 := Lib.hid (h8 (by kernel_rfl))
  have HG7 := Lib.hid (show W.heap.size ≤ g7 from Nat.le_trans HB0.out.size hg7)
  have HG8 := Lib.hid (show W.heap.size ≤ g8 from Nat.le_trans HB0.out.size hg8)
  have B1 := Lib.hid (HB0.out.trans (hbw.mono HB0.out.size))
  rw [e7, e8]
  clear h7 h8 hbw e7 e8 hg7 hg8 vrg7 vrg8
  go_wp2_with fail
  refine (HWR.out wrg B1.out).mono ?_
  rintro e w0 hq
  obtain ⟨at_, acc, rfl, hat, b0⟩ := hq.say
  clear hq
  have HA0 := Lib.hid hat
  have B2 := Lib.hid (B1.out.trans (b0.mono B1.out.size))
  have H70 := Lib.hid (H7.out.below b0 H7.out.lt)
  have H80 := Lib.hid (H8.out.below b0 H8.out.lt)
  clear b0 hat H7 H8 B1
  go_wp2_with fail
  refine (works34_any _).mono ?_
  rintro e w2 ⟨rfl, b2⟩
  have B3 := Lib.hid (B2.out.trans (b2.mono B2.out.size))
  have H7 := Lib.hid (H70.out.below b2 H70.out.lt)
  have H8 := Lib.hid (H80.out.below b2 H80.out.lt)
  have d1 := H8.out.cell 1 _ rfl
  clear b2 H70 H80 B2
  by_cases h1 : 20 < n
  · have hd : decide ((20 : Int) < n) = true := by rw [decide_eq_true_eq]; omega
    have hdn : decide (20 < n) = true := by rw [decide_eq_true_eq]; omega
    go_wp2_with fail
    refine (works34_any _).mono ?_
    rintro e w3 ⟨rfl, b3⟩
    have BB := B3.out.trans (b3.mono B3.out.size)
    go_wp2
    go_ret
    exact ⟨(ret_eq (by first | rfl | (simp <;> omega))), BB⟩

  have hd20 : decide ((20 : Int) < n) = false := by rw [decide_eq_false_iff_not]; omega
  have hd20n : decide (20 < n) = false := by rw [decide_eq_false_iff_not]; omega
  by_cases h0 : n = 0
  · have hz : ((n : Int) == 0) = true := by rw [beq_iff_eq]; omega
    clear h0 h1
    go_wp2_with fail
    refine (works34_any _).mono ?_
    rintro e w3 ⟨rfl, b3⟩
    have BB := B3.out.trans (b3.mono B3.out.size)
    go_wp2
    go_ret
    exact ⟨(ret_eq (by first | rfl | (simp <;> omega))), BB⟩

  have hz : ((n : Int) == 0) = false := by rw [beq_eq_false_iff_ne]; omega
  by_cases hall : AllGood Ls
  rotate_left
  · have hge : decide ((0 : Int) ≤ at_) = true := by rw [decide_eq_true_eq]; rcases HA0.out with h | h; exact absurd h.1 hall; exact h.1
    go_wp2_with fail
    refine (works34_any _).mono ?_
    rintro e w3 ⟨rfl, b3⟩
    have BB := B3.out.trans (b3.mono B3.out.size)
    go_wp2
    go_ret
    exact ⟨(ret_eq (by first | rfl | (simp <;> omega))), BB⟩

  obtain rfl : at_ = -1 := by rcases HA0.out with h | h; exact h.2; exact absurd hall h.2
  have HALL := Lib.hid hall
  by_cases ht0 : tn = 0
  · have hzt : ((tn : Int) == 0) = true := by rw [beq_iff_eq]; omega
    clear ht0
    go_wp2_with fail
    refine (works34_any _).mono ?_
    rintro e w3 ⟨rfl, b3⟩
    have BB := B3.out.trans (b3.mono B3.out.size)
    go_wp2
    go_ret
    exact ⟨(ret_eq (by first | rfl | (simp <;> omega))), BB⟩

  have hzt : ((tn : Int) == 0) = false := by rw [beq_eq_false_iff_ne]; omega
  by_cases ht1 : 100 < tn
  · have hd : decide ((100 : Int) < tn) = true := by rw [decide_eq_true_eq]; omega
    have hdn : decide (100 < tn) = true := by rw [decide_eq_true_eq]; omega
    go_wp2_with fail
    refine (works34_any _).mono ?_
    rintro e w3 ⟨rfl, b3⟩
    have BB := B3.out.trans (b3.mono B3.out.size)
    go_wp2
    go_ret
    exact ⟨(ret_eq (by first | rfl | (simp <;> omega))), BB⟩

  have hd100 : decide ((100 : Int) < tn) = false := by rw [decide_eq_false_iff_not]; omega
  have hd100n : decide (100 < tn) = false := by rw [decide_eq_false_iff_not]; omega
  have hg := gof_good _ _ Ls w2 HALL.out (HA.out.below B3.out) (by rw [← HN.out]; omega) (by rw [← HN.out]; omega)
  have HG := Lib.hid hg
  clear hall hg HA0 HWR
  go_wp2_with fail
  refine HG.out.mono ?_
  rintro e w3 ⟨gg, gr, Rs, rfl, hg3, hm3, b3⟩
  have hb4 := (Below.refl w3.heap.size w3).alloc (Nat.le_refl _) (.cells [Value.pointer (some ⟨gg, 0, none⟩), .int .i64 P, .int .i64 Q, .bool S, .bool au].toArray 42)
  have hn4 := Has.new w3 [Value.pointer (some ⟨gg, 0, none⟩), .int .i64 P, .int .i64 Q, .bool S, .bool au] 42
  obtain ⟨W4, hW4⟩ : ∃ W4, W4 = w3.alloc (.cells [Value.pointer (some ⟨gg, 0, none⟩), .int .i64 P, .int .i64 Q, .bool S, .bool au].toArray 42) := ⟨_, rfl⟩
  rw [← hW4] at hb4 hn4
  obtain ⟨gp, hgp⟩ : ∃ gp, gp = w3.heap.size := ⟨_, rfl⟩
  rw [← hgp] at hn4
  obtain ⟨wd, hwd⟩ : ∃ wd, wd = firstN Ls := ⟨_, rfl⟩
  rw [← hwd] at hg3
  obtain ⟨BP, hBP⟩ : ∃ BP, BP = w2.heap.size := ⟨_, rfl⟩
  have hpa : PenAt W4 BP gp gg gr wd Rs Ls P Q S au := ⟨hn4, by rw [hBP, hgp]; exact b3.size, by rw [hBP]; exact hg3.below hb4, hm3⟩
  have HW4 := Lib.hid (show W4 = w3.alloc (.cells #[Value.pointer (some ⟨gg, 0, none⟩), .int .i64 P, .int .i64 Q, .bool S, .bool au] 42) from hW4)
  have HGP := Lib.hid hgp
  have HP4 := Lib.hid hpa
  have HBP := Lib.hid (show W.heap.size ≤ BP from by rw [hBP]; exact B3.out.size)
  have H84 := Lib.hid ((H8.out.below b3 H8.out.lt).below hb4 (Nat.lt_of_lt_of_le H8.out.lt b3.size))
  have B4 := Lib.hid ((B3.out.trans (b3.mono B3.out.size)).trans (hb4.mono (Nat.le_trans B3.out.size b3.size)))
  have h73 := H7.out.below b3 H7.out.lt
  have z0 := h73.cell 0 _ rfl
  have z1 := h73.cell 1 _ rfl
  have z2 := h73.cell 2 _ rfl
  have hev : Even Ls wd := by
    have hs := hpa.sizes
    exact ⟨hs.1, by rw [← HN.out]; omega, hs.2.2.1, hs.2.2.2.1, hs.2.2.2.2.2⟩
  obtain ⟨r2, hr2, hlr⟩ := in_nat P hev.1 (by have := hev.2.1; omega)
  obtain ⟨c2, hc2, hlc⟩ := in_nat Q hev.2.2.1 hev.2.2.2.1
  obtain ⟨pd2, hpd2⟩ : ∃ pd2, holdP Q S wd = pd2 := ⟨_, rfl⟩
  have hpu := pput_any BP gp gg gr wd Rs Ls P Q S au N (.slice ta tn tc) T W4 hpa ((HT.out.below B4.out).zone (fun x _ hx e => by have := pz_ge hpa (Nat.le_trans hpa.2.1 (Nat.le_of_lt hpa.lt)) x e; have := HBP.out; omega)) r2 c2 pd2 hr2 hc2 hpd2 hlr hlc
  have HPT := Lib.hid (plc_lt (Ls := Ls) pd2 au N T hlr hlc)
  have HPP := Lib.hid (put_part Ls wd r2 c2 pd2 au N T hev hlr hlc)
  have HPE := Lib.hid (plc_even (c := c2) hev pd2 au N T hlr)
  have HPK := Lib.hid (plcK_cases wd N)
  obtain ⟨LP, hLP⟩ : ∃ LP, LP = plcL Ls wd r2 c2 pd2 au N T := ⟨_, rfl⟩
  obtain ⟨rr, hrr⟩ : ∃ rr, rr = plcR Ls wd r2 c2 pd2 au N := ⟨_, rfl⟩
  obtain ⟨cc, hcc⟩ : ∃ cc, cc = plcC wd c2 pd2 au N := ⟨_, rfl⟩
  rw [← hLP, ← hrr, ← hcc] at hpu HPP
  rw [← hrr, ← hcc, ← hLP] at HPT
  rw [← hLP] at HPE
  obtain ⟨ac, hac⟩ : ∃ ac, ac = aftC (cc : Int) (plcK wd N) wd := ⟨_, rfl⟩
  obtain ⟨ap, hap⟩ : ∃ ap, ap = aftP (cc : Int) (plcK wd N) wd au := ⟨_, rfl⟩
  rw [← hac, ← hap] at hpu
  obtain ⟨hh, hhe⟩ : ∃ hh, hh = LP.length := ⟨_, rfl⟩
  have HRT := Lib.hid (show curRightB rr ac ap wd hh = true ∧ curRightB rr cc false wd hh = true from by
    have hs := HPE.out
    have hsw : sideI (wd : Int) = (wd : Int) := by unfold sideI; have := hs.2.2.1; have := hs.2.2.2.1; omega
    have hsh : sideI (hh : Int) = (hh : Int) := by unfold sideI; have := hs.1; have := hs.2.1; omega
    have hp := HPT.out
    have hk := HPK.out
    refine ⟨(right_iff _ _ _ _ _).2 ?_, (right_iff _ _ _ _ _).2 ?_⟩
    · rw [hsw, hsh, hac, hap]
      unfold aftC aftP stepI
      rw [hsw]
      refine ⟨by omega, by omega, ?_, ?_, fun e => ?_⟩
      · split <;> split <;> omega
      · split <;> split <;> rcases hk with h | h <;> omega
      · generalize (if 1 < plcK wd N then (2 : Int) else 1) = s at e ⊢
        by_cases h9 : (cc : Int) < (wd : Int) - s
        · rw [if_pos h9] at e; cases e
        · rw [if_neg h9]
    · rw [hsw, hsh]
      exact ⟨by omega, by omega, by omega, by omega, fun e => by cases e⟩)
  have HHE := Lib.hid hhe
  have HPU := Lib.hid hpu
  clear hpu hLP hrr hcc hac hap hhe hr2 hc2 hpd2 hlr hlc hev hpa hW4 hgp hwd hBP hb4 hn4 hg3 hm3 b3 h73 HG
  go_upto_region 9 with (fail)
  rw [← HW4.out]
  rw [← HGP.out]
  clear z0 z1 z2 d1
  have y0 := H84.out.cell 0 _ rfl
  have y1 := H84.out.cell 1 _ rfl
  go_wp2_with fail
  refine HPU.out.mono ?_
  rintro e w5 ⟨rfl, k5⟩
  have hBle := Nat.le_trans HP4.out.2.1 (Nat.le_of_lt HP4.out.lt)
  obtain ⟨R5, h5, u5, _⟩ := k5
  have h85 := u5.keep.has H84.out (has_off HP4.out H84.out (by decide) (by decide) (by decide) (by decide) (by decide))
  have hb6 := (Below.refl w5.heap.size w5).alloc (Nat.le_refl _) (.cells [Value.int .i64 rr, .int .i64 cc, .bool false].toArray 29)
  have hn6 := Has.new w5 [Value.int .i64 rr, .int .i64 cc, .bool false] 29
  obtain ⟨W6, hW6⟩ : ∃ W6, W6 = w5.alloc (.cells [Value.int .i64 rr, .int .i64 cc, .bool false].toArray 29) := ⟨_, rfl⟩
  rw [← hW6] at hb6 hn6
  obtain ⟨g14, hg14⟩ : ∃ g14, g14 = w5.heap.size := ⟨_, rfl⟩
  rw [← hg14] at hn6
  have HW6 := Lib.hid (show W6 = w5.alloc (.cells #[Value.int .i64 rr, .int .i64 cc, .bool false] 29) from hW6)
  have HG14 := Lib.hid hg14
  have H6 := Lib.hid (h5.below hb6)
  have H86 := Lib.hid (h85.below hb6 h85.lt)
  have H146 := Lib.hid hn6
  have hT5 := ((HT.out.below B4.out).upd u5 (fun x hx e => by have := pz_ge HP4.out hBle x e; have := HBP.out; omega)).below hb6
  have HT6 := Lib.hid hT5
  have B6 := Lib.hid ((B4.out.trans (u5.below B4.out.size (fun x e => Nat.le_trans HBP.out (pz_ge HP4.out hBle x e)))).trans (hb6.mono (Nat.le_trans B4.out.size u5.size)))
  clear h5 u5 h85 hb6 hn6 hW6 hg14 hT5 hBle y0 y1 HPU
  go_upto_region 10 with (fail)
  rw [← HW6.out]
  rw [← HG14.out]
  go_wp2_with fail
  refine (gwide_any BP gg gr wd R5 W6 H6.out.2.2.1).mono ?_
  rintro e w7 ⟨rfl, rfl⟩
  have hhi := ghigh_any BP gg gr wd R5 W6 H6.out.2.2.1
  rw [H6.out.sizes.2.2.2.2.1, ← HHE.out] at hhi
  go_wp2_with fail
  refine hhi.mono ?_
  rintro e w7 ⟨rfl, rfl⟩
  have q1 := H6.out.1.cell 1 _ rfl
  have q2 := H6.out.1.cell 2 _ rfl
  have q3 := H6.out.1.cell 3 _ rfl
  have hri := cright_any rr ac ap wd hh W6
  rw [HRT.out.1] at hri
  go_wp2_with fail
  refine hri.mono ?_
  rintro e w7 ⟨rfl, b7⟩
  have H67 := Lib.hid (H6.out.below b7)
  have H87 := Lib.hid (H86.out.below b7 H86.out.lt)
  have H147 := Lib.hid (H146.out.below b7 H146.out.lt)
  have HT7 := Lib.hid (HT6.out.below b7)
  have B7 := Lib.hid (B6.out.trans (b7.mono B6.out.size))
  clear q1 q2 q3 b7 hri hhi H6 H86 H146 HT6 B6
  have q1 := H147.out.cell 0 _ rfl
  have q2 := H147.out.cell 1 _ rfl
  have q3 := H147.out.cell 2 _ rfl
  have hri := cright_any rr cc false wd hh w7
  rw [HRT.out.2] at hri
  go_wp2_with fail
  refine hri.mono ?_
  rintro e w8 ⟨rfl, b8⟩
  have H68 := Lib.hid (H67.out.below b8)
  have H88 := Lib.hid (H87.out.below b8 H87.out.lt)
  have H148 := Lib.hid (H147.out.below b8 H147.out.lt)
  have HT8 := Lib.hid (HT7.out.below b8)
  have B8 := Lib.hid (B7.out.trans (b8.mono B7.out.size))
  clear q1 q2 q3 b8 hri H67 H87 H147 HT7 B7
  have hgl := glines_any BP gg gr wd R5 w8 H68.out.2.2.1
  rw [H68.out.2.2.2] at hgl
  go_wp2_with fail
  refine hgl.mono ?_
  rintro e w9 ⟨v9, rfl, ho9, b9⟩
  have hm9 := ho9.held (fun b hb _ => hb)
  obtain ⟨o9, k9, ev9⟩ := hm9.len
  subst ev9
  have HM9 := Lib.hid hm9
  have H89 := Lib.hid (H88.out.below b9 H88.out.lt)
  have H149 := Lib.hid (H148.out.below b9 H148.out.lt)
  have HT9 := Lib.hid (HT8.out.below b9)
  have B9 := Lib.hid (B8.out.trans (b9.mono B8.out.size))
  have HSD := Lib.hid (show ∀ i, i < hh → soundB (LP.getD i zl).1 = true from fun i hi => by
    have hrl := H68.out.sizes.2.2.2.2.1
    have hr := H68.out.2.2.1.row (i := i) (by rw [hrl, ← HHE.out]; exact hi)
    rw [← (row_line H68.out.2.2.2 i (by rw [hrl, ← HHE.out]; exact hi)).1]
    exact hr.len.2.2)
  rw [← HHE.out] at HM9 ⊢
  have hcap9 : hh ≤ k9 := (lines_at HM9.out).2.1
  have HCL := Lib.hid (show ∀ i, i < hh → ∃ b off cv, o9 = some ⟨b, off, none⟩ ∧ b < w9.heap.size ∧ w9.cell? ⟨b, off + i * 2, none⟩ = some cv ∧ HeldE cellE (fun x => w8.heap.size ≤ x) w9 cv (LP.getD i zl).1 from fun i hi => by
    obtain ⟨b, off, cv, e1, e2, _, e4, _, e6⟩ := (lines_at HM9.out).2.2 i (by rw [← HHE.out]; exact hi)
    exact ⟨b, off, cv, e1, e2, e4, e6⟩)
  have HCD := Lib.hid (show ∀ w', HeldE lineE (fun x => w8.heap.size ≤ x) w' (.slice o9 hh k9) LP → ∀ i, i < hh → ∃ b off cv, o9 = some ⟨b, off, none⟩ ∧ b < w'.heap.size ∧ w'.cell? ⟨b, off + i * 2, none⟩ = some cv ∧ HeldE cellE (fun x => w8.heap.size ≤ x) w' cv (LP.getD i zl).1 from fun w' hm i hi => by
    obtain ⟨b, off, cv, e1, e2, _, e4, _, e6⟩ := (lines_at hm).2.2 i (by rw [← HHE.out]; exact hi)
    exact ⟨b, off, cv, e1, e2, e4, e6⟩)
  clear hgl ho9 hm9 b9 H88 H148 HT8 B8
  have HCM := Lib.hid hcap9
  go_wp2
  go_loopw [18] (fun iv wr => ∃ i : Nat, i ≤ hh ∧ iv = .int .i64 i ∧ Below w9.heap.size w9 wr) (fun iv _ => hh - (intOf iv).toNat)
  case atStart => exact ⟨0, Nat.zero_le _, rfl, Below.refl _ _⟩
  case round =>
    obtain ⟨i, hi, rfl, hbi⟩ := hrel
    obtain ⟨wi, hwi⟩ : ∃ wi, wi = wr := ⟨_, rfl⟩
    subst hwi
    have HBI := Lib.hid hbi
    clear hbi
    by_cases hlt : i < hh
    · have j1 : decide ((i : Int) < (hh : Int)) = true := by rw [decide_eq_true_eq]; omega
      have j2 : decide (i < hh) = true := by rw [decide_eq_true_eq]; omega
      have hii : (i : Int) < (hh : Int) := by omega
      have hik : i < k9 := by omega
      have hwj : IntKind.i64.wrap ((i : Int) + 1) = (i : Int) + 1 := by rw [IntKind.wrap_i64]; have := HPE.out.2.1; have := HHE.out; omega
      obtain ⟨b, off, cv, rfl, hbb, z0, hcv⟩ := HCL.out i hlt
      obtain ⟨ao', ca', rfl⟩ := hcv.len
      have z1 := (HBI.out.cell (p := ⟨b, off + i * 2, none⟩) hbb).trans z0
      have hso := rsound_any _ _ _ wi (hcv.below HBI.out)
      rw [← sound_iff, HSD.out i hlt] at hso
      have HSO := Lib.hid hso
      clear hso z0 hcv hbb
      go_wp2_with fail
      refine HSO.out.mono ?_
      rintro e wz ⟨rfl, bz⟩
      have HZ := Lib.hid (HBI.out.trans (bz.mono HBI.out.size))
      clear bz z1
      go_wp2
      go_roundw
      case rel => exact ⟨i + 1, by omega, by go_num, HZ.out⟩
      case measure => simp [intOf] <;> omega
    · obtain rfl : i = hh := by omega
      have j1 : decide ((i : Int) < (i : Int)) = false := by rw [decide_eq_false_iff_not]; omega
      have H6A := Lib.hid (H149.out.below HBI.out H149.out.lt)
      have H8A := Lib.hid (H89.out.below HBI.out H89.out.lt)
      have HTA := Lib.hid (HT9.out.below HBI.out)
      have BA := Lib.hid (B9.out.trans (HBI.out.mono B9.out.size))
      have HMA := Lib.hid (HM9.out.below HBI.out)
      have y0 := H8A.out.cell 0 _ rfl
      have y1 := H8A.out.cell 1 _ rfl
      obtain ⟨k0, hk0⟩ : ∃ k0, max 1 (min N 2) = k0 := ⟨_, rfl⟩
      have hof := rcof_new (fun _ => True) _ k0 (.slice ta tn tc) T wi (fun _ _ => trivial) HTA.out
      have HOF := Lib.hid hof
      clear hof H89 H149 HT9 B9 HM9 HBI
      go_upto_region 20 with (fail)
      go_wp2_with fail
      refine HOF.out.mono ?_
      rintro e wa ⟨va9, rfl, hoa, ba⟩
      have hha := hoa.held (fun _ _ _ => trivial)
      have H6B := Lib.hid (H6A.out.below ba H6A.out.lt)
      have BB := Lib.hid (BA.out.trans (ba.mono BA.out.size))
      have HMB := Lib.hid (HMA.out.below ba)
      clear hoa ba HOF y0 y1 H6A BA HMA H8A HTA
      by_cases hq : (wd : Int) < k0
      · have hqd : decide ((wd : Int) < k0) = true := by rw [decide_eq_true_eq]; exact hq
        have HPK1 := Lib.hid (show plcK wd N = 1 from by unfold plcK; rw [hk0]; exact if_pos hq)
        have HPX1 := Lib.hid (show plcX wd N T = [65533] from by unfold plcX; rw [hk0]; exact if_pos hq)
        have hb := (Below.refl wa.heap.size wa).alloc (Nat.le_refl _) (.cells [Value.int .i32 65533].toArray 21)
        have ht := heldE_one (w := wa) (ty := 21) (E := intE .i32) (Y := fun _ => False) (Z := fun _ => True) [.int .i32 65533] 65533 rfl (fun _ _ h => h.elim) trivial
        have hof := rcof_new (fun _ => True) _ 1 _ [65533] _ (fun _ _ => trivial) ht
        have HOF := Lib.hid hof
        have H6C := Lib.hid (H6B.out.below hb H6B.out.lt)
        have BC := Lib.hid (BB.out.trans (hb.mono BB.out.size))
        have HMC := Lib.hid (HMB.out.below hb)
        obtain ⟨xo, xc, ex⟩ := hha.len
        subst ex
        clear hof ht hb hha hk0 hq
        go_wp2_with fail
        refine HOF.out.mono ?_
        rintro e wb ⟨vb9, rfl, hob, bb⟩
        have hhb := hob.held (fun _ _ _ => trivial)
        rw [show ofC 1 [65533] = ofC (plcK wd N) (plcX wd N T) from by rw [HPK1.out, HPX1.out]] at hhb
        have H6D := Lib.hid (H6C.out.below bb H6C.out.lt)
        have BD := Lib.hid (BC.out.trans (bb.mono BC.out.size))
        have HMD := Lib.hid (HMC.out.below bb)
        clear hob bb HOF H6B BB HMB H6C BC HMC
        obtain ⟨XS, hXS⟩ : ∃ XS, XS = ofC (plcK wd N) (plcX wd N T) := ⟨_, rfl⟩
        have hpp := HPP.out
        rw [← hXS] at hhb hpp
        have hxl : XS.length ≤ 2 ∧ cc + XS.length ≤ wd := by
          rw [hXS, ofC_len]
          have := HPT.out
          have := HPK.out
          split <;> omega
        obtain ⟨xo, xc, ex⟩ := hhb.len
        subst ex
        obtain ⟨xl, hxl2⟩ : ∃ xl, xl = XS.length := ⟨_, rfl⟩
        rw [← hxl2] at hhb hxl hpp ⊢
        have hri : rr < i := by have := HPT.out; have := HHE.out; omega
        obtain ⟨b, off, cv, e9, hbb, z0, hcv⟩ := HCD.out wb HMD.out rr hri
        subst e9
        obtain ⟨co, ck, ecv⟩ := hcv.len
        have hlw : (LP.getD rr zl).1.length = wd := HPE.out.2.2.2.2 rr (by have := HPT.out; omega)
        rw [hlw] at ecv
        subst ecv
        have hckk : wd ≤ ck := by have h := (cells_at hcv).2.1; exact h
        have hcm : ck ≤ maxLen := by obtain ⟨_, _, e8, _, h9, _⟩ := hcv; cases e8; exact h9
        obtain ⟨bc, oc, _, eco, _⟩ := (cells_at hcv).2.2 0 (by rw [hlw]; exact HPE.out.2.2.1)
        subst eco
        have hpart := hcv.part cc (cc + xl) (by omega) (by rw [hlw]; omega) (some ⟨bc, oc + cc * 2, none⟩) (ck - cc) (fun e => by cases e) (fun b' off' e _ => by cases e; rfl) (fun _ _ => by simp) (by omega) (by omega)
        rw [show cc + xl - cc = xl from by omega] at hpart
        have hdt : ((LP.getD rr zl).1.drop cc).take xl = XS := by rw [← hpp, List.drop_take]; congr 1; omega
        rw [hdt] at hpart
        have HSM := Lib.hid (show ∀ u : Growth wb, Calls Tryd.prog 26 #[.slice (some ⟨bc, oc + cc * 2, none⟩) xl (ck - cc), .slice xo xl xc] (ext wb u) (Gives (ext wb u) (.bool true)) from fun u => by
          have h := rcsame_any _ _ (.slice (some ⟨bc, oc + cc * 2, none⟩) xl (ck - cc)) (.slice xo xl xc) XS XS (ext wb u) (hpart.below u.ok) (hhb.below u.ok)
          rwa [sameC_self] at h)
        have e0 := ext_cell (H6D.out.cell 0 _ rfl)
        have e1 := ext_cell (H6D.out.cell 1 _ rfl)
        have z0' := ext_cell z0
        have hccw : cc < wd := HPT.out.2.1
        have hw1k : wd ≤ 1024 := HPE.out.2.2.2.1
        have hws : IntKind.i64.wrap ((wd : Int) - (cc : Int)) = (wd : Int) - (cc : Int) := by rw [IntKind.wrap_i64]; omega
        have hle : decide ((xl : Int) ≤ (wd : Int) - (cc : Int)) = true := by rw [decide_eq_true_eq]; omega
        have hwa : IntKind.i64.wrap ((cc : Int) + (xl : Int)) = (cc : Int) + (xl : Int) := by rw [IntKind.wrap_i64]; omega
        have hri2 : (rr : Int) < (i : Int) := by omega
        have hz1 : (0 : Int) ≤ (cc : Int) + (xl : Int) := by omega
        have hz2 : (cc : Int) + (xl : Int) ≤ (ck : Int) := by omega
        have hz3 : ¬ (ck = cc) := by omega
        have hz4 : cc + xl ≤ ck := by omega
        have hz5 : (cc : Int) ≤ (cc : Int) + (xl : Int) := by omega
        clear z0 hcv hhb hpp hdt hpart hlw hxl2 hXS hcm
        go_upto_region 23 with (fail)
        refine wp_region_ext (by kernel_rfl) (by kernel_rfl) ?_
        repeat (go_big_quiet_step ((go_at_call 26; exact callx (HSM.out _))))
        refine wpQuiet_nil ?_
        intro _ hw'
        obtain ⟨u, hw''⟩ := hw'
        subst hw''
        have HF := Lib.hid (BD.out.trans (u.ok.mono BD.out.size))
        go_wp2
        go_ret
        exact ⟨(ret_eq (by first | rfl | (simp <;> omega))), HF.out⟩
      · have hqd : decide ((wd : Int) < k0) = false := by rw [decide_eq_false_iff_not]; exact hq
        have HPK1 := Lib.hid (show plcK wd N = k0 from by unfold plcK; rw [hk0]; exact if_neg hq)
        have HPX1 := Lib.hid (show plcX wd N T = T from by unfold plcX; rw [hk0]; exact if_neg hq)
        obtain ⟨wb, hwb⟩ : ∃ wb, wb = wa := ⟨_, rfl⟩
        subst hwb
        have hhb := hha
        rw [show ofC k0 T = ofC (plcK wd N) (plcX wd N T) from by rw [HPK1.out, HPX1.out]] at hhb
        have H6D := H6B
        have BD := BB
        have HMD := HMB
        obtain ⟨vb9, hvb⟩ : ∃ vb9, vb9 = va9 := ⟨_, rfl⟩
        subst hvb
        clear hha hk0 hq
        obtain ⟨XS, hXS⟩ : ∃ XS, XS = ofC (plcK wd N) (plcX wd N T) := ⟨_, rfl⟩
        have hpp := HPP.out
        rw [← hXS] at hhb hpp
        have hxl : XS.length ≤ 2 ∧ cc + XS.length ≤ wd := by
          rw [hXS, ofC_len]
          have := HPT.out
          have := HPK.out
          split <;> omega
        obtain ⟨xo, xc, ex⟩ := hhb.len
        subst ex
        obtain ⟨xl, hxl2⟩ : ∃ xl, xl = XS.length := ⟨_, rfl⟩
        rw [← hxl2] at hhb hxl hpp ⊢
        have hri : rr < i := by have := HPT.out; have := HHE.out; omega
        obtain ⟨b, off, cv, e9, hbb, z0, hcv⟩ := HCD.out wb HMD.out rr hri
        subst e9
        obtain ⟨co, ck, ecv⟩ := hcv.len
        have hlw : (LP.getD rr zl).1.length = wd := HPE.out.2.2.2.2 rr (by have := HPT.out; omega)
        rw [hlw] at ecv
        subst ecv
        have hckk : wd ≤ ck := by have h := (cells_at hcv).2.1; exact h
        have hcm : ck ≤ maxLen := by obtain ⟨_, _, e8, _, h9, _⟩ := hcv; cases e8; exact h9
        obtain ⟨bc, oc, _, eco, _⟩ := (cells_at hcv).2.2 0 (by rw [hlw]; exact HPE.out.2.2.1)
        subst eco
        have hpart := hcv.part cc (cc + xl) (by omega) (by rw [hlw]; omega) (some ⟨bc, oc + cc * 2, none⟩) (ck - cc) (fun e => by cases e) (fun b' off' e _ => by cases e; rfl) (fun _ _ => by simp) (by omega) (by omega)
        rw [show cc + xl - cc = xl from by omega] at hpart
        have hdt : ((LP.getD rr zl).1.drop cc).take xl = XS := by rw [← hpp, List.drop_take]; congr 1; omega
        rw [hdt] at hpart
        have HSM := Lib.hid (show ∀ u : Growth wb, Calls Tryd.prog 26 #[.slice (some ⟨bc, oc + cc * 2, none⟩) xl (ck - cc), .slice xo xl xc] (ext wb u) (Gives (ext wb u) (.bool true)) from fun u => by
          have h := rcsame_any _ _ (.slice (some ⟨bc, oc + cc * 2, none⟩) xl (ck - cc)) (.slice xo xl xc) XS XS (ext wb u) (hpart.below u.ok) (hhb.below u.ok)
          rwa [sameC_self] at h)
        have e0 := ext_cell (H6D.out.cell 0 _ rfl)
        have e1 := ext_cell (H6D.out.cell 1 _ rfl)
        have z0' := ext_cell z0
        have hccw : cc < wd := HPT.out.2.1
        have hw1k : wd ≤ 1024 := HPE.out.2.2.2.1
        have hws : IntKind.i64.wrap ((wd : Int) - (cc : Int)) = (wd : Int) - (cc : Int) := by rw [IntKind.wrap_i64]; omega
        have hle : decide ((xl : Int) ≤ (wd : Int) - (cc : Int)) = true := by rw [decide_eq_true_eq]; omega
        have hwa : IntKind.i64.wrap ((cc : Int) + (xl : Int)) = (cc : Int) + (xl : Int) := by rw [IntKind.wrap_i64]; omega
        have hri2 : (rr : Int) < (i : Int) := by omega
        have hz1 : (0 : Int) ≤ (cc : Int) + (xl : Int) := by omega
        have hz2 : (cc : Int) + (xl : Int) ≤ (ck : Int) := by omega
        have hz3 : ¬ (ck = cc) := by omega
        have hz4 : cc + xl ≤ ck := by omega
        have hz5 : (cc : Int) ≤ (cc : Int) + (xl : Int) := by omega
        clear z0 hcv hhb hpp hdt hpart hlw hxl2 hXS hcm
        go_upto_region 23 with (fail)
        refine wp_region_ext (by kernel_rfl) (by kernel_rfl) ?_
        repeat (go_big_quiet_step ((go_at_call 26; exact callx (HSM.out _))))
        refine wpQuiet_nil ?_
        intro _ hw'
        obtain ⟨u, hw''⟩ := hw'
        subst hw''
        have HF := Lib.hid (BD.out.trans (u.ok.mono BD.out.size))
        go_wp2
        go_ret
        exact ⟨(ret_eq (by first | rfl | (simp <;> omega))), HF.out⟩
set_option maxRecDepth 100000 in
theorem walk {H : Type} {enc : TypeId × Value → H} (W : World) (u : Value) {base : Nat} {d : DataW H} {p : List MemPlace} (hv : Value.okWide Tryd.prog W .any base 27 u) (h : DataW.Trod enc Tryd.prog W 0 (fun _ => true) true 27 u d p) (v : Value) {base' : Nat} {d' : DataW H} {p' : List MemPlace} (hv' : Value.okWide Tryd.prog W .any base' 35 v) (h' : DataW.Trod enc Tryd.prog W 0 (fun _ => true) true 35 v d' p') (au : Bool) (_ : laidMetH Tryd.prog Rows.placeSoundRow.laid W) : Calls Tryd.prog 4 #[u, v, .bool au] W (Yes W) := by
  obtain ⟨L, hL2⟩ := lines_arg hv h
  have hE := opens_four (P := Tryd.prog) Tryd.underlying35 (by kernel_rfl) rfl rfl rfl rfl (opens_int (k := .i64) Tryd.underlying3 (by kernel_rfl)) (opens_int (k := .i64) Tryd.underlying3 (by kernel_rfl)) (opens_slice Tryd.underlying33 (by kernel_rfl) (by decide) (opens_int (k := .i32) Tryd.underlying21 (by kernel_rfl))) (opens_triple Tryd.underlying29 (by kernel_rfl) rfl rfl rfl (opens_int (k := .i64) Tryd.underlying3 (by kernel_rfl)) (opens_int (k := .i64) Tryd.underlying3 (by kernel_rfl)) (opens_bool Tryd.underlying4 (by kernel_rfl)))
  obtain ⟨cs, ⟨K, N, T, P, Q, S⟩, rfl, ⟨C1, C2, hcs, rfl, C3, C4, rfl, rfl, C5, C6, rfl, ⟨tv, rfl, ht⟩, C7, C8, rfl, rfl, C9, C10, rfl, rfl, rfl⟩, _⟩ := opens_struct Tryd.underlying35 hE hv' h'
  obtain rfl : cs = #[.int .i64 K, .int .i64 N, tv, .int .i64 P, .int .i64 Q, .bool S] := by
    apply Array.toList_inj.1
    rw [hcs]
    rfl
  exact walkH W u L K N P Q S au tv T _ _ hL2 ht

theorem door_met (os : Os) : laidMetH Tryd.prog Rows.placeSoundRow.laid ((World.doorLaid Tryd.prog 400 os).forCall (fun _ _ => 0) ⟨#[], #[.slice none 0 0, .agg #[.int .i64 0, .int .i64 0, .slice none 0 0, .int .i64 0, .int .i64 0, .bool false], .bool false], []⟩).memory :=
  laidMetH_of_parts3 (fuel := 8) (laidMet_of_run' 8 (by kernel_rfl) (by kernel_rfl)) (by kernel_rfl) (by kernel_rfl)

set_option maxRecDepth 100000 in
theorem lifted (os : Os) (started : os.Started) (H : Type) (enc : TypeId × Value → H) :
    ReturnsInHanded {} Tryd.checked os 4 .any (fun w args => (Rows.placeSoundSpec.pre enc Tryd.prog Tryd.f4 [] false w args ∧ laidMetH Tryd.prog Rows.placeSoundRow.laid w) ∧ sizedMet enc Tryd.prog Tryd.f4 (OpenSpec.ofChange Rows.placeSoundSpec) false w args)
      (Rows.placeSoundSpec.post enc Tryd.prog Tryd.f4 false true false false) := by
  refine law_frame (C := Tryd.checked) (tb := 4) (by kernel_rfl) started (by kernel_rfl) Tryd.func4 (by kernel_rfl) (by kernel_rfl) Tryd.underlying4 rfl
    (by rw [Tryd.params4]; intro t ht; simp at ht; rcases ht with rfl | rfl | rfl <;> exact ⟨by kernel_rfl, of_decide_eq_true (by kernel_rfl)⟩)
    (by rw [Tryd.params4]; intro ds hd; match ds, hd with | [_, _, _], _ => rfl)
    (ChangeSpec.witness_shaped (enc := enc) (C := Tryd.checked) (os := os) (X := fun w _ => laidMetH Tryd.prog Rows.placeSoundRow.laid w) false (World.doorLaid Tryd.prog 400 os) #[.slice none 0 0, .agg #[.int .i64 0, .int .i64 0, .slice none 0 0, .int .i64 0, .int .i64 0, .bool false], .bool false] 8 rfl (World.shaped_of_RefB (by kernel_rfl) (by kernel_rfl)) (by kernel_rfl) (by kernel_rfl) (by kernel_rfl) (door_met os)) ?_
  intro W base args ds before hval hA hsz hL
  rw [Tryd.params4] at hA hval
  obtain ⟨v0, vs0, d0, ds0, p0, q0, hargs, rfl, rfl, h0, r0⟩ := trodAll_cons hA
  obtain ⟨v1, vs1, d1, ds1, p1, q1, rfl, rfl, rfl, h1, r1⟩ := trodAll_cons r0
  obtain ⟨v2, vs2, d2, ds2, p2, q2, rfl, rfl, rfl, h2, r2⟩ := trodAll_cons r1
  obtain ⟨rfl, rfl, rfl⟩ := trodAll_nil r2
  obtain rfl : args = #[v0, v1, v2] := by cases args; simp_all
  obtain ⟨x2, rfl, rfl, rfl⟩ := open_bool Tryd.underlying4 (hval 2 4 v2 rfl rfl) h2
  exact walk W v0 (hval 0 27 v0 rfl rfl) h0 v1 (hval 1 35 v1 rfl rfl) h1 x2 hL

theorem said : Rows.PlaceSoundSaid :=
  OpenClaim.holds_of_wide 4 Tryd.f4 rfl rfl rfl rfl rfl rfl rfl ⟨rfl, rfl, rfl, rfl, rfl⟩ rfl rfl rfl rfl rfl (by kernel_rfl) Tryd.func4 (by kernel_rfl)
    (of_decide_eq_true (by kernel_rfl)) (by unfold Func.isWrapper; first | (rw [if_pos (by decide +kernel)]; kernel_rfl) | (rw [if_neg (by decide +kernel)]; exact ⟨rfl, rfl⟩))
    (fun os started H enc _ => lifted os started H enc)

theorem plain (f : FuncId) (fn : Func) (hf : Tryd.pinned.checked.prog.funcNamed "linotype/linotypelaw34.PlaceSound" = some f) (hfn : Tryd.pinned.checked.prog.funcs[f]? = some fn) :
    true = Tryd.pinned.checked.prog.looks [] ∧ ∀ (j : Nat) t, fn.params[j]? = some t → Tryd.pinned.checked.prog.wantsStandIn t = false := by
  obtain rfl : f = 4 := Option.some.inj ((show Tryd.prog.funcNamed "linotype/linotypelaw34.PlaceSound" = some 4 by kernel_rfl).symm.trans hf) |>.symm
  obtain rfl : fn = Tryd.f4 := (Option.some.inj (Tryd.func4.symm.trans hfn)).symm
  refine ⟨by kernel_rfl, fun j t ht => ?_⟩
  rw [Tryd.params4] at ht
  have hm : t ∈ [27, 35, 4] := by simpa using Array.mem_of_getElem? ht
  have hall : ([27, 35, 4].all fun u => !Tryd.prog.wantsStandIn u) = true := by kernel_rfl
  exact (show Tryd.prog.wantsStandIn t = false by simpa using List.all_eq_true.1 hall t hm)

/-- THE CARD. -/
theorem card : Rows.PlaceSoundCardSaid :=
  Claim7.holds_tied_plain_at .later [] _ _ _ _ said (fun _ h => by cases h) (by kernel_rfl) (fun _ h => by cases h) placeSound_row_tie rfl ⟨rfl, rfl⟩ (by kernel_rfl) rfl plain (by kernel_rfl)
#print axioms card

end Go.Proofs.YteinppjklhomnaaDoor.lawPlaceSound
