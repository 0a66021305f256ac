/- scroll.Down. -/
import Derived.Test.YteinppjklhomnaaDoorMg6
namespace Go.Proofs.YteinppjklhomnaaDoor
open Go.RowKit Go.ChangeShapes Go.WideShapes
def DownDone (w : World) (B gg gr wd f t q : Nat) (Rs : List Rw) (R : List Rw → List Rw) (w' : World) : Prop := ∃ Ns : List Rw, (Ns.map lineOf = List.replicate q (List.replicate wd zc, false) ∧ ∀ i, i < Ns.length → w.heap.size ≤ (Ns.getD i r0).g ∧ w.heap.size ≤ (Ns.getD i r0).gc) ∧ GridAt w' B gg gr wd (offAt (if f = 0 then R Ns else offAt (R Ns) (f - 1)) (t - 1)) ∧ Upd (GridB w gr Rs) w w'
set_option maxRecDepth 100000 in
/-- scroll.set of moved rows. -/
theorem scset_down (B gg gr wd f t q M : Nat) (Rs Ns : List Rw) (v : Value) (w ws : World) (h : GridAt w B gg gr wd Rs) (hb : Below w.heap.size w ws) (hf : f < t) (ht : t ≤ Rs.length) (hq : q ≤ t - f) (hN : NsAt ws M Ns) (hM : w.heap.size ≤ M) (hl : Ns.map lineOf = List.replicate q (List.replicate wd zc, false)) (hv : HeldE ptrE (fun b => w.heap.size ≤ b) ws v (ptrs (downMid Rs Ns f t q))) : Calls Tryd.prog 120 #[.pointer (some ⟨gg, 0, none⟩), .int .i64 f, v] ws (fun e w' => e = .returned (.tuple #[]) ∧ MoveDone w B gg gr wd f q Rs (fun Ns => Rs.take f ++ downMid Rs Ns f t q ++ Rs.drop (f + (downMid Rs Ns f t q).length)) w' ∧ Upd (fun b => b < w.heap.size) ws w') := by
  have hlt := h.lt
  obtain ⟨hnl, hnw⟩ := lines_wide hl
  have hml := downMid_len (Rs := Rs) (Ns := Ns) (f := f) (t := t) (q := q) (by omega) ht hq hnl
  obtain ⟨Z, cap, k1, k2, k3, k4, k5, k6, k7, k8, k9, k10⟩ := h
  obtain ⟨Zn, n1, n2⟩ := hN
  have hap := RowsAt.append (M := M) (k7.below hb) n2 (by have := k2.lt; omega) (fun b hz => by have := k1 b hz; omega) (fun i hi => by have := hlt.2.2.2.2.2 i hi; omega) (fun b hz => (n1 b hz).1) (Nat.le_refl _)
  have hrw := down_rows hap (by omega) ht hq hnl
  have hs := scset_any B gg gr wd f cap _ Rs (downMid Rs Ns f t q) v ws (by rw [hml]; omega) (by rw [hml]; omega) k10 (fun b hz => by
      have := hb.size
      rcases hz with hz | hz
      · have := k1 b hz; omega
      · have := n1 b hz; have := k2.lt; omega) (k2.below hb k2.lt) k3 (k4.below hb) (fun hz => by
      rcases hz with hz | hz
      · exact k5 hz
      · have := n1 _ hz; have := hlt.2.1; omega) (fun hz => by
      rcases hz with hz | hz
      · exact k6 hz
      · have := n1 _ hz; have := hlt.2.2.2.1; omega) hrw (fun i hi => by
      rw [mid_at _ hml (by omega) ht]
      have hil : i < Rs.length := by
        rw [List.length_append, List.length_append, List.length_take, List.length_drop, hml] at hi; omega
      split
      · exact k8 i hil
      · split
        · rw [down_at (by omega) ht hq hnl _ (by omega)]
          split
          · exact hnw _ (by omega)
          · exact k8 _ (by omega)
        · exact k8 i hil) (hv.zone fun b _ hz => by have := hlt.2.2.2.1; omega)
  refine hs.mono ?_
  rintro e w' ⟨rfl, hg, hu⟩
  refine ⟨rfl, ⟨Ns, ⟨hl, fun i hi => by have := n2.lt i hi; omega⟩, hg, ((Upd.ofBelow hb).trans hu).mono fun b _ e => ?_⟩, hu.mono fun b _ e => ?_⟩
  · rcases e with e | ⟨h0, e⟩
    · exact .inl e
    · rw [mid_at _ hml (by omega) ht, if_pos (by omega)] at e
      exact .inr (.inl ⟨f - 1, by omega, e⟩)
  rcases e with e | ⟨h0, e⟩
  · have := hlt.2.2.2.1; omega
  · rw [mid_at _ hml (by omega) ht, if_pos (by omega)] at e
    have := hlt.2.2.2.2.2 (f - 1) (by omega)
    rcases e with e | e <;> omega
set_option maxRecDepth 100000 in
set_option maxHeartbeats 3000000 in
theorem scdown_good (B gg gr wd f t q : Nat) (Rs : List Rw) (a b k : Int) (w : World) (h : GridAt w B gg gr wd Rs) (hf : heldF Rs.length a = f) (ht : heldF Rs.length b = t) (hk : heldK Rs.length a b k = (q : Int)) (hq : 0 < q) : Calls Tryd.prog 108 #[.pointer (some ⟨gg, 0, none⟩), .int .i64 a, .int .i64 b, .int .i64 k] w (fun e w' => e = .returned (.tuple #[]) ∧ DownDone w B gg gr wd f t q Rs (fun Ns => Rs.take f ++ downMid Rs Ns f t q ++ Rs.drop (f + (downMid Rs Ns f t q).length)) w') := by
  have hsz := h.sizes
  have htl : t ≤ Rs.length := by rw [← ht]; exact heldF_le _ _
  have hqt : q ≤ t - f ∧ f < t := by unfold heldK at hk; rw [hf, ht] at hk; omega
  have hhe := scheld_raw (.pointer (some ⟨gg, 0, none⟩)) Rs.length hsz.2.1 a b k w (ghigh_any B gg gr wd Rs w h)
  rw [hf, ht, hk] at hhe
  have HHE := Lib.hid hhe
  have HG := Lib.hid h
  have HTK := Lib.hid (sctaken_any B gg gr wd f t Rs w h (by omega) htl)
  have HLT := Lib.hid h.lt
  have HTL := Lib.hid htl
  have HSZ9 := Lib.hid hsz.2.1
  have hq1 : decide ((q : Int) < 1) = false := by rw [decide_eq_false_iff_not]; omega
  have hq2 : decide (q < 1) = false := by rw [decide_eq_false_iff_not]; omega
  obtain ⟨T, hT⟩ : ∃ T, T = ptrs ((Rs.drop f).take (t - f)) := ⟨_, rfl⟩
  have hTl : T.length = t - f := by rw [hT, ptrs_len, List.length_take, List.length_drop]; omega
  have HTE := Lib.hid hT
  rw [← hT] at HTK
  have hq9 : q ≤ 1024 := by omega
  have ht9 : t - f ≤ 1024 := by omega
  clear h hf ht hk hhe hT htl hsz
  go_enter Tryd.func108, Tryd.ntmps108
  go_wp2_with fail
  refine HHE.out.mono ?_
  rintro e w1 ⟨rfl, rfl⟩
  go_wp2_with fail
  refine HTK.out.mono ?_
  rintro e w1 ⟨v1, rfl, ho1, b1⟩
  obtain ⟨gt, ct, rfl, hgt1, hgt2⟩ := ho1.some (by omega)
  have hh1 := ho1.held (Z := fun b => w.heap.size ≤ b) (fun b hb _ => hb)
  obtain ⟨l, hl⟩ : ∃ l, l = t - f := ⟨_, rfl⟩
  rw [hTl] at hh1 ⊢
  rw [← hl] at hh1 hTl hqt ⊢
  have hcl : l ≤ ct := by obtain ⟨_, hn, _⟩ := hh1.spots; exact hn
  have HH := Lib.hid hh1
  have HB1 := Lib.hid b1
  have HQT := Lib.hid hqt
  have HT2 := Lib.hid (show T.length = l ∧ l ≤ 1024 from ⟨hTl, by rw [hl]; exact ht9⟩)
  have HLE := Lib.hid hl
  have HC := Lib.hid (show ∀ w', Below w1.heap.size w1 w' → HeldE ptrE (fun b => w.heap.size ≤ b) w' (.slice (some ⟨gt, 0, none⟩) (l - q) ct) (T.take (l - q)) from fun w' b => by
    have h3 := HH.out.below b
    rw [← hTl] at h3
    obtain ⟨_, _, e, hcm, hmx, _⟩ := id h3
    cases e
    have hp := h3.part 0 (l - q) (Nat.zero_le _) (by omega) (some ⟨gt, 0, none⟩) ct (fun e => by cases e) (fun b off e hlt => by cases e; simp) (fun _ _ => by simp) (by omega) (by omega)
    simpa using hp)
  have HMID := Lib.hid (show ∀ Ns, ptrs Ns ++ T.take (l - q) = ptrs (downMid Rs Ns f t q) from fun Ns => by rw [HTE.out, HLE.out]; unfold downMid ptrs; rw [List.map_append, List.map_take (l := (Rs.drop f).take (t - f))])
  have hw9 : IntKind.i64.wrap ((l : Int) - q) = ((l - q : Nat) : Int) := by rw [IntKind.wrap_i64]; omega
  have hw8 : (l : Int) - q = ((l - q : Nat) : Int) := by omega
  have hw7 : IntKind.i64.wrap ((l - q : Nat) : Int) = ((l - q : Nat) : Int) := by rw [IntKind.wrap_i64]; omega
  have hz5 : l - q ≤ ct := by omega
  have hz6 : ((l - q : Nat) : Int) ≤ (ct : Int) := by omega
  have hz1 : q ≤ l := hqt.1
  have hz2 : q ≤ ct := by omega
  have hz3 : (q : Int) ≤ (l : Int) := by omega
  have hz4 : (q : Int) ≤ (ct : Int) := by omega
  clear ho1 b1 hh1 hl HTK HHE hq1 hq2
  go_upto_region 3 with (fail)
  obtain ⟨Erg, hErg⟩ : ∃ EE : Nat → Value → World → Prop, EE = fun jj xx ww => match jj with
      | 0 => xx = .pointer (some ⟨gg, 0, none⟩)
      | 1 => xx = .int .i64 f
      | 2 => xx = .pointer (some ⟨gg, 0, none⟩)
      | 3 => xx = .int .i64 q
      | 4 => (fun x w' => ∃ Ns, NsAt w' w1.heap.size Ns ∧ HeldE ptrE (fun b => w.heap.size ≤ b) w' x (ptrs Ns) ∧ Ns.map lineOf = List.replicate q (List.replicate wd zc, false)) xx ww
      | 5 => xx = .slice (some ⟨gt, 0, none⟩) l ct
      | 6 => xx = .slice (some ⟨gt, 0, none⟩) l ct
      | 7 => xx = .int .i64 l
      | 8 => xx = .int .i64 q
      | 9 => xx = .int .i64 ((l - q : Nat) : Int)
      | 10 => xx = .slice (some ⟨gt, 0, none⟩) (l - q) ct
      | 11 => (fun x w' => ∃ Ns, NsAt w' w1.heap.size Ns ∧ HeldE ptrsE (fun b => w.heap.size ≤ b) w' x [ptrs Ns, T.take (l - q)] ∧ Ns.map lineOf = List.replicate q (List.replicate wd zc, false)) xx ww
      | 12 => (fun x w' => ∃ Ns, NsAt w' w1.heap.size Ns ∧ HeldE ptrE (fun b => w.heap.size ≤ b) w' x (ptrs Ns ++ T.take (l - q)) ∧ Ns.map lineOf = List.replicate q (List.replicate wd zc, false)) xx ww
      | 13 => xx = .tuple #[]
      | _ => True := ⟨_, rfl⟩
  have erg0 : ∀ xx ww, Erg 0 xx ww = (xx = .pointer (some ⟨gg, 0, none⟩)) := fun xx ww => congrFun (congrFun (congrFun hErg 0) xx) ww
  have erg1 : ∀ xx ww, Erg 1 xx ww = (xx = .int .i64 f) := fun xx ww => congrFun (congrFun (congrFun hErg 1) xx) ww
  have erg2 : ∀ xx ww, Erg 2 xx ww = (xx = .pointer (some ⟨gg, 0, none⟩)) := fun xx ww => congrFun (congrFun (congrFun hErg 2) xx) ww
  have erg3 : ∀ xx ww, Erg 3 xx ww = (xx = .int .i64 q) := fun xx ww => congrFun (congrFun (congrFun hErg 3) xx) ww
  have erg4 : ∀ xx ww, Erg 4 xx ww = ((fun x w' => ∃ Ns, NsAt w' w1.heap.size Ns ∧ HeldE ptrE (fun b => w.heap.size ≤ b) w' x (ptrs Ns) ∧ Ns.map lineOf = List.replicate q (List.replicate wd zc, false)) xx ww) := fun xx ww => congrFun (congrFun (congrFun hErg 4) xx) ww
  have erg5 : ∀ xx ww, Erg 5 xx ww = (xx = .slice (some ⟨gt, 0, none⟩) l ct) := fun xx ww => congrFun (congrFun (congrFun hErg 5) xx) ww
  have erg6 : ∀ xx ww, Erg 6 xx ww = (xx = .slice (some ⟨gt, 0, none⟩) l ct) := fun xx ww => congrFun (congrFun (congrFun hErg 6) xx) ww
  have erg7 : ∀ xx ww, Erg 7 xx ww = (xx = .int .i64 l) := fun xx ww => congrFun (congrFun (congrFun hErg 7) xx) ww
  have erg8 : ∀ xx ww, Erg 8 xx ww = (xx = .int .i64 q) := fun xx ww => congrFun (congrFun (congrFun hErg 8) xx) ww
  have erg9 : ∀ xx ww, Erg 9 xx ww = (xx = .int .i64 ((l - q : Nat) : Int)) := fun xx ww => congrFun (congrFun (congrFun hErg 9) xx) ww
  have erg10 : ∀ xx ww, Erg 10 xx ww = (xx = .slice (some ⟨gt, 0, none⟩) (l - q) ct) := fun xx ww => congrFun (congrFun (congrFun hErg 10) xx) ww
  have erg11 : ∀ xx ww, Erg 11 xx ww = ((fun x w' => ∃ Ns, NsAt w' w1.heap.size Ns ∧ HeldE ptrsE (fun b => w.heap.size ≤ b) w' x [ptrs Ns, T.take (l - q)] ∧ Ns.map lineOf = List.replicate q (List.replicate wd zc, false)) xx ww) := fun xx ww => congrFun (congrFun (congrFun hErg 11) xx) ww
  have erg12 : ∀ xx ww, Erg 12 xx ww = ((fun x w' => ∃ Ns, NsAt w' w1.heap.size Ns ∧ HeldE ptrE (fun b => w.heap.size ≤ b) w' x (ptrs Ns ++ T.take (l - q)) ∧ Ns.map lineOf = List.replicate q (List.replicate wd zc, false)) xx ww) := fun xx ww => congrFun (congrFun (congrFun hErg 12) xx) ww
  have erg13 : ∀ xx ww, Erg 13 xx ww = (xx = .tuple #[]) := fun xx ww => congrFun (congrFun (congrFun hErg 13) xx) ww
  obtain ⟨Crg, hCrg⟩ : ∃ CC : Array Bool → World → Prop, CC = fun L8 w' => (Mix.one L8 13 = 0 → Below w1.heap.size w1 w') ∧ (Mix.one L8 13 = 1 → MoveDone w B gg gr wd f q Rs (fun Ns => Rs.take f ++ downMid Rs Ns f t q ++ Rs.drop (f + (downMid Rs Ns f t q).length)) w') := ⟨_, rfl⟩
  have krg : ∀ i L w, i ≠ 13 →  Crg L w → Crg (L.setIfInBounds i true) w := by
    intro i L w q13 h
    rw [hCrg] at h ⊢
    simp only [Mix.one_ne q13]; exact h
  obtain ⟨Xrg, hXrg⟩ : ∃ XX : World → World → Prop, XX = fun x y => Upd (fun b => b < w.heap.size) x y := ⟨_, rfl⟩
  have xrg : ∀ w, Xrg w w := fun w => by rw [hXrg]; exact Upd.refl _ _
  have strg : ∀ j x w w1, Xrg w w1 → Erg j x w → Erg j x w1 := by
    intro j x w w1 hx h
    rw [hXrg] at hx
    match j with
    | 0 => rw [erg0] at h ⊢; exact h
    | 1 => rw [erg1] at h ⊢; exact h
    | 2 => rw [erg2] at h ⊢; exact h
    | 3 => rw [erg3] at h ⊢; exact h
    | 4 => rw [erg4] at h ⊢; ((obtain ⟨Ns, h7, h8, h9⟩ := h; exact ⟨Ns, h7.upd hx (fun b e => Nat.lt_of_lt_of_le e HB1.out.size), HeldE.upd h8 hx (fun b hb e => by omega), h9⟩))
    | 5 => rw [erg5] at h ⊢; exact h
    | 6 => rw [erg6] at h ⊢; exact h
    | 7 => rw [erg7] at h ⊢; exact h
    | 8 => rw [erg8] at h ⊢; exact h
    | 9 => rw [erg9] at h ⊢; exact h
    | 10 => rw [erg10] at h ⊢; exact h
    | 11 => rw [erg11] at h ⊢; ((obtain ⟨Ns, h7, h8, h9⟩ := h; exact ⟨Ns, h7.upd hx (fun b e => Nat.lt_of_lt_of_le e HB1.out.size), HeldE.upd h8 hx (fun b hb e => by omega), h9⟩))
    | 12 => rw [erg12] at h ⊢; ((obtain ⟨Ns, h7, h8, h9⟩ := h; exact ⟨Ns, h7.upd hx (fun b e => Nat.lt_of_lt_of_le e HB1.out.size), HeldE.upd h8 hx (fun b hb e => by omega), h9⟩))
    | 13 => rw [erg13] at h ⊢; exact h
    | j + 14 => rw [hErg]; trivial
  have crg : Crg (Array.replicate 14 false) w1.drew := by rw [hCrg]; exact ⟨fun _ => (Below.refl _ _).drew, fun e => absurd e (by decide)⟩
  have brg : ∀ L w w1, Crg L w → Below w.heap.size w w1 → Crg L w1 := by
    intro L w w1 h hb
    rw [hCrg] at h ⊢
    exact ⟨fun e => (h.1 e).trans (hb.mono (h.1 e).size), fun e => by obtain ⟨Ns, q1, q2, q3⟩ := h.2 e; exact ⟨Ns, q1, q2.below hb, q3.trans (.ofBelow hb)⟩⟩
  have xbrg : ∀ w w1, Below w.heap.size w w1 → Xrg w w1 := by
    intro w w1 hb
    rw [hXrg]
    exact Upd.ofBelow hb
  have Hrgb := Lib.hid brg
  have Hrgxb := Lib.hid xbrg
  clear brg xbrg
  clear hErg
  have Hrgk := Lib.hid krg
  have Hrgx := Lib.hid xrg
  have Hrgst := Lib.hid strg
  have Hrgc := Lib.hid crg
  have HrghC := Lib.hid hCrg
  have HrghX := Lib.hid hXrg
  have Hrge0 := Lib.hid erg0
  have Hrge1 := Lib.hid erg1
  have Hrge2 := Lib.hid erg2
  have Hrge3 := Lib.hid erg3
  have Hrge4 := Lib.hid erg4
  have Hrge5 := Lib.hid erg5
  have Hrge6 := Lib.hid erg6
  have Hrge7 := Lib.hid erg7
  have Hrge8 := Lib.hid erg8
  have Hrge9 := Lib.hid erg9
  have Hrge10 := Lib.hid erg10
  have Hrge11 := Lib.hid erg11
  have Hrge12 := Lib.hid erg12
  have Hrge13 := Lib.hid erg13
  clear krg xrg strg crg hCrg hXrg erg0 erg1 erg2 erg3 erg4 erg5 erg6 erg7 erg8 erg9 erg10 erg11 erg12 erg13
  go_wp2_with fail
  refine Reg.regionF Erg Crg Xrg Hrgst.out (by kernel_rfl) (by kernel_rfl) (by kernel_rfl) Hrgc.out (fun Frg hFrg => ?_)
  simp only [Reg.frame, Reg.dsts, List.map_cons, List.map_nil, Mix.put_lit, List.set_cons_succ, List.set_cons_zero, Nat.zero_add, Nat.reduceAdd] at hFrg
  refine ⟨?_, ?_⟩
  · refine ⟨?_, ?_, ?_, ?_, ?_, ?_, ?_, ?_, ?_, ?_, ?_, ?_, ?_, ?_, trivial⟩
    · intro Lq wq xq hh
      simp only [hFrg]
      refine .inl ⟨rfl, ?_⟩
      unfold Reg.upon
      have hk := Hrgk.out 0 Lq wq (by decide)  hh.cls
      have hx := Hrgx.out wq
      have he : Erg 0 (.pointer (some ⟨gg, 0, none⟩)) wq := by rw [Hrge0.out]
      have HK := Lib.hid (And.intro hk (And.intro he hx))
      clear hk hx he
      go_simp
      exact HK.out
    · intro Lq wq xq hh
      simp only [hFrg]
      refine .inl ⟨rfl, ?_⟩
      unfold Reg.upon
      have hk := Hrgk.out 1 Lq wq (by decide)  hh.cls
      have hx := Hrgx.out wq
      have he : Erg 1 (.int .i64 f) wq := by rw [Hrge1.out]
      have HK := Lib.hid (And.intro hk (And.intro he hx))
      clear hk hx he
      go_simp
      exact HK.out
    · intro Lq wq xq hh
      simp only [hFrg]
      refine .inl ⟨rfl, ?_⟩
      unfold Reg.upon
      have hk := Hrgk.out 2 Lq wq (by decide)  hh.cls
      have hx := Hrgx.out wq
      have he : Erg 2 (.pointer (some ⟨gg, 0, none⟩)) wq := by rw [Hrge2.out]
      have HK := Lib.hid (And.intro hk (And.intro he hx))
      clear hk hx he
      go_simp
      exact HK.out
    · intro Lq wq xq hh
      simp only [hFrg]
      refine .inl ⟨rfl, ?_⟩
      unfold Reg.upon
      have hk := Hrgk.out 3 Lq wq (by decide)  hh.cls
      have hx := Hrgx.out wq
      have he : Erg 3 (.int .i64 q) wq := by rw [Hrge3.out]
      have HK := Lib.hid (And.intro hk (And.intro he hx))
      clear hk hx he
      go_simp
      exact HK.out
    · intro Lq wq xq hh
      have d2 : Erg 2 (xq 2) wq := hh.val 2 (by kernel_rfl) (by kernel_rfl)
      rw [Hrge2.out] at d2
      have d3 : Erg 3 (xq 3) wq := hh.val 3 (by kernel_rfl) (by kernel_rfl)
      rw [Hrge3.out] at d3
      simp only [hFrg, d2, d3]
      clear d2 d3
      refine .inl ⟨rfl, ?_⟩
      unfold Reg.upon
      have hc : Crg Lq wq := hh.cls
      rw [HrghC.out] at hc
      have hc4 := hc.1 (Mix.one_un (hh.notYet 13 (by kernel_rfl)))
      go_simp
      refine (scblanks_any B gg gr wd q Rs wq (HG.out.below (HB1.out.trans (hc4.mono HB1.out.size))) hq9).mono ?_
      rintro e w2 ⟨v2, Ns, rfl, ⟨Zn, n1, n2, n3, n4⟩, hm, hb⟩
      refine ⟨_, rfl, Hrgk.out 4 Lq w2 (by decide) (Hrgb.out Lq wq w2 hh.cls hb), ?_, Hrgxb.out wq w2 hb⟩
      rw [Hrge4.out]
      exact ⟨Ns, ⟨Zn, fun b hz => ⟨Nat.le_trans hc4.size (n1 b hz).1, (n1 b hz).2⟩, ⟨fun i hi => (n4.row i hi).base hc4.size, n4.out, n4.apart⟩⟩, (n2.zoneP (Y := fun b => w.heap.size ≤ b)).held (fun b hb _ => Nat.le_trans (Nat.le_trans HB1.out.size hc4.size) hb), hm⟩
    · intro Lq wq xq hh
      simp only [hFrg]
      refine .inl ⟨rfl, ?_⟩
      unfold Reg.upon
      have hk := Hrgk.out 5 Lq wq (by decide)  hh.cls
      have hx := Hrgx.out wq
      have he : Erg 5 (.slice (some ⟨gt, 0, none⟩) l ct) wq := by rw [Hrge5.out]
      have HK := Lib.hid (And.intro hk (And.intro he hx))
      clear hk hx he
      go_simp
      exact HK.out
    · intro Lq wq xq hh
      simp only [hFrg]
      refine .inl ⟨rfl, ?_⟩
      unfold Reg.upon
      have hk := Hrgk.out 6 Lq wq (by decide)  hh.cls
      have hx := Hrgx.out wq
      have he : Erg 6 (.slice (some ⟨gt, 0, none⟩) l ct) wq := by rw [Hrge6.out]
      have HK := Lib.hid (And.intro hk (And.intro he hx))
      clear hk hx he
      go_simp
      exact HK.out
    · intro Lq wq xq hh
      have d6 : Erg 6 (xq 6) wq := hh.val 6 (by kernel_rfl) (by kernel_rfl)
      rw [Hrge6.out] at d6
      simp only [hFrg, d6]
      clear d6
      refine .inl ⟨rfl, ?_⟩
      unfold Reg.upon
      have hk := Hrgk.out 7 Lq wq (by decide)  hh.cls
      have hx := Hrgx.out wq
      have he : Erg 7 (.int .i64 l) wq := by rw [Hrge7.out]
      have HK := Lib.hid (And.intro hk (And.intro he hx))
      clear hk hx he
      go_simp
      exact HK.out
    · intro Lq wq xq hh
      simp only [hFrg]
      refine .inl ⟨rfl, ?_⟩
      unfold Reg.upon
      have hk := Hrgk.out 8 Lq wq (by decide)  hh.cls
      have hx := Hrgx.out wq
      have he : Erg 8 (.int .i64 q) wq := by rw [Hrge8.out]
      have HK := Lib.hid (And.intro hk (And.intro he hx))
      clear hk hx he
      go_simp
      exact HK.out
    · intro Lq wq xq hh
      have d7 : Erg 7 (xq 7) wq := hh.val 7 (by kernel_rfl) (by kernel_rfl)
      rw [Hrge7.out] at d7
      have d8 : Erg 8 (xq 8) wq := hh.val 8 (by kernel_rfl) (by kernel_rfl)
      rw [Hrge8.out] at d8
      simp only [hFrg, d7, d8]
      clear d7 d8
      refine .inl ⟨rfl, ?_⟩
      unfold Reg.upon
      go_simp
      try rw [hw8]
      try rw [hw7]
      exact ⟨Hrgk.out 9 Lq wq (by decide) hh.cls, (by rw [Hrge9.out]), Hrgx.out _⟩
    · intro Lq wq xq hh
      have d5 : Erg 5 (xq 5) wq := hh.val 5 (by kernel_rfl) (by kernel_rfl)
      rw [Hrge5.out] at d5
      have d9 : Erg 9 (xq 9) wq := hh.val 9 (by kernel_rfl) (by kernel_rfl)
      rw [Hrge9.out] at d9
      simp only [hFrg, d5, d9]
      clear d5 d9
      refine .inl ⟨rfl, ?_⟩
      unfold Reg.upon
      have hk := Hrgk.out 10 Lq wq (by decide)  hh.cls
      have hx := Hrgx.out wq
      have he : Erg 10 (.slice (some ⟨gt, 0, none⟩) (l - q) ct) wq := by rw [Hrge10.out]
      have HK := Lib.hid (And.intro hk (And.intro he hx))
      clear hk hx he
      go_simp
      exact HK.out
    · intro Lq wq xq hh
      have d4 : Erg 4 (xq 4) wq := hh.val 4 (by kernel_rfl) (by kernel_rfl)
      rw [Hrge4.out] at d4
      have d10 : Erg 10 (xq 10) wq := hh.val 10 (by kernel_rfl) (by kernel_rfl)
      rw [Hrge10.out] at d10
      simp only [hFrg, d10]
      clear d10
      refine .inl ⟨rfl, ?_⟩
      unfold Reg.upon
      have hc : Crg Lq wq := hh.cls
      rw [HrghC.out] at hc
      have hc0 := hc.1 (Mix.one_un (hh.notYet 13 (by kernel_rfl)))
      obtain ⟨Ns, hn, hh8, hm⟩ := d4
      obtain ⟨ao4, ca4, e4⟩ := hh8.len
      have hb1 := (Below.refl wq.heap.size wq).alloc (Nat.le_refl _) (.cells #[xq 4, .slice (some ⟨gt, 0, none⟩) (l - q) ct] 100)
      have hcc := HC.out wq hc0
      have ho := two_ptrs (Z := fun b => w.heap.size ≤ b) (B := w.heap.size) hh8 hcc (Nat.le_trans HB1.out.size hc0.size) (fun _ h => h)
      rw [e4] at ho hb1 ⊢
      clear hcc
      go_simp
      refine ⟨Hrgk.out 11 Lq _ (by decide) (Hrgb.out Lq wq _ hh.cls hb1), ?_, Hrgxb.out wq _ hb1⟩
      rw [Hrge11.out]
      exact ⟨Ns, hn.upd (S := fun b => b < w1.heap.size) (.ofBelow hb1) (fun _ e => e), ho, hm⟩
    · intro Lq wq xq hh
      have d11 : Erg 11 (xq 11) wq := hh.val 11 (by kernel_rfl) (by kernel_rfl)
      rw [Hrge11.out] at d11
      simp only [hFrg]
      refine .inl ⟨rfl, ?_⟩
      unfold Reg.upon
      have hc : Crg Lq wq := hh.cls
      rw [HrghC.out] at hc
      have hc0 := hc.1 (Mix.one_un (hh.notYet 13 (by kernel_rfl)))
      obtain ⟨Ns, hn, hh9, hm⟩ := d11
      have hnl := (lines_wide hm).1
      go_simp
      refine (pconcat_any (fun b => w.heap.size ≤ b) _ _ wq hh9 (by simp) (by have := HT2.out; simp only [List.flatten_cons, List.flatten_nil, List.append_nil, List.length_append, List.length_take, ptrs_len]; omega)).mono ?_
      rintro e w4 ⟨v4, rfl, ho, hb⟩
      refine ⟨_, rfl, Hrgk.out 12 Lq w4 (by decide) (Hrgb.out Lq wq w4 hh.cls hb), ?_, Hrgxb.out wq w4 hb⟩
      rw [Hrge12.out]
      exact ⟨Ns, hn.upd (S := fun b => b < w1.heap.size) (.ofBelow hb) (fun _ e => e), by simpa using ho.held (fun b h _ => Nat.le_trans (Nat.le_trans HB1.out.size hc0.size) h), hm⟩
    · intro Lq wq xq hh
      have d0 : Erg 0 (xq 0) wq := hh.val 0 (by kernel_rfl) (by kernel_rfl)
      rw [Hrge0.out] at d0
      have d1 : Erg 1 (xq 1) wq := hh.val 1 (by kernel_rfl) (by kernel_rfl)
      rw [Hrge1.out] at d1
      have d12 : Erg 12 (xq 12) wq := hh.val 12 (by kernel_rfl) (by kernel_rfl)
      rw [Hrge12.out] at d12
      simp only [hFrg, d0, d1]
      clear d0 d1
      refine .inl ⟨rfl, ?_⟩
      unfold Reg.upon
      have hc : Crg Lq wq := hh.cls
      rw [HrghC.out] at hc
      have hc0 := hc.1 hh.un
      have hbw := HB1.out.trans (hc0.mono HB1.out.size)
      obtain ⟨Ns, hn, hh9, hm⟩ := d12
      rw [HMID.out] at hh9
      go_simp
      refine (scset_down B gg gr wd f t q w1.heap.size Rs Ns _ w wq HG.out hbw HQT.out.2 HTL.out (by rw [← HLE.out]; exact HQT.out.1) hn HB1.out.size hm hh9).mono ?_
      rintro e w4 ⟨rfl, hmd, hu⟩
      refine ⟨_, rfl, ?_, (by rw [Hrge13.out]), (by rw [HrghX.out]; exact hu)⟩
      rw [HrghC.out]
      dsimp only
      refine ⟨fun e => ?_, fun _ => hmd⟩
      rw [Mix.one_set (by rw [hh.size]; decide)] at e
      exact absurd e (by decide)
  intro xq wrg hcrg hvrg
  rw [HrghC.out] at hcrg
  simp only [hFrg]
  have vrg13 : Erg 13 (xq 13) wrg := hvrg 13 (by decide)
  rw [Hrge13.out] at vrg13
  rw [vrg13]
  clear hvrg hFrg Hrgk Hrgx Hrgst Hrgc HrghC HrghX Hrgb Hrgxb Hrge0 Hrge1 Hrge2 Hrge3 Hrge4 Hrge5 Hrge6 Hrge7 Hrge8 Hrge9 Hrge10 Hrge11 Hrge12 Hrge13
  have HE := Lib.hid (hcrg.2 (by kernel_rfl))
  clear hcrg vrg13
  obtain ⟨Ns, ⟨hm, hns⟩, hg, hu⟩ := HE.out
  have hnl := (lines_wide hm).1
  have hml := downMid_len (Rs := Rs) (Ns := Ns) (f := f) (t := t) (q := q) (by omega) HTL.out (by rw [← HLE.out]; omega) hnl
  obtain ⟨R', hR'⟩ : ∃ R', R' = Rs.take f ++ downMid Rs Ns f t q ++ Rs.drop (f + (downMid Rs Ns f t q).length) := ⟨_, rfl⟩
  have hrl : R'.length = Rs.length := by rw [hR', List.length_append, List.length_append, List.length_take, List.length_drop, hml]; have := HTL.out; omega
  have hg : GridAt wrg B gg gr wd (if f = 0 then R' else offAt R' (f - 1)) := by rw [hR']; exact hg
  obtain ⟨R2, hR2⟩ : ∃ R2, R2 = (if f = 0 then R' else offAt R' (f - 1)) := ⟨_, rfl⟩
  have hr2 : R2.length = Rs.length ∧ (R2.getD (t - 1) r0).g = (R'.getD (t - 1) r0).g ∧ (R2.getD (t - 1) r0).gc = (R'.getD (t - 1) r0).gc := by
    rw [hR2]
    split
    · exact ⟨hrl, rfl, rfl⟩
    · unfold offAt
      refine ⟨by rw [List.length_set]; exact hrl, ?_⟩
      rw [getD_setI _ _ _ _ _ (by rw [hrl]; have := HTL.out; omega), if_neg (by omega)]
      exact ⟨rfl, rfl⟩
  rw [← hR2] at hg
  have htl : t - 1 < R2.length := by rw [hr2.1]; have := HTL.out; omega
  have h1 := grow_in B gg gr wd R2 (t - 1) wrg hg htl
  have h2 := ggoon_any B gg gr wd (t - 1) R2 false wrg hg htl
  rw [hr2.2.1, hr2.2.2] at h2
  rw [hr2.2.1] at h1
  have HOLD := Lib.hid (show (∃ i, i < Rs.length ∧ R'.getD (t - 1) r0 = Rs.getD i r0) ∨ (w.heap.size ≤ (R'.getD (t - 1) r0).g ∧ w.heap.size ≤ (R'.getD (t - 1) r0).gc) from by
    have hqt9 := HQT.out
    have hle9 := HLE.out
    have htl9 := HTL.out
    rw [hR', mid_at _ hml (by omega) HTL.out, if_neg (by omega), if_pos (by omega), down_at (by omega) HTL.out (by omega) hnl _ (by omega)]
    split
    · exact .inr (hns _ (by omega))
    · exact .inl ⟨_, by omega, rfl⟩)
  have HD := Lib.hid (show ∀ wz, GridAt wz B gg gr wd (offAt R2 (t - 1)) → Upd (fun x => x = (R'.getD (t - 1) r0).g ∨ x = (R'.getD (t - 1) r0).gc) wrg wz → DownDone w B gg gr wd f t q Rs (fun Ns => Rs.take f ++ downMid Rs Ns f t q ++ Rs.drop (f + (downMid Rs Ns f t q).length)) wz from fun wz k1 k2 => by
    refine ⟨Ns, ⟨hm, hns⟩, ?_, ?_⟩
    · dsimp only; rw [← hR', ← hR2]; exact k1
    · exact hu.trans (k2.mono fun b _ e => by
        rcases HOLD.out with ⟨i, hi, e2⟩ | h9
        · rw [e2] at e; exact .inr (.inl ⟨i, hi, e⟩)
        · exact .inr (.inr (by rcases e with e | e <;> omega))))
  have hoff : R2.set (t - 1) ⟨(R'.getD (t - 1) r0).g, (R'.getD (t - 1) r0).gc, (R2.getD (t - 1) r0).L, false⟩ = offAt R2 (t - 1) := by unfold offAt; rw [hr2.2.1, hr2.2.2]
  rw [hoff] at h2
  obtain ⟨p, hp⟩ : ∃ p, p = (R'.getD (t - 1) r0).g := ⟨_, rfl⟩
  have H2 := Lib.hid (show Calls Tryd.prog 62 #[.pointer (some ⟨p, 0, none⟩), .bool false] wrg _ by rw [hp]; exact h2)
  rw [← hp] at h1
  obtain ⟨t', ht'⟩ : ∃ t' : Nat, t = t' + 1 := ⟨t - 1, by omega⟩
  have hti : (t : Int) - 1 = ((t - 1 : Nat) : Int) := by omega
  have htw : IntKind.i64.wrap ((t - 1 : Nat) : Int) = ((t - 1 : Nat) : Int) := by rw [IntKind.wrap_i64]; have := HTL.out; have := HSZ9.out; omega
  have H1 := Lib.hid h1
  clear hm hns hg hu hR' hR2 hr2 h1 h2 hoff hp hrl hml hnl ht' htl HE
  go_upto_region 4 with (fail)
  go_wp2_with fail
  have h1 := H1.out
  refine h1.mono ?_
  rintro e wz ⟨rfl, rfl⟩
  clear h1
  go_wp2_with fail
  refine H2.out.mono ?_
  rintro e wz ⟨rfl, k1, k2⟩
  have HF := Lib.hid (HD.out wz k1 k2)
  clear k1 k2 H2 H1
  go_wp2
  exact bodyPost_end (by kernel_rfl) rfl ⟨rfl, HF.out⟩
end Go.Proofs.YteinppjklhomnaaDoor
