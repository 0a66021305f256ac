/- shift: Insert. -/
import Derived.Test.YtgndolgihplngaaDoorMg4
import Derived.Test.YtgndolgihplngaaDoorMg1
import Derived.Test.YtgndolgihplngaaDoorMg5
import Derived.Deep.Cut
namespace Go.Proofs.YtgndolgihplngaaDoor
open Go.RowKit Go.ChangeShapes Go.WideShapes
theorem part3 {Z : Zone} {w : World} {gq cap : Nat} {L : List Cl} (h : HeldE cellE Z w (.slice (some ⟨gq, 0, none⟩) L.length cap) L) (lo hi : Nat) (h1 : lo ≤ hi) (h2 : hi ≤ L.length) : HeldE cellE Z w (.slice (some ⟨gq, lo * 2, none⟩) (hi - lo) (cap - lo)) ((L.drop lo).take (hi - lo)) := by
  obtain ⟨_, hn, _⟩ := h.spots
  obtain ⟨_, _, e, hcm, _⟩ := id h
  cases e
  exact h.part lo hi h1 h2 (some ⟨gq, lo * 2, none⟩) (cap - lo) (fun e => by cases e) (fun b off e _ => by cases e; simp [cellE_size]) (fun _ _ => by simp) (by omega) (by omega)
theorem three_own {Z : Zone} {w : World} {B : Nat} {a b c : Value} {la lb lc : List Cl} (ha : HeldE cellE Z w a la) (hb : HeldE cellE Z w b lb) (hc : HeldE cellE Z w c lc) (hB : B ≤ w.heap.size) (hz : ∀ b, B ≤ b → Z b) : HeldE cellsE Z (w.alloc (.cells #[a, b, c] 54)) (.slice (some ⟨w.heap.size, 0, none⟩) 3 3) [la, lb, lc] := by
  refine (OwnE.lit w cellsE [[a], [b], [c]] [la, lb, lc] 3 rfl rfl hB (by decide) (fun i hi => ?_) _ rfl).held (fun b hb _ => hz b hb)
  match i, hi with
  | 0, _ => exact ⟨_, rfl, ha⟩
  | 1, _ => exact ⟨_, rfl, hb⟩
  | 2, _ => exact ⟨_, rfl, hc⟩
set_option maxRecDepth 100000 in
set_option maxHeartbeats 3000000 in
theorem sins_goodz (Z : Zone) (B g gc : Nat) (L : List Cl) (wrap : Bool) (c m : Nat) (n : Int) (w : World) (hZ : ∀ b, w.heap.size ≤ b → Z b) (h : RowAt Z w B g gc L wrap) (hc : c < L.length) (hn : 1 ≤ n) (hm : min n ((L.length : Int) - c) = m) : Calls Tryd.prog 92 #[.pointer (some ⟨g, 0, none⟩), .int .i64 c, .int .i64 n] w (RowTurned Z w B g gc (insL L c m) false) := by
  obtain ⟨hl0, hl1, hs⟩ := h.len
  have hlt := h.lt
  have hm0 : 0 < m := by omega
  have hcm : c + m ≤ L.length := by omega
  have HR := Lib.hid h
  have HGL := Lib.hid hlt
  have HD := Lib.hid (sheld_good _ B g gc L wrap c n w h hc hn m hm)
  have HS := Lib.hid hs
  have HIS := Lib.hid (ins_sound (m := m) hs (c := c) hm0)
  have HIL := Lib.hid (ins_len hcm)
  have HTL := Lib.hid (tear_len L c)
  have HII := Lib.hid (show insL L c m = fixL ((tearL L c).take c ++ List.replicate m zc ++ ((tearL L c).drop c).take (L.length - m - c)) by unfold insL; rw [show L.length - c - m = L.length - m - c by omega])
  clear h hlt hn hm hs
  go_enter Tryd.func92, Tryd.ntmps92
  go_wp2_with fail
  refine HD.out.mono ?_
  rintro e w1 ⟨rfl, rfl⟩
  go_wp2_with fail
  refine (rcells_any _ B g gc L wrap w HR.out).mono ?_
  rintro e w1 ⟨v1, rfl, ho1, b1⟩
  obtain ⟨gq, cap, rfl, hq1, hq2⟩ := ho1.some hl0
  have HQ := Lib.hid (And.intro hq1 hq2)
  have HT := Lib.hid (stear_any _ _ gq cap L c w1 ho1 HS.out hl1)
  have HB1 := Lib.hid b1
  clear ho1 b1 hq1 hq2
  go_wp2_with fail
  refine HT.out.mono ?_
  rintro e w2 ⟨rfl, ho2, u2⟩
  obtain ⟨Tl, hTl⟩ : ∃ Tl, Tl = tearL L c := ⟨_, rfl⟩
  rw [← hTl] at ho2 HTL HII
  clear hTl
  rw [HTL.out] at ho2
  have hh2 := ho2.held (Z := fun b => w.heap.size ≤ b) (fun b hb _ => hb)
  have hqc : L.length ≤ cap := by obtain ⟨_, hn, _⟩ := hh2.spots; exact hn
  have HH := Lib.hid (HTL.out.symm ▸ hh2 : HeldE cellE (fun b => w.heap.size ≤ b) w2 (.slice (some ⟨gq, 0, none⟩) Tl.length cap) Tl)
  have b12 := u2.below (B := w.heap.size) (Nat.le_trans HB1.out.size (Nat.le_refl _)) (fun b e => by have := HQ.out.1; omega)
  have B2 := Lib.hid (HB1.out.trans b12)
  clear ho2 u2 hh2 HT b12
  have HA := Lib.hid (fun w' (b : Below w2.heap.size w2 w') => part3 (HH.out.below b) 0 c (Nat.zero_le _) (by rw [HTL.out]; omega))
  have HC := Lib.hid (fun w' (b : Below w2.heap.size w2 w') => part3 (HH.out.below b) c (L.length - m) (by omega) (by rw [HTL.out]; omega))
  have hsub : IntKind.i64.wrap ((L.length : Int) - m) = (L.length : Int) - m := by rw [IntKind.wrap_i64]; omega
  have hz0 : (c : Int) ≤ (cap : Int) := by omega
  have hz1 : (c : Int) ≤ (L.length : Int) - m := by omega
  have hz2 : (L.length : Int) - m ≤ (cap : Int) := by omega
  have hz3 : ¬ (cap = c) := by omega
  have hz4 : (0 : Int) ≤ (L.length : Int) - m := by omega
  obtain ⟨N, hN⟩ : ∃ N : Nat, (L.length : Int) - m = N := ⟨L.length - m, by omega⟩
  have hNw : IntKind.i64.wrap (N : Int) = (N : Int) := by rw [IntKind.wrap_i64]; omega
  have hz5 : (c : Int) ≤ (N : Int) := by omega
  have hz6 : (N : Int) ≤ (cap : Int) := by omega
  have hz7 : c ≤ N := by omega
  have hz8 : N ≤ cap := by omega
  have hz9 : c ≤ cap := by omega
  have HNL := Lib.hid (show L.length - m = N by omega)
  obtain ⟨M, hM⟩ : ∃ M, M = Tl.take c ++ List.replicate m zc ++ (Tl.drop c).take (N - c) := ⟨_, rfl⟩
  rw [HNL.out, ← hM] at HII
  have HFM := Lib.hid (show [Tl.take c, List.replicate m zc, (Tl.drop c).take (N - c)].flatten = M by rw [hM]; simp)
  have HML := Lib.hid (show M.length = L.length by rw [← fix_len, ← HII.out]; exact HIL.out)
  have HFL := Lib.hid (show [Tl.take c, List.replicate m zc, (Tl.drop c).take (N - c)].flatten.length ≤ 1000000 by rw [HFM.out, HML.out]; omega)
  clear hM
  go_upto_region 4 with (fail)
  obtain ⟨Erg, hErg⟩ : ∃ EE : Nat → Value → World → Prop, EE = fun jj xx ww => match jj with
      | 0 => xx = .slice (some ⟨gq, 0, none⟩) L.length cap
      | 1 => xx = .int .i64 c
      | 2 => xx = .slice (some ⟨gq, 0, none⟩) c cap
      | 3 => xx = .int .i64 m
      | 4 => (fun x w' => HeldE cellE (fun b => w.heap.size ≤ b) w' x (List.replicate m zc)) xx ww
      | 5 => xx = .slice (some ⟨gq, 0, none⟩) L.length cap
      | 6 => xx = .int .i64 c
      | 7 => xx = .slice (some ⟨gq, 0, none⟩) L.length cap
      | 8 => xx = .int .i64 L.length
      | 9 => xx = .int .i64 m
      | 10 => xx = .int .i64 N
      | 11 => xx = .slice (some ⟨gq, c * 2, none⟩) (N - c) (cap - c)
      | 12 => (fun x w' => HeldE cellsE (fun b => w.heap.size ≤ b) w' x [Tl.take c, List.replicate m zc, (Tl.drop c).take (N - c)]) xx ww
      | 13 => (fun x w' => OwnE cellE (fun b => w.heap.size ≤ b) w' w.heap.size 73 x M) xx ww
      | 14 => (fun x w' => OwnE cellE (fun b => w.heap.size ≤ b) w' w.heap.size 73 x M) xx ww
      | _ => True := ⟨_, rfl⟩
  have erg0 : ∀ xx ww, Erg 0 xx ww = (xx = .slice (some ⟨gq, 0, none⟩) L.length cap) := fun xx ww => congrFun (congrFun (congrFun hErg 0) xx) ww
  have erg1 : ∀ xx ww, Erg 1 xx ww = (xx = .int .i64 c) := fun xx ww => congrFun (congrFun (congrFun hErg 1) xx) ww
  have erg2 : ∀ xx ww, Erg 2 xx ww = (xx = .slice (some ⟨gq, 0, none⟩) c cap) := fun xx ww => congrFun (congrFun (congrFun hErg 2) xx) ww
  have erg3 : ∀ xx ww, Erg 3 xx ww = (xx = .int .i64 m) := fun xx ww => congrFun (congrFun (congrFun hErg 3) xx) ww
  have erg4 : ∀ xx ww, Erg 4 xx ww = ((fun x w' => HeldE cellE (fun b => w.heap.size ≤ b) w' x (List.replicate m zc)) xx ww) := fun xx ww => congrFun (congrFun (congrFun hErg 4) xx) ww
  have erg5 : ∀ xx ww, Erg 5 xx ww = (xx = .slice (some ⟨gq, 0, none⟩) L.length cap) := fun xx ww => congrFun (congrFun (congrFun hErg 5) xx) ww
  have erg6 : ∀ xx ww, Erg 6 xx ww = (xx = .int .i64 c) := fun xx ww => congrFun (congrFun (congrFun hErg 6) xx) ww
  have erg7 : ∀ xx ww, Erg 7 xx ww = (xx = .slice (some ⟨gq, 0, none⟩) L.length cap) := fun xx ww => congrFun (congrFun (congrFun hErg 7) xx) ww
  have erg8 : ∀ xx ww, Erg 8 xx ww = (xx = .int .i64 L.length) := fun xx ww => congrFun (congrFun (congrFun hErg 8) xx) ww
  have erg9 : ∀ xx ww, Erg 9 xx ww = (xx = .int .i64 m) := fun xx ww => congrFun (congrFun (congrFun hErg 9) xx) ww
  have erg10 : ∀ xx ww, Erg 10 xx ww = (xx = .int .i64 N) := fun xx ww => congrFun (congrFun (congrFun hErg 10) xx) ww
  have erg11 : ∀ xx ww, Erg 11 xx ww = (xx = .slice (some ⟨gq, c * 2, none⟩) (N - c) (cap - c)) := fun xx ww => congrFun (congrFun (congrFun hErg 11) xx) ww
  have erg12 : ∀ xx ww, Erg 12 xx ww = ((fun x w' => HeldE cellsE (fun b => w.heap.size ≤ b) w' x [Tl.take c, List.replicate m zc, (Tl.drop c).take (N - c)]) xx ww) := fun xx ww => congrFun (congrFun (congrFun hErg 12) xx) ww
  have erg13 : ∀ xx ww, Erg 13 xx ww = ((fun x w' => OwnE cellE (fun b => w.heap.size ≤ b) w' w.heap.size 73 x M) xx ww) := fun xx ww => congrFun (congrFun (congrFun hErg 13) xx) ww
  have erg14 : ∀ xx ww, Erg 14 xx ww = ((fun x w' => OwnE cellE (fun b => w.heap.size ≤ b) w' w.heap.size 73 x M) xx ww) := fun xx ww => congrFun (congrFun (congrFun hErg 14) xx) ww
  obtain ⟨Crg, hCrg⟩ : ∃ CC : Array Bool → World → Prop, CC = fun L8 w' => Below w2.heap.size w2 w' := ⟨_, rfl⟩
  have krg : ∀ i L w,  Crg L w → Crg (L.setIfInBounds i true) w := by
    intro i L w  h
    rw [hCrg] at h ⊢
    exact h
  obtain ⟨Xrg, hXrg⟩ : ∃ XX : World → World → Prop, XX = fun x y => Below x.heap.size x y := ⟨_, rfl⟩
  have xrg : ∀ w, Xrg w w := fun w => by rw [hXrg]; exact Below.refl _ _
  have strg : ∀ j x w w1, Xrg w w1 → Erg j x w → Erg j x w1 := by
    intro j x w w1 hx h
    rw [hXrg] at hx
    match j with
    | 0 => rw [erg0] at h ⊢; exact h
    | 1 => rw [erg1] at h ⊢; exact h
    | 2 => rw [erg2] at h ⊢; exact h
    | 3 => rw [erg3] at h ⊢; exact h
    | 4 => rw [erg4] at h ⊢; (first | exact HeldE.below h hx | exact OwnE.below h hx)
    | 5 => rw [erg5] at h ⊢; exact h
    | 6 => rw [erg6] at h ⊢; exact h
    | 7 => rw [erg7] at h ⊢; exact h
    | 8 => rw [erg8] at h ⊢; exact h
    | 9 => rw [erg9] at h ⊢; exact h
    | 10 => rw [erg10] at h ⊢; exact h
    | 11 => rw [erg11] at h ⊢; exact h
    | 12 => rw [erg12] at h ⊢; (first | exact HeldE.below h hx | exact OwnE.below h hx)
    | 13 => rw [erg13] at h ⊢; (first | exact HeldE.below h hx | exact OwnE.below h hx)
    | 14 => rw [erg14] at h ⊢; (first | exact HeldE.below h hx | exact OwnE.below h hx)
    | j + 15 => rw [hErg]; trivial
  have crg : Crg (Array.replicate 15 false) w2.drew := by rw [hCrg]; exact (Below.refl _ _).drew
  have brg : ∀ L w w1, Crg L w → Below w.heap.size w w1 → Crg L w1 := by
    intro L w w1 h hb
    rw [hCrg] at h ⊢
    exact h.trans (hb.mono h.size)
  have xbrg : ∀ w w1, Below w.heap.size w w1 → Xrg w w1 := by
    intro w w1 hb
    rw [hXrg]
    exact hb
  have Hrgb := Lib.hid brg
  have Hrgxb := Lib.hid xbrg
  clear brg xbrg
  clear hErg
  have Hrgk := Lib.hid krg
  have Hrgx := Lib.hid xrg
  have Hrgst := Lib.hid strg
  have Hrgc := Lib.hid crg
  have HrghC := Lib.hid hCrg
  have HrghX := Lib.hid hXrg
  have Hrge0 := Lib.hid erg0
  have Hrge1 := Lib.hid erg1
  have Hrge2 := Lib.hid erg2
  have Hrge3 := Lib.hid erg3
  have Hrge4 := Lib.hid erg4
  have Hrge5 := Lib.hid erg5
  have Hrge6 := Lib.hid erg6
  have Hrge7 := Lib.hid erg7
  have Hrge8 := Lib.hid erg8
  have Hrge9 := Lib.hid erg9
  have Hrge10 := Lib.hid erg10
  have Hrge11 := Lib.hid erg11
  have Hrge12 := Lib.hid erg12
  have Hrge13 := Lib.hid erg13
  have Hrge14 := Lib.hid erg14
  clear krg xrg strg crg hCrg hXrg erg0 erg1 erg2 erg3 erg4 erg5 erg6 erg7 erg8 erg9 erg10 erg11 erg12 erg13 erg14
  go_wp2_with fail
  refine Reg.regionF Erg Crg Xrg Hrgst.out (by kernel_rfl) (by kernel_rfl) (by kernel_rfl) Hrgc.out (fun Frg hFrg => ?_)
  simp only [Reg.frame, Reg.dsts, List.map_cons, List.map_nil, Mix.put_lit, List.set_cons_succ, List.set_cons_zero, Nat.zero_add, Nat.reduceAdd] at hFrg
  refine ⟨?_, ?_⟩
  · refine ⟨?_, ?_, ?_, ?_, ?_, ?_, ?_, ?_, ?_, ?_, ?_, ?_, ?_, ?_, ?_, trivial⟩
    · intro Lq wq xq hh
      simp only [hFrg]
      refine .inl ⟨rfl, ?_⟩
      unfold Reg.upon
      have hk := Hrgk.out 0 Lq wq  hh.cls
      have hx := Hrgx.out wq
      have he : Erg 0 (.slice (some ⟨gq, 0, none⟩) L.length cap) wq := by rw [Hrge0.out]
      have HK := Lib.hid (And.intro hk (And.intro he hx))
      clear hk hx he
      go_simp
      exact HK.out
    · intro Lq wq xq hh
      simp only [hFrg]
      refine .inl ⟨rfl, ?_⟩
      unfold Reg.upon
      have hk := Hrgk.out 1 Lq wq  hh.cls
      have hx := Hrgx.out wq
      have he : Erg 1 (.int .i64 c) wq := by rw [Hrge1.out]
      have HK := Lib.hid (And.intro hk (And.intro he hx))
      clear hk hx he
      go_simp
      exact HK.out
    · intro Lq wq xq hh
      have d0 : Erg 0 (xq 0) wq := hh.val 0 (by kernel_rfl) (by kernel_rfl)
      rw [Hrge0.out] at d0
      have d1 : Erg 1 (xq 1) wq := hh.val 1 (by kernel_rfl) (by kernel_rfl)
      rw [Hrge1.out] at d1
      simp only [hFrg, d0, d1]
      clear d0 d1
      refine .inl ⟨rfl, ?_⟩
      unfold Reg.upon
      have hk := Hrgk.out 2 Lq wq  hh.cls
      have hx := Hrgx.out wq
      have he : Erg 2 (.slice (some ⟨gq, 0, none⟩) c cap) wq := by rw [Hrge2.out]
      have HK := Lib.hid (And.intro hk (And.intro he hx))
      clear hk hx he
      go_simp
      exact HK.out
    · intro Lq wq xq hh
      simp only [hFrg]
      refine .inl ⟨rfl, ?_⟩
      unfold Reg.upon
      have hk := Hrgk.out 3 Lq wq  hh.cls
      have hx := Hrgx.out wq
      have he : Erg 3 (.int .i64 m) wq := by rw [Hrge3.out]
      have HK := Lib.hid (And.intro hk (And.intro he hx))
      clear hk hx he
      go_simp
      exact HK.out
    · intro Lq wq xq hh
      have d3 : Erg 3 (xq 3) wq := hh.val 3 (by kernel_rfl) (by kernel_rfl)
      rw [Hrge3.out] at d3
      simp only [hFrg, d3]
      clear d3
      refine .inl ⟨rfl, ?_⟩
      unfold Reg.upon
      have hc : Crg Lq wq := hh.cls
      rw [HrghC.out] at hc
      go_simp
      refine (blanks_any (fun b => w.heap.size ≤ b) (m : Int) wq).mono ?_
      rintro e w3 ⟨v3, rfl, ho, hb⟩
      refine ⟨_, rfl, Hrgk.out 4 Lq w3 (Hrgb.out Lq wq w3 hh.cls hb), ?_, Hrgxb.out wq w3 hb⟩
      rw [Hrge4.out]
      rw [show blankN (m : Int) = m by unfold blankN; omega] at ho
      exact ho.held (fun b h _ => Nat.le_trans (Nat.le_trans B2.out.size hc.size) h)
    · intro Lq wq xq hh
      simp only [hFrg]
      refine .inl ⟨rfl, ?_⟩
      unfold Reg.upon
      have hk := Hrgk.out 5 Lq wq  hh.cls
      have hx := Hrgx.out wq
      have he : Erg 5 (.slice (some ⟨gq, 0, none⟩) L.length cap) wq := by rw [Hrge5.out]
      have HK := Lib.hid (And.intro hk (And.intro he hx))
      clear hk hx he
      go_simp
      exact HK.out
    · intro Lq wq xq hh
      simp only [hFrg]
      refine .inl ⟨rfl, ?_⟩
      unfold Reg.upon
      have hk := Hrgk.out 6 Lq wq  hh.cls
      have hx := Hrgx.out wq
      have he : Erg 6 (.int .i64 c) wq := by rw [Hrge6.out]
      have HK := Lib.hid (And.intro hk (And.intro he hx))
      clear hk hx he
      go_simp
      exact HK.out
    · intro Lq wq xq hh
      simp only [hFrg]
      refine .inl ⟨rfl, ?_⟩
      unfold Reg.upon
      have hk := Hrgk.out 7 Lq wq  hh.cls
      have hx := Hrgx.out wq
      have he : Erg 7 (.slice (some ⟨gq, 0, none⟩) L.length cap) wq := by rw [Hrge7.out]
      have HK := Lib.hid (And.intro hk (And.intro he hx))
      clear hk hx he
      go_simp
      exact HK.out
    · intro Lq wq xq hh
      have d7 : Erg 7 (xq 7) wq := hh.val 7 (by kernel_rfl) (by kernel_rfl)
      rw [Hrge7.out] at d7
      simp only [hFrg, d7]
      clear d7
      refine .inl ⟨rfl, ?_⟩
      unfold Reg.upon
      have hk := Hrgk.out 8 Lq wq  hh.cls
      have hx := Hrgx.out wq
      have he : Erg 8 (.int .i64 L.length) wq := by rw [Hrge8.out]
      have HK := Lib.hid (And.intro hk (And.intro he hx))
      clear hk hx he
      go_simp
      exact HK.out
    · intro Lq wq xq hh
      simp only [hFrg]
      refine .inl ⟨rfl, ?_⟩
      unfold Reg.upon
      have hk := Hrgk.out 9 Lq wq  hh.cls
      have hx := Hrgx.out wq
      have he : Erg 9 (.int .i64 m) wq := by rw [Hrge9.out]
      have HK := Lib.hid (And.intro hk (And.intro he hx))
      clear hk hx he
      go_simp
      exact HK.out
    · intro Lq wq xq hh
      have d8 : Erg 8 (xq 8) wq := hh.val 8 (by kernel_rfl) (by kernel_rfl)
      rw [Hrge8.out] at d8
      have d9 : Erg 9 (xq 9) wq := hh.val 9 (by kernel_rfl) (by kernel_rfl)
      rw [Hrge9.out] at d9
      simp only [hFrg, d8, d9]
      clear d8 d9
      refine .inl ⟨rfl, ?_⟩
      unfold Reg.upon
      have hk := Hrgk.out 10 Lq wq  hh.cls
      have hx := Hrgx.out wq
      have he : Erg 10 (.int .i64 N) wq := by rw [Hrge10.out]
      have HK := Lib.hid (And.intro hk (And.intro he hx))
      clear hk hx he
      go_simp
      exact HK.out
    · intro Lq wq xq hh
      have d5 : Erg 5 (xq 5) wq := hh.val 5 (by kernel_rfl) (by kernel_rfl)
      rw [Hrge5.out] at d5
      have d6 : Erg 6 (xq 6) wq := hh.val 6 (by kernel_rfl) (by kernel_rfl)
      rw [Hrge6.out] at d6
      have d10 : Erg 10 (xq 10) wq := hh.val 10 (by kernel_rfl) (by kernel_rfl)
      rw [Hrge10.out] at d10
      simp only [hFrg, d5, d6, d10]
      clear d5 d6 d10
      refine .inl ⟨rfl, ?_⟩
      unfold Reg.upon
      have hk := Hrgk.out 11 Lq wq  hh.cls
      have hx := Hrgx.out wq
      have he : Erg 11 (.slice (some ⟨gq, c * 2, none⟩) (N - c) (cap - c)) wq := by rw [Hrge11.out]
      have HK := Lib.hid (And.intro hk (And.intro he hx))
      clear hk hx he
      go_simp
      exact HK.out
    · intro Lq wq xq hh
      have d2 : Erg 2 (xq 2) wq := hh.val 2 (by kernel_rfl) (by kernel_rfl)
      rw [Hrge2.out] at d2
      have d4 : Erg 4 (xq 4) wq := hh.val 4 (by kernel_rfl) (by kernel_rfl)
      rw [Hrge4.out] at d4
      have d11 : Erg 11 (xq 11) wq := hh.val 11 (by kernel_rfl) (by kernel_rfl)
      rw [Hrge11.out] at d11
      simp only [hFrg, d2, d11]
      clear d2 d11
      refine .inl ⟨rfl, ?_⟩
      unfold Reg.upon
      have hc : Crg Lq wq := hh.cls
      rw [HrghC.out] at hc
      obtain ⟨ao4, ca4, e4⟩ := d4.len
      have hb1 := (Below.refl wq.heap.size wq).alloc (Nat.le_refl _) (.cells #[.slice (some ⟨gq, 0, none⟩) c cap, xq 4, .slice (some ⟨gq, c * 2, none⟩) (N - c) (cap - c)] 54)
      have ha := HA.out wq hc
      have hcc := HC.out wq hc
      rw [HNL.out] at hcc
      have ho := three_own (Z := fun b => w.heap.size ≤ b) (B := w.heap.size) (by simpa using ha) d4 hcc (Nat.le_trans B2.out.size hc.size) (fun _ h => h)
      rw [e4, List.length_replicate] at ho hb1 ⊢
      go_simp
      refine ⟨Hrgk.out 12 Lq _ (Hrgb.out Lq wq _ hh.cls hb1), ?_, Hrgxb.out wq _ hb1⟩
      rw [Hrge12.out]
      exact ho
    · intro Lq wq xq hh
      have d12 : Erg 12 (xq 12) wq := hh.val 12 (by kernel_rfl) (by kernel_rfl)
      rw [Hrge12.out] at d12
      simp only [hFrg]
      refine .inl ⟨rfl, ?_⟩
      unfold Reg.upon
      have hc : Crg Lq wq := hh.cls
      rw [HrghC.out] at hc
      go_simp
      refine (cconcat_any (fun b => w.heap.size ≤ b) _ _ wq d12 (by simp) HFL.out).mono ?_
      rintro e w3 ⟨v3, rfl, ho, hb⟩
      refine ⟨_, rfl, Hrgk.out 13 Lq w3 (Hrgb.out Lq wq w3 hh.cls hb), ?_, Hrgxb.out wq w3 hb⟩
      rw [Hrge13.out]
      rw [HFM.out] at ho
      exact ho.base (Nat.le_trans B2.out.size hc.size)
    · intro Lq wq xq hh
      have d13 : Erg 13 (xq 13) wq := hh.val 13 (by kernel_rfl) (by kernel_rfl)
      rw [Hrge13.out] at d13
      simp only [hFrg]
      refine .inl ⟨rfl, ?_⟩
      unfold Reg.upon
      go_simp
      exact ⟨Hrgk.out 14 Lq wq hh.cls, (by rw [Hrge14.out]; exact d13), Hrgx.out _⟩
  intro xq wrg hcrg hvrg
  rw [HrghC.out] at hcrg
  simp only [hFrg]
  have vrg14 : Erg 14 (xq 14) wrg := hvrg 14 (by decide)
  rw [Hrge14.out] at vrg14
  clear hvrg hFrg Hrgk Hrgx Hrgst Hrgc HrghC HrghX Hrgb Hrgxb Hrge0 Hrge1 Hrge2 Hrge3 Hrge4 Hrge5 Hrge6 Hrge7 Hrge8 Hrge9 Hrge10 Hrge11 Hrge12 Hrge13 Hrge14
  obtain ⟨v5, hv5⟩ : ∃ v5, v5 = xq 14 := ⟨_, rfl⟩
  rw [← hv5] at vrg14 ⊢
  obtain ⟨w5, hw5⟩ : ∃ w5, w5 = wrg := ⟨_, rfl⟩
  rw [← hw5] at vrg14 hcrg ⊢
  obtain ⟨gm, cm, rfl, hm1, hm2⟩ := vrg14.some (by have := HML.out; omega)
  have HO5 := Lib.hid vrg14
  have B5 := Lib.hid (B2.out.trans (hcrg.mono B2.out.size))
  have HGM := Lib.hid (And.intro hm1 hm2)
  clear vrg14 hcrg hv5 hw5 hm1 hm2 hz0 hz1 hz2 hz3 hz4 hz5 hz6 hz7 hz8 hz9 hN hqc hsub hNw
  obtain ⟨j, hj⟩ : ∃ j : Nat, M.length = j + 1 := ⟨M.length - 1, by have := HML.out; omega⟩
  have hj1 : (M.length : Int) - 1 = j := by omega
  have hjw : IntKind.i64.wrap (j : Int) = (j : Int) := by rw [IntKind.wrap_i64]; have := HML.out; omega
  have hjl : j < M.length := by omega
  have ck := ownE_kind HO5.out hjl
  have HJ := Lib.hid hj
  have HPN := Lib.hid (fun (v' : Value) (w' : World) (b : Below w.heap.size w w') (hv : HeldE cellE (fun b => w.heap.size ≤ b) w' v' (insL L c m)) => rpaint_good Z (fun b => w.heap.size ≤ b) B g gc L (insL L c m) wrap v' w' (HR.out.below b) hv (fun b h => by have := HGL.out; omega) (fun x hx => hZ x (Nat.le_trans b.size hx)) 0 (by rw [HIL.out]; omega) HIS.out)
  rw [paint_all HIL.out, hit_all HIL.out hl0, Bool.not_true, Bool.and_false] at HPN
  clear hj
  by_cases hk : (M.getD j zc).1 = 2
  · have HF := Lib.hid (show fixL M = M.set j zc by unfold fixL; rw [show M.length - 1 = j by have := HJ.out; omega, if_pos hk])
    rw [hk] at ck
    go_wp2_with (refine wpList_put_e (E := cellE) (Y := fun b => w.heap.size ≤ b) (i := j) rfl 73 (.tmp 50) (.tmp 49) rfl rfl rfl [.int .i64 0, .slice none 0 0] rfl (by kernel_rfl) HO5.out.each hjl zc (zero_rep _ _) ?_)
    intro w6 hw6 hu6
    have ho6 : OwnE cellE (fun b => w.heap.size ≤ b) w6 w.heap.size 73 (.slice (some ⟨gm, 0, none⟩) M.length cm) (M.set j zc) := hw6
    have hh6 := ho6.held (Z := fun b => w.heap.size ≤ b) (fun b h _ => h)
    rw [← HF.out, ← HII.out] at hh6
    have b6 := B5.out.upd hu6 B5.out.size (fun x e => by have := HGM.out.1; omega)
    have HP := Lib.hid (HPN.out _ w6 b6 hh6)
    have HU := Lib.hid (Upd.ofBelow (S := fun b => b = g ∨ b = gc) b6)
    clear hw6 hu6 ho6 hh6 b6 ck hj1 hjw hk hjl
    go_wp2_with fail
    refine HP.out.mono ?_
    rintro e w7 ⟨rfl, hr7, u7⟩
    have HE := Lib.hid (And.intro hr7 (HU.out.trans u7))
    clear hr7 u7
    go_wp2
    exact bodyPost_end (by kernel_rfl) rfl ⟨rfl, HE.out.1, HE.out.2⟩
  · have HF := Lib.hid (show fixL M = M by unfold fixL; rw [show M.length - 1 = j by have := HJ.out; omega, if_neg hk])
    obtain ⟨K, hK⟩ : ∃ K, K = (M.getD j zc).1 := ⟨_, rfl⟩
    rw [← hK] at ck hk
    have hkb : (K == 2) = false := by rw [beq_eq_false_iff_ne]; exact hk
    have hh6 := HO5.out.held (Z := fun b => w.heap.size ≤ b) (fun b h _ => h)
    have e6 : M = insL L c m := by rw [HII.out, HF.out]
    have hh7 : HeldE cellE (fun b => w.heap.size ≤ b) w5 (.slice (some ⟨gm, 0, none⟩) M.length cm) (insL L c m) := by rw [← e6]; exact hh6
    have HP := Lib.hid (HPN.out _ w5 B5.out hh7)
    have HU := Lib.hid (Upd.ofBelow (S := fun b => b = g ∨ b = gc) B5.out)
    clear hh6 hh7 hK e6 hk
    go_wp2_with fail
    clear ck hkb hj1 hjw hjl
    refine HP.out.mono ?_
    rintro e w7 ⟨rfl, hr7, u7⟩
    have HE := Lib.hid (And.intro hr7 (HU.out.trans u7))
    clear hr7 u7
    go_wp2
    exact bodyPost_end (by kernel_rfl) rfl ⟨rfl, HE.out.1, HE.out.2⟩
end Go.Proofs.YtgndolgihplngaaDoor
