/- The reference's edits: lines. -/
import Derived.Test.YtgndolgihplngaaGreatDoorMg6
import Derived.Test.YtgndolgihplngaaGreatDoorMg1
namespace Go.Proofs.YtgndolgihplngaaGreatDoor
open Go.RowKit Go.ChangeShapes Go.WideShapes
def sr (m : Int) (r k i : Nat) : Bool := decide (i < k) && selR m r i
theorem sr_more {m : Int} {r k : Nat} (h : selR m r k = true) (i : Nat) : sr m r (k + 1) i = (sr m r k i || decide (i = k)) := by
  unfold sr
  by_cases e : i = k
  · subst e; simp [h]
  · have : decide (i < k + 1) = decide (i < k) := by rw [decide_eq_decide]; omega
    rw [this]; simp [e]
theorem sr_same {m : Int} {r k : Nat} (h : selR m r k = false) (i : Nat) : sr m r (k + 1) i = sr m r k i := by
  unfold sr
  by_cases e : i = k
  · subst e; simp [h]
  · have : decide (i < k + 1) = decide (i < k) := by rw [decide_eq_decide]; omega
    rw [this]
theorem sr_end {m : Int} {r n : Nat} (i : Nat) (h : i < n) : sr m r n i = selR m r i := by unfold sr; simp [h]
set_option maxRecDepth 100000 in
set_option maxHeartbeats 6000000 in
theorem rlines_any (Z : Zone) (v : Value) (Ls : List Ln) (r : Nat) (c : Int) (pd au : Bool) (kk : Int) (hkk : kk = 3 ∨ kk = 4) (m : Nat) (hm : m < 3) (w : World) (hv : HeldE lineE Z w v Ls) (hZ : ∀ b, Z b → b < w.heap.size) (wd : Nat) (hev : Even Ls wd) (hr : r < Ls.length) :
    Calls Tryz.prog 24 #[.agg #[v, .int .i64 r, .int .i64 c, .bool pd, .bool au], .int .i64 kk, .int .i64 m] w (RPen Z w (if kk = 4 then edS Ls r c m else edN Ls r c m) r c pd au) := by
  obtain ⟨ao, ca, rfl⟩ := hv.len
  obtain ⟨n, hn⟩ : ∃ n, n = Ls.length := ⟨_, rfl⟩
  obtain ⟨W, hW, hb, hx, hl0⟩ := pboxes w (.slice ao Ls.length ca) (.int .i64 r) (.int .i64 c) (.bool pd) (.bool au) (.slice none 0 0) (.int .i64 0) (.int .i64 0) (.bool false) (.bool false)
  obtain ⟨gb, hgb⟩ : ∃ gb, gb = w.heap.size := ⟨_, rfl⟩
  obtain ⟨g2, hg2⟩ : ∃ g2, g2 = gb + 1 := ⟨_, rfl⟩
  have HG := Lib.hid (show gb = w.heap.size ∧ g2 = w.heap.size + 1 from ⟨hgb, by rw [hg2, hgb]⟩)
  have hrb : RB w Z gb g2 Ls r c pd au ao ca W := by
    refine ⟨by rw [hgb]; exact hb, (hv.below hl0).zone (fun x _ hx => ⟨.inl hx, ?_, ?_⟩), by rw [hg2, hgb]; exact hx, hl0, by omega, by omega, by omega⟩
    · have := hZ x hx; omega
    · have := hZ x hx; omega
  have hb2 := (Below.refl W.heap.size W).alloc (Nat.le_refl _) (.cells [Value.int .i64 2, .int .i64 1, .int .i64 3].toArray 3)
  have hn2 := Has.new W [Value.int .i64 2, .int .i64 1, .int .i64 3] 3
  obtain ⟨W2, hW2⟩ : ∃ W2, W2 = W.alloc (.cells [Value.int .i64 2, .int .i64 1, .int .i64 3].toArray 3) := ⟨_, rfl⟩
  rw [← hW2] at hb2 hn2
  obtain ⟨gm, hgm⟩ : ∃ gm, gm = W.heap.size := ⟨_, rfl⟩
  rw [← hgm] at hn2
  have HGM := Lib.hid (show gm = w.heap.size + 1 + 1 from by rw [hgm, hW]; simp)
  have HB2 := Lib.hid (hrb.below hb2)
  have HW2 := Lib.hid (show W2 = W.alloc (.cells #[Value.int .i64 2, .int .i64 1, .int .i64 3] 3) from hW2)
  have HM := Lib.hid (show ∀ w', Below W2.heap.size W2 w' → w'.cell? ⟨gm, m, none⟩ = some (.int .i64 (edK m)) from fun w' hb' => by
    have h9 := hn2.below hb' hn2.lt
    match m, hm with
    | 0, _ => exact h9.cell 0 _ rfl
    | 1, _ => exact h9.cell 1 _ rfl
    | 2, _ => exact h9.cell 2 _ rfl)
  have HEV := Lib.hid hev
  have HRL := Lib.hid hr
  have HN := Lib.hid hn
  have hm3 : (m : Int) < 3 := by omega
  obtain ⟨LN, hLN⟩ : ∃ LN, LN = edN Ls r c m := ⟨_, rfl⟩
  have HLE := Lib.hid hLN
  have HLN := Lib.hid (show LN.length = n from by rw [hLN, edN_len, hn])
  have HWD := Lib.hid (show Wid LN wd from by rw [hLN]; exact Wid.edA hev.wid _ _ _ _)
  have HN1 := Lib.hid (show n ≤ 1000 ∧ r < n from by rw [hn]; exact ⟨hev.2.1, hr⟩)
  have HAC := Lib.hid (fun (Y : Zone) (v : Value) (w' : World) (hv : HeldE lineE Y w' v Ls) (hY : ∀ b, Y b → b < w'.heap.size) => ract_any Y v Ls r c pd au r (edK m) c 0 w' hv hY hr hev.2.1 (hev.short r hr))
  rw [show edA Ls r (edK m) c 0 = LN from hLN.symm] at HAC
  have HK3 := Lib.hid hkk
  obtain ⟨RL, hRL⟩ : ∃ RL, RL = (if kk = 4 then edS Ls r c m else edN Ls r c m) := ⟨_, rfl⟩
  have HR := Lib.hid (show (kk = 3 → RL = LN) ∧ (kk = 4 → RL = edS Ls r c m) from ⟨fun e => by rw [hRL, hLN, e]; exact if_neg (by decide), fun e => by rw [hRL, e]; exact if_pos rfl⟩)
  rw [← hRL]
  have HM3 := Lib.hid hm
  rw [← hn] at hW ⊢
  clear hv hZ hev hr hb hx hl0 hrb hb2 hn2 hgb hg2 hgm hW2 hLN hkk hm hn hRL
  go_enter Tryz.func24, Tryz.ntmps24
  go_upto_region 2 with (fail)
  rw [← hW]
  clear hW
  rw [← HW2.out]
  rw [← HGM.out]
  rw [← HG.out.2]
  rw [← HG.out.1]
  clear HW2
  obtain ⟨Erg, hErg⟩ : ∃ EE : Nat → Value → World → Prop, EE = fun jj xx ww => match jj with
      | 0 => xx = .agg #[.slice ao n ca, .int .i64 r, .int .i64 c, .bool pd, .bool au]
      | 1 => xx = .pointer (some ⟨gb, 1, none⟩)
      | 2 => xx = .pointer (some ⟨gb, 1, none⟩)
      | 3 => xx = .int .i64 r
      | 4 => xx = .slice (some ⟨gm, 0, none⟩) 3 3
      | 5 => xx = .int .i64 m
      | 6 => xx = .pointer (some ⟨gm, m, none⟩)
      | 7 => xx = .int .i64 (edK m)
      | 8 => xx = .pointer (some ⟨gb, 1, none⟩)
      | 9 => xx = .pointer (some ⟨gb, 2, none⟩)
      | 10 => xx = .int .i64 c
      | 11 => (fun x w' => True) xx ww
      | 12 => xx = undef
      | _ => True := ⟨_, rfl⟩
  have erg0 : ∀ xx ww, Erg 0 xx ww = (xx = .agg #[.slice ao n ca, .int .i64 r, .int .i64 c, .bool pd, .bool au]) := fun xx ww => congrFun (congrFun (congrFun hErg 0) xx) ww
  have erg1 : ∀ xx ww, Erg 1 xx ww = (xx = .pointer (some ⟨gb, 1, none⟩)) := fun xx ww => congrFun (congrFun (congrFun hErg 1) xx) ww
  have erg2 : ∀ xx ww, Erg 2 xx ww = (xx = .pointer (some ⟨gb, 1, none⟩)) := fun xx ww => congrFun (congrFun (congrFun hErg 2) xx) ww
  have erg3 : ∀ xx ww, Erg 3 xx ww = (xx = .int .i64 r) := fun xx ww => congrFun (congrFun (congrFun hErg 3) xx) ww
  have erg4 : ∀ xx ww, Erg 4 xx ww = (xx = .slice (some ⟨gm, 0, none⟩) 3 3) := fun xx ww => congrFun (congrFun (congrFun hErg 4) xx) ww
  have erg5 : ∀ xx ww, Erg 5 xx ww = (xx = .int .i64 m) := fun xx ww => congrFun (congrFun (congrFun hErg 5) xx) ww
  have erg6 : ∀ xx ww, Erg 6 xx ww = (xx = .pointer (some ⟨gm, m, none⟩)) := fun xx ww => congrFun (congrFun (congrFun hErg 6) xx) ww
  have erg7 : ∀ xx ww, Erg 7 xx ww = (xx = .int .i64 (edK m)) := fun xx ww => congrFun (congrFun (congrFun hErg 7) xx) ww
  have erg8 : ∀ xx ww, Erg 8 xx ww = (xx = .pointer (some ⟨gb, 1, none⟩)) := fun xx ww => congrFun (congrFun (congrFun hErg 8) xx) ww
  have erg9 : ∀ xx ww, Erg 9 xx ww = (xx = .pointer (some ⟨gb, 2, none⟩)) := fun xx ww => congrFun (congrFun (congrFun hErg 9) xx) ww
  have erg10 : ∀ xx ww, Erg 10 xx ww = (xx = .int .i64 c) := fun xx ww => congrFun (congrFun (congrFun hErg 10) xx) ww
  have erg11 : ∀ xx ww, Erg 11 xx ww = ((fun x w' => True) xx ww) := fun xx ww => congrFun (congrFun (congrFun hErg 11) xx) ww
  have erg12 : ∀ xx ww, Erg 12 xx ww = (xx = undef) := fun xx ww => congrFun (congrFun (congrFun hErg 12) xx) ww
  obtain ⟨Crg, hCrg⟩ : ∃ CC : Array Bool → Value → World → Prop, CC = fun L8 x w' => Below W2.heap.size W2 W2 ∧ (Mix.one L8 12 = 0 → Below W2.heap.size W2 w') ∧ (Mix.one L8 11 = 1 → ∃ o9 k9, x = .agg #[.slice o9 n k9, .int .i64 r, .int .i64 c, .bool pd, .bool au] ∧ (Mix.one L8 12 = 0 → HeldE lineE (fun b => (((Z b ∨ w.heap.size ≤ b) ∧ b ≠ gb ∧ b ≠ g2) ∧ b < W2.heap.size) ∨ W2.heap.size ≤ b) w' (.slice o9 n k9) LN)) ∧ (Mix.one L8 12 = 1 → ∃ o9 k9, RB w Z gb g2 LN r c pd au o9 k9 w') := ⟨_, rfl⟩
  have krg : ∀ i L {x : Value} w, i ≠ 11 → i ≠ 12 →  Crg L x w → Crg (L.setIfInBounds i true) x w := by
    intro i L x w q11 q12 h
    rw [hCrg] at h ⊢
    simp only [Mix.one_ne q11, Mix.one_ne q12]; exact h
  obtain ⟨Xrg, hXrg⟩ : ∃ XX : World → World → Prop, XX = fun _ _ => True := ⟨_, rfl⟩
  have xrg : ∀ w, Xrg w w := fun w => by rw [hXrg]; exact trivial
  have strg : ∀ j x w w1, Xrg w w1 → Erg j x w → Erg j x w1 := by
    intro j x w w1 hx h
    rw [hXrg] at hx
    match j with
    | 0 => rw [erg0] at h ⊢; exact h
    | 1 => rw [erg1] at h ⊢; exact h
    | 2 => rw [erg2] at h ⊢; exact h
    | 3 => rw [erg3] at h ⊢; exact h
    | 4 => rw [erg4] at h ⊢; exact h
    | 5 => rw [erg5] at h ⊢; exact h
    | 6 => rw [erg6] at h ⊢; exact h
    | 7 => rw [erg7] at h ⊢; exact h
    | 8 => rw [erg8] at h ⊢; exact h
    | 9 => rw [erg9] at h ⊢; exact h
    | 10 => rw [erg10] at h ⊢; exact h
    | 11 => rw [erg11] at h ⊢; (exact h)
    | 12 => rw [erg12] at h ⊢; exact h
    | j + 13 => rw [hErg]; trivial
  have crg : ∀ x, Crg (Array.replicate 13 false) x W2.drew := fun x => by rw [hCrg]; exact ⟨Below.refl _ _, fun _ => (Below.refl _ _).drew, fun e => absurd e (by decide), fun e => absurd e (by decide)⟩
  have brg : ∀ L {x : Value} w w1, Crg L x w → Below w.heap.size w w1 → Crg L x w1 := by
    intro L x w w1 h hb
    rw [hCrg] at h ⊢
    (obtain ⟨q1, q2, q3, q4⟩ := h; exact ⟨q1, fun e => (q2 e).trans (hb.mono (q2 e).size), fun e => by obtain ⟨o9, k9, e1, h1⟩ := q3 e; exact ⟨o9, k9, e1, fun f => (h1 f).below hb⟩, fun e => by obtain ⟨o9, k9, h1⟩ := q4 e; exact ⟨o9, k9, h1.below hb⟩⟩)
  have xbrg : ∀ w w1, Below w.heap.size w w1 → Xrg w w1 := by
    intro w w1 hb
    rw [hXrg]
    trivial
  have Hrgb : Go.RowKit.Hid (∀ L {x : Value} w w1, Crg L x w → Below w.heap.size w w1 → Crg L x w1) := @brg
  have Hrgxb := Lib.hid xbrg
  clear brg xbrg
  clear hErg
  have Hrgk : Go.RowKit.Hid (∀ i L {x : Value} w, i ≠ 11 → i ≠ 12 →  Crg L x w → Crg (L.setIfInBounds i true) x w) := @krg
  have Hrgx := Lib.hid xrg
  have Hrgst := Lib.hid strg
  have Hrgc := Lib.hid crg
  have HrghC := Lib.hid hCrg
  have HrghX := Lib.hid hXrg
  have Hrge0 := Lib.hid erg0
  have Hrge1 := Lib.hid erg1
  have Hrge2 := Lib.hid erg2
  have Hrge3 := Lib.hid erg3
  have Hrge4 := Lib.hid erg4
  have Hrge5 := Lib.hid erg5
  have Hrge6 := Lib.hid erg6
  have Hrge7 := Lib.hid erg7
  have Hrge8 := Lib.hid erg8
  have Hrge9 := Lib.hid erg9
  have Hrge10 := Lib.hid erg10
  have Hrge11 := Lib.hid erg11
  have Hrge12 := Lib.hid erg12
  clear krg xrg strg crg hCrg hXrg erg0 erg1 erg2 erg3 erg4 erg5 erg6 erg7 erg8 erg9 erg10 erg11 erg12
  go_wp2_with fail
  refine RegC.regionF 11 Erg Crg Xrg Hrgst.out (by kernel_rfl) (by kernel_rfl) (by kernel_rfl) Hrgc.out (fun Frg hFrg => ?_)
  simp only [Reg.frame, Reg.dsts, List.map_cons, List.map_nil, Mix.put_lit, Reg.put_none, List.set_cons_succ, List.set_cons_zero, Nat.zero_add, Nat.reduceAdd] at hFrg
  refine ⟨?_, ?_⟩
  · refine ⟨?_, ?_, ?_, ?_, ?_, ?_, ?_, ?_, ?_, ?_, ?_, ?_, ?_, trivial⟩
    · intro Lq wq xq hh
      simp only [hFrg]
      refine .inl ⟨rfl, ?_⟩
      unfold Reg.upon
      have hc : Crg Lq (xq 11) wq := hh.cls
      rw [HrghC.out] at hc
      have hq := (HB2.out.below (hc.2.1 (Mix.one_un (hh.notYet 12 (by kernel_rfl))))).1
      rw [← HN.out] at hq
      have q0 := hq.cell 0 _ rfl
      have q1 := hq.cell 1 _ rfl
      have q2 := hq.cell 2 _ rfl
      have q3 := hq.cell 3 _ rfl
      have q4 := hq.cell 4 _ rfl
      clear hc
      have hk := Hrgk.out 0 Lq wq (by decide) (by decide)  hh.cls
      have hx := Hrgx.out wq
      have he : Erg 0 (.agg #[.slice ao n ca, .int .i64 r, .int .i64 c, .bool pd, .bool au]) wq := by rw [Hrge0.out]
      have HK := Lib.hid (And.intro hk (And.intro he hx))
      clear hk hx he
      go_simp
      exact HK.out
    · intro Lq wq xq hh
      simp only [hFrg]
      refine .inl ⟨rfl, ?_⟩
      unfold Reg.upon
      have hk := Hrgk.out 1 Lq wq (by decide) (by decide)  hh.cls
      have hx := Hrgx.out wq
      have he : Erg 1 (.pointer (some ⟨gb, 1, none⟩)) wq := by rw [Hrge1.out]
      have HK := Lib.hid (And.intro hk (And.intro he hx))
      clear hk hx he
      go_simp
      exact HK.out
    · intro Lq wq xq hh
      have d1 : Erg 1 (xq 1) wq := hh.val 1 (by kernel_rfl) (by kernel_rfl)
      rw [Hrge1.out] at d1
      simp only [hFrg, d1]
      clear d1
      refine .inl ⟨rfl, ?_⟩
      unfold Reg.upon
      have hk := Hrgk.out 2 Lq wq (by decide) (by decide)  hh.cls
      have hx := Hrgx.out wq
      have he : Erg 2 (.pointer (some ⟨gb, 1, none⟩)) wq := by rw [Hrge2.out]
      have HK := Lib.hid (And.intro hk (And.intro he hx))
      clear hk hx he
      go_simp
      exact HK.out
    · intro Lq wq xq hh
      have d2 : Erg 2 (xq 2) wq := hh.val 2 (by kernel_rfl) (by kernel_rfl)
      rw [Hrge2.out] at d2
      simp only [hFrg, d2]
      clear d2
      refine .inl ⟨rfl, ?_⟩
      unfold Reg.upon
      have hc : Crg Lq (xq 11) wq := hh.cls
      rw [HrghC.out] at hc
      have hq := (HB2.out.below (hc.2.1 (Mix.one_un (hh.notYet 12 (by kernel_rfl))))).1
      have q1 := hq.cell 1 _ rfl
      clear hc
      have hk := Hrgk.out 3 Lq wq (by decide) (by decide)  hh.cls
      have hx := Hrgx.out wq
      have he : Erg 3 (.int .i64 r) wq := by rw [Hrge3.out]
      have HK := Lib.hid (And.intro hk (And.intro he hx))
      clear hk hx he
      go_simp
      exact HK.out
    · intro Lq wq xq hh
      simp only [hFrg]
      refine .inl ⟨rfl, ?_⟩
      unfold Reg.upon
      have hk := Hrgk.out 4 Lq wq (by decide) (by decide)  hh.cls
      have hx := Hrgx.out wq
      have he : Erg 4 (.slice (some ⟨gm, 0, none⟩) 3 3) wq := by rw [Hrge4.out]
      have HK := Lib.hid (And.intro hk (And.intro he hx))
      clear hk hx he
      go_simp
      exact HK.out
    · intro Lq wq xq hh
      simp only [hFrg]
      refine .inl ⟨rfl, ?_⟩
      unfold Reg.upon
      have hk := Hrgk.out 5 Lq wq (by decide) (by decide)  hh.cls
      have hx := Hrgx.out wq
      have he : Erg 5 (.int .i64 m) wq := by rw [Hrge5.out]
      have HK := Lib.hid (And.intro hk (And.intro he hx))
      clear hk hx he
      go_simp
      exact HK.out
    · intro Lq wq xq hh
      have d4 : Erg 4 (xq 4) wq := hh.val 4 (by kernel_rfl) (by kernel_rfl)
      rw [Hrge4.out] at d4
      have d5 : Erg 5 (xq 5) wq := hh.val 5 (by kernel_rfl) (by kernel_rfl)
      rw [Hrge5.out] at d5
      simp only [hFrg, d4, d5]
      clear d4 d5
      refine .inl ⟨rfl, ?_⟩
      unfold Reg.upon
      have hk := Hrgk.out 6 Lq wq (by decide) (by decide)  hh.cls
      have hx := Hrgx.out wq
      have he : Erg 6 (.pointer (some ⟨gm, m, none⟩)) wq := by rw [Hrge6.out]
      have HK := Lib.hid (And.intro hk (And.intro he hx))
      clear hk hx he
      go_simp
      exact HK.out
    · intro Lq wq xq hh
      have d6 : Erg 6 (xq 6) wq := hh.val 6 (by kernel_rfl) (by kernel_rfl)
      rw [Hrge6.out] at d6
      simp only [hFrg, d6]
      clear d6
      refine .inl ⟨rfl, ?_⟩
      unfold Reg.upon
      have hc : Crg Lq (xq 11) wq := hh.cls
      rw [HrghC.out] at hc
      have q0 := HM.out wq (hc.2.1 (Mix.one_un (hh.notYet 12 (by kernel_rfl))))
      clear hc
      have hk := Hrgk.out 7 Lq wq (by decide) (by decide)  hh.cls
      have hx := Hrgx.out wq
      have he : Erg 7 (.int .i64 (edK m)) wq := by rw [Hrge7.out]
      have HK := Lib.hid (And.intro hk (And.intro he hx))
      clear hk hx he
      go_simp
      exact HK.out
    · intro Lq wq xq hh
      simp only [hFrg]
      refine .inl ⟨rfl, ?_⟩
      unfold Reg.upon
      have hk := Hrgk.out 8 Lq wq (by decide) (by decide)  hh.cls
      have hx := Hrgx.out wq
      have he : Erg 8 (.pointer (some ⟨gb, 1, none⟩)) wq := by rw [Hrge8.out]
      have HK := Lib.hid (And.intro hk (And.intro he hx))
      clear hk hx he
      go_simp
      exact HK.out
    · intro Lq wq xq hh
      have d8 : Erg 8 (xq 8) wq := hh.val 8 (by kernel_rfl) (by kernel_rfl)
      rw [Hrge8.out] at d8
      simp only [hFrg, d8]
      clear d8
      refine .inl ⟨rfl, ?_⟩
      unfold Reg.upon
      have hk := Hrgk.out 9 Lq wq (by decide) (by decide)  hh.cls
      have hx := Hrgx.out wq
      have he : Erg 9 (.pointer (some ⟨gb, 2, none⟩)) wq := by rw [Hrge9.out]
      have HK := Lib.hid (And.intro hk (And.intro he hx))
      clear hk hx he
      go_simp
      exact HK.out
    · intro Lq wq xq hh
      have d9 : Erg 9 (xq 9) wq := hh.val 9 (by kernel_rfl) (by kernel_rfl)
      rw [Hrge9.out] at d9
      simp only [hFrg, d9]
      clear d9
      refine .inl ⟨rfl, ?_⟩
      unfold Reg.upon
      have hc : Crg Lq (xq 11) wq := hh.cls
      rw [HrghC.out] at hc
      have hq := (HB2.out.below (hc.2.1 (Mix.one_un (hh.notYet 12 (by kernel_rfl))))).1
      have q2 := hq.cell 2 _ rfl
      clear hc
      have hk := Hrgk.out 10 Lq wq (by decide) (by decide)  hh.cls
      have hx := Hrgx.out wq
      have he : Erg 10 (.int .i64 c) wq := by rw [Hrge10.out]
      have HK := Lib.hid (And.intro hk (And.intro he hx))
      clear hk hx he
      go_simp
      exact HK.out
    · intro Lq wq xq hh
      have d0 : Erg 0 (xq 0) wq := hh.val 0 (by kernel_rfl) (by kernel_rfl)
      rw [Hrge0.out] at d0
      have d3 : Erg 3 (xq 3) wq := hh.val 3 (by kernel_rfl) (by kernel_rfl)
      rw [Hrge3.out] at d3
      have d7 : Erg 7 (xq 7) wq := hh.val 7 (by kernel_rfl) (by kernel_rfl)
      rw [Hrge7.out] at d7
      have d10 : Erg 10 (xq 10) wq := hh.val 10 (by kernel_rfl) (by kernel_rfl)
      rw [Hrge10.out] at d10
      simp only [hFrg, d0, d3, d7, d10]
      clear d0 d3 d7 d10
      refine .inl ⟨rfl, ?_⟩
      unfold Reg.upon
      have hc : Crg Lq (xq 11) wq := hh.cls
      rw [HrghC.out] at hc
      have hb := hc.2.1 (Mix.one_un (hh.notYet 12 (by kernel_rfl)))
      have hrs := HAC.out (fun b => ((Z b ∨ w.heap.size ≤ b) ∧ b ≠ gb ∧ b ≠ g2) ∧ b < W2.heap.size) _ wq (HB2.out.arg.below hb) (fun x hx => Nat.lt_of_lt_of_le hx.2 hb.size)
      rw [← HN.out] at hrs
      go_simp
      refine hrs.mono ?_
      rintro e w2 ⟨v9, rfl, h9, b9⟩
      obtain ⟨o9, k9, ev9⟩ := h9.len
      rw [HLN.out] at ev9
      subst ev9
      have hF : Crg (Lq.setIfInBounds 11 true) (.agg #[.slice o9 n k9, .int .i64 r, .int .i64 c, .bool pd, .bool au]) w2 := by
        rw [HrghC.out]
        refine ⟨Below.refl _ _, fun _ => hb.trans (b9.mono hb.size), fun _ => ⟨o9, k9, rfl, fun _ => h9.zone (fun x _ hz => ?_)⟩, fun e => ?_⟩
        · rcases hz with hz | hz
          · exact .inl hz
          · exact .inr (Nat.le_trans hb.size hz.1)
        · rw [Mix.one_ne (by decide), Mix.one_un (hh.notYet 12 (by kernel_rfl))] at e
          exact absurd e (by decide)
      exact ⟨_, rfl, hF, (by rw [Hrge11.out]; trivial), (by rw [HrghX.out]; trivial)⟩
    · intro Lq wq xq hh
      have d11 : Erg 11 (xq 11) wq := hh.val 11 (by kernel_rfl) (by kernel_rfl)
      rw [Hrge11.out] at d11
      simp only [hFrg]
      refine .inl ⟨rfl, ?_⟩
      unfold Reg.upon
      have hc : Crg Lq (xq 11) wq := hh.cls
      rw [HrghC.out] at hc
      have hb := hc.2.1 hh.un
      obtain ⟨o9, k9, e1, hz⟩ := hc.2.2.1 (hh.isDone 11 (by kernel_rfl))
      have hz := hz hh.un
      have hqb := (HB2.out.below hb).1
      have s0 := hqb.cell 0 _ rfl
      have s1 := hqb.cell 1 _ rfl
      have s2 := hqb.cell 2 _ rfl
      have s3 := hqb.cell 3 _ rfl
      have s4 := hqb.cell 4 _ rfl
      have f0 := hqb.free 0
      have f1 := hqb.free 1
      have f2 := hqb.free 2
      have f3 := hqb.free 3
      have f4 := hqb.free 4
      rw [← HLN.out] at hz
      have q10 := RB.store (r3 := r) (c3 := c) (pd3 := pd) (au3 := au) HB2.out hb (hz.zone (Y := fun x => (((Z x ∨ w.heap.size ≤ x) ∧ x ≠ gb ∧ x ≠ g2) ∧ x < W2.heap.size) ∨ (W2.heap.size ≤ x ∧ x < wq.heap.size)) (fun x hx hy => by rcases hy with hy | hy; exact .inl hy; exact .inr ⟨hy, hx⟩))
      rw [HLN.out] at q10
      have hF : Crg (Lq.setIfInBounds 12 true) (xq 11) (((((wq.setCell ⟨gb, 0, none⟩ (.slice o9 n k9)).setCell ⟨gb, 1, none⟩ (.int .i64 r)).setCell ⟨gb, 2, none⟩ (.int .i64 c)).setCell ⟨gb, 3, none⟩ (.bool pd)).setCell ⟨gb, 4, none⟩ (.bool au)) := by
        rw [HrghC.out]
        refine ⟨Below.refl _ _, fun e => ?_, fun _ => ⟨o9, k9, e1, fun e => ?_⟩, fun _ => ⟨o9, k9, q10⟩⟩
        · rw [Mix.one_set (by rw [hh.size]; decide)] at e
          exact absurd e (by decide)
        · rw [Mix.one_set (by rw [hh.size]; decide)] at e
          exact absurd e (by decide)
      have hE : Erg 12 undef (((((wq.setCell ⟨gb, 0, none⟩ (.slice o9 n k9)).setCell ⟨gb, 1, none⟩ (.int .i64 r)).setCell ⟨gb, 2, none⟩ (.int .i64 c)).setCell ⟨gb, 3, none⟩ (.bool pd)).setCell ⟨gb, 4, none⟩ (.bool au)) := by rw [Hrge12.out]
      have hX : Xrg wq (((((wq.setCell ⟨gb, 0, none⟩ (.slice o9 n k9)).setCell ⟨gb, 1, none⟩ (.int .i64 r)).setCell ⟨gb, 2, none⟩ (.int .i64 c)).setCell ⟨gb, 3, none⟩ (.bool pd)).setCell ⟨gb, 4, none⟩ (.bool au)) := by rw [HrghX.out]; trivial
      rw [e1]
      clear hc hz q10 hqb hb
      go_simp
      exact ⟨hF, hE, hX⟩
  intro xq wrg hcrg hvrg
  rw [HrghC.out] at hcrg
  simp only [hFrg]
  clear hvrg hFrg Hrgk Hrgx Hrgst Hrgc HrghC HrghX Hrgb Hrgxb Hrge0 Hrge1 Hrge2 Hrge3 Hrge4 Hrge5 Hrge6 Hrge7 Hrge8 Hrge9 Hrge10 Hrge11 Hrge12
  obtain ⟨_, _, _, h12⟩ := hcrg
  obtain ⟨o9, k9, h12⟩ := h12 (by kernel_rfl)
  have H5 := Lib.hid h12
  clear h12 HAC HB2 HM hm3
  rcases HK3.out with rfl | rfl
  · go_upto_region 3 with (fail)
    go_wp2
    go_loopw [8] (fun iv wr => iv = .int .i64 0 ∧ wr = wrg) (fun _ _ => 0)
    case atStart => exact ⟨rfl, rfl⟩
    case round =>
      obtain ⟨rfl, rfl⟩ := hrel
      have q0 := H5.out.1.cell 0 _ rfl
      rw [HLN.out] at q0
      have j1 : decide ((0 : Int) < (n : Int)) = true := by rw [decide_eq_true_eq]; have := HN1.out; omega
      have j2 : decide (0 < n) = true := by rw [decide_eq_true_eq]; have := HN1.out; omega
      go_upto_region 8 with (fail)
      clear q0
      have c0 := H5.out.1.cell 0 _ rfl
      have c1 := H5.out.1.cell 1 _ rfl
      have c2 := H5.out.1.cell 2 _ rfl
      have c3 := H5.out.1.cell 3 _ rfl
      have c4 := H5.out.1.cell 4 _ rfl
      have k0 := H5.out.2.2.1.cell 0 _ rfl
      have k1 := H5.out.2.2.1.cell 1 _ rfl
      have k2 := H5.out.2.2.1.cell 2 _ rfl
      have k3 := H5.out.2.2.1.cell 3 _ rfl
      have k4 := H5.out.2.2.1.cell 4 _ rfl
      have y0 := H5.out.2.2.1.free 0
      have y1 := H5.out.2.2.1.free 1
      have y2 := H5.out.2.2.1.free 2
      have y3 := H5.out.2.2.1.free 3
      have y4 := H5.out.2.2.1.free 4
      have hlt := H5.out.2.2.1.lt
      have HF := Lib.hid H5.out.fin
      rw [HLN.out] at c0 HF
      go_wp2
      exact bodyPost_ret (v := .agg #[.slice o9 n k9, .int .i64 r, .int .i64 c, .bool pd, .bool au]) (by simp [results, Tryz.results24, go_sem, k0, k1, k2, k3, k4]) rfl ⟨_, rfl, (by rw [HR.out.1 (by first | rfl | trivial)]; exact HF.out.1), HF.out.2⟩
  have HSL := Lib.hid (show blkL (selR m r) LN = edS Ls r c m from by rw [HLE.out]; exact sel_same HEV.out.wid r HRL.out c m (by have := HM3.out; omega))
  have hmm : m = 0 ∨ m = 1 ∨ m = 2 := by have := HM3.out; omega
  rcases hmm with rfl | rfl | rfl
  · go_upto_region 3 with (fail)
    go_wp2
    go_loopw [8] (fun iv wr => ∃ (i : Nat) (o9 : Option Addr) (k9 : Nat), i ≤ n ∧ iv = .int .i64 i ∧ RB w Z gb g2 (blkL (sr 0 r i) LN) r c pd au o9 k9 wr) (fun iv _ => n - (intOf iv).toNat)
    case atStart => exact ⟨0, o9, k9, Nat.zero_le _, rfl, by rw [blk_none LN (sr 0 r 0) (fun i _ => by simp [sr])]; exact H5.out⟩
    case round =>
      obtain ⟨i, oi, ki, hi, rfl, hk⟩ := hrel
      obtain ⟨wi, hwi⟩ : ∃ wi, wi = wr := ⟨_, rfl⟩
      subst hwi
      have HK := Lib.hid hk
      have HLB := Lib.hid (show ∀ S, (blkL S LN).length = n from fun S => by rw [blk_len, HLN.out])
      have q0 := hk.1.cell 0 _ rfl
      rw [HLB.out] at q0
      clear hk
      by_cases hlt : i < n
      · have j1 : decide ((i : Int) < (n : Int)) = true := by rw [decide_eq_true_eq]; omega
        have j2 : decide (i < n) = true := by rw [decide_eq_true_eq]; exact hlt
        have hwj : IntKind.i64.wrap ((i : Int) + 1) = (i : Int) + 1 := by rw [IntKind.wrap_i64]; have := HN1.out; omega
        have q1 := HK.out.1.cell 1 _ rfl
        have q2 := HK.out.1.cell 2 _ rfl
        have q3 := HK.out.1.cell 3 _ rfl
        have q4 := HK.out.1.cell 4 _ rfl
        by_cases hs : r < i
        · have j3 : decide ((r : Int) < (i : Int)) = true := by rw [decide_eq_true_eq]; omega
          have j4 : decide (r < i) = true := by rw [decide_eq_true_eq]; exact hs
          have hsel : selR 0 r i = true := by simp [selR]; omega
          have hla := ract_any _ _ (blkL (sr 0 r i) LN) r c pd au i 3 0 0 wi HK.out.arg (fun x hx => hx.2) (by rw [HLB.out]; exact hlt) (by rw [HLB.out]; have := HN1.out; omega) (by rw [(HWD.out.blk _).2 i (by rw [HLB.out]; exact hlt)]; exact HEV.out.2.2.2.1)
          rw [blk_more HWD.out (sr 0 r i) (sr 0 r (i + 1)) i (by rw [HLN.out]; exact hlt) (fun j _ => sr_more hsel j) 0 0, HLB.out] at hla
          have HLA := Lib.hid hla
          clear hla hsel
          go_wp2_with fail
          refine HLA.out.mono ?_
          rintro e w5 ⟨v5, rfl, h5, b5⟩
          obtain ⟨o5, k5, ev5⟩ := h5.len
          have hk5 := HK.out.below b5
          have hst := RB.store (r3 := r) (c3 := c) (pd3 := pd) (au3 := au) HK.out b5 (by rw [← ev5]; exact h5)
          rw [HLB.out] at ev5 hst
          subst ev5
          have HST := Lib.hid hst
          have s0 := hk5.1.cell 0 _ rfl
          have s1 := hk5.1.cell 1 _ rfl
          have s2 := hk5.1.cell 2 _ rfl
          have s3 := hk5.1.cell 3 _ rfl
          have s4 := hk5.1.cell 4 _ rfl
          have f0 := hk5.1.free 0
          have f1 := hk5.1.free 1
          have f2 := hk5.1.free 2
          have f3 := hk5.1.free 3
          have f4 := hk5.1.free 4
          clear h5 b5 hk5 hst q0 q1 q2 q3 q4 HLA
          go_wp2
          go_roundw
          case rel => exact ⟨i + 1, _, _, by omega, by go_num, HST.out⟩
          case measure => simp [intOf] <;> omega
        · have j3 : decide ((r : Int) < (i : Int)) = false := by rw [decide_eq_false_iff_not]; omega
          have j4 : decide (r < i) = false := by rw [decide_eq_false_iff_not]; exact hs
          have hsel : selR 0 r i = false := by simp [selR]; omega
          have HST := Lib.hid (show RB w Z gb g2 (blkL (sr 0 r (i + 1)) LN) r c pd au oi ki wi from by rw [blk_ext LN (sr 0 r (i + 1)) (sr 0 r i) (fun j _ => sr_same hsel j)]; exact HK.out)
          clear hsel
          go_wp2
          go_roundw
          case rel => exact ⟨i + 1, _, _, by omega, by go_num, HST.out⟩
          case measure => simp [intOf] <;> omega
      · obtain rfl : i = n := by omega
        have j1 : decide ((i : Int) < (i : Int)) = false := by rw [decide_eq_false_iff_not]; omega
        go_upto_region 8 with (fail)
        clear q0
        have HSE := Lib.hid (show blkL (sr 0 r i) LN = blkL (selR 0 r) LN from blk_ext LN _ _ (fun j hj => sr_end j (by rw [HLN.out] at hj; exact hj)))
        have c0 := HK.out.1.cell 0 _ rfl
        have c1 := HK.out.1.cell 1 _ rfl
        have c2 := HK.out.1.cell 2 _ rfl
        have c3 := HK.out.1.cell 3 _ rfl
        have c4 := HK.out.1.cell 4 _ rfl
        have k0 := HK.out.2.2.1.cell 0 _ rfl
        have k1 := HK.out.2.2.1.cell 1 _ rfl
        have k2 := HK.out.2.2.1.cell 2 _ rfl
        have k3 := HK.out.2.2.1.cell 3 _ rfl
        have k4 := HK.out.2.2.1.cell 4 _ rfl
        have y0 := HK.out.2.2.1.free 0
        have y1 := HK.out.2.2.1.free 1
        have y2 := HK.out.2.2.1.free 2
        have y3 := HK.out.2.2.1.free 3
        have y4 := HK.out.2.2.1.free 4
        have hlt := HK.out.2.2.1.lt
        have HF := Lib.hid HK.out.fin
        rw [HLB.out] at c0 HF
        go_wp2
        exact bodyPost_ret (v := .agg #[.slice oi i ki, .int .i64 r, .int .i64 c, .bool pd, .bool au]) (by simp [results, Tryz.results24, go_sem, k0, k1, k2, k3, k4]) rfl ⟨_, rfl, (by rw [HSE.out] at HF; rw [HR.out.2 (by first | rfl | trivial), ← HSL.out]; exact HF.out.1), HF.out.2⟩
  · go_upto_region 3 with (fail)
    go_wp2
    go_loopw [8] (fun iv wr => ∃ (i : Nat) (o9 : Option Addr) (k9 : Nat), i ≤ n ∧ iv = .int .i64 i ∧ RB w Z gb g2 (blkL (sr 1 r i) LN) r c pd au o9 k9 wr) (fun iv _ => n - (intOf iv).toNat)
    case atStart => exact ⟨0, o9, k9, Nat.zero_le _, rfl, by rw [blk_none LN (sr 1 r 0) (fun i _ => by simp [sr])]; exact H5.out⟩
    case round =>
      obtain ⟨i, oi, ki, hi, rfl, hk⟩ := hrel
      obtain ⟨wi, hwi⟩ : ∃ wi, wi = wr := ⟨_, rfl⟩
      subst hwi
      have HK := Lib.hid hk
      have HLB := Lib.hid (show ∀ S, (blkL S LN).length = n from fun S => by rw [blk_len, HLN.out])
      have q0 := hk.1.cell 0 _ rfl
      rw [HLB.out] at q0
      clear hk
      by_cases hlt : i < n
      · have j1 : decide ((i : Int) < (n : Int)) = true := by rw [decide_eq_true_eq]; omega
        have j2 : decide (i < n) = true := by rw [decide_eq_true_eq]; exact hlt
        have hwj : IntKind.i64.wrap ((i : Int) + 1) = (i : Int) + 1 := by rw [IntKind.wrap_i64]; have := HN1.out; omega
        have q1 := HK.out.1.cell 1 _ rfl
        have q2 := HK.out.1.cell 2 _ rfl
        have q3 := HK.out.1.cell 3 _ rfl
        have q4 := HK.out.1.cell 4 _ rfl
        by_cases hs : i < r
        · have j3 : decide ((i : Int) < (r : Int)) = true := by rw [decide_eq_true_eq]; omega
          have j4 : decide (i < r) = true := by rw [decide_eq_true_eq]; exact hs
          have hsel : selR 1 r i = true := by simp [selR]; omega
          have hla := ract_any _ _ (blkL (sr 1 r i) LN) r c pd au i 3 0 0 wi HK.out.arg (fun x hx => hx.2) (by rw [HLB.out]; exact hlt) (by rw [HLB.out]; have := HN1.out; omega) (by rw [(HWD.out.blk _).2 i (by rw [HLB.out]; exact hlt)]; exact HEV.out.2.2.2.1)
          rw [blk_more HWD.out (sr 1 r i) (sr 1 r (i + 1)) i (by rw [HLN.out]; exact hlt) (fun j _ => sr_more hsel j) 0 0, HLB.out] at hla
          have HLA := Lib.hid hla
          clear hla hsel
          go_wp2_with fail
          refine HLA.out.mono ?_
          rintro e w5 ⟨v5, rfl, h5, b5⟩
          obtain ⟨o5, k5, ev5⟩ := h5.len
          have hk5 := HK.out.below b5
          have hst := RB.store (r3 := r) (c3 := c) (pd3 := pd) (au3 := au) HK.out b5 (by rw [← ev5]; exact h5)
          rw [HLB.out] at ev5 hst
          subst ev5
          have HST := Lib.hid hst
          have s0 := hk5.1.cell 0 _ rfl
          have s1 := hk5.1.cell 1 _ rfl
          have s2 := hk5.1.cell 2 _ rfl
          have s3 := hk5.1.cell 3 _ rfl
          have s4 := hk5.1.cell 4 _ rfl
          have f0 := hk5.1.free 0
          have f1 := hk5.1.free 1
          have f2 := hk5.1.free 2
          have f3 := hk5.1.free 3
          have f4 := hk5.1.free 4
          clear h5 b5 hk5 hst q0 q1 q2 q3 q4 HLA
          go_wp2
          go_roundw
          case rel => exact ⟨i + 1, _, _, by omega, by go_num, HST.out⟩
          case measure => simp [intOf] <;> omega
        · have j3 : decide ((i : Int) < (r : Int)) = false := by rw [decide_eq_false_iff_not]; omega
          have j4 : decide (i < r) = false := by rw [decide_eq_false_iff_not]; exact hs
          have hsel : selR 1 r i = false := by simp [selR]; omega
          have HST := Lib.hid (show RB w Z gb g2 (blkL (sr 1 r (i + 1)) LN) r c pd au oi ki wi from by rw [blk_ext LN (sr 1 r (i + 1)) (sr 1 r i) (fun j _ => sr_same hsel j)]; exact HK.out)
          clear hsel
          go_wp2
          go_roundw
          case rel => exact ⟨i + 1, _, _, by omega, by go_num, HST.out⟩
          case measure => simp [intOf] <;> omega
      · obtain rfl : i = n := by omega
        have j1 : decide ((i : Int) < (i : Int)) = false := by rw [decide_eq_false_iff_not]; omega
        go_upto_region 8 with (fail)
        clear q0
        have HSE := Lib.hid (show blkL (sr 1 r i) LN = blkL (selR 1 r) LN from blk_ext LN _ _ (fun j hj => sr_end j (by rw [HLN.out] at hj; exact hj)))
        have c0 := HK.out.1.cell 0 _ rfl
        have c1 := HK.out.1.cell 1 _ rfl
        have c2 := HK.out.1.cell 2 _ rfl
        have c3 := HK.out.1.cell 3 _ rfl
        have c4 := HK.out.1.cell 4 _ rfl
        have k0 := HK.out.2.2.1.cell 0 _ rfl
        have k1 := HK.out.2.2.1.cell 1 _ rfl
        have k2 := HK.out.2.2.1.cell 2 _ rfl
        have k3 := HK.out.2.2.1.cell 3 _ rfl
        have k4 := HK.out.2.2.1.cell 4 _ rfl
        have y0 := HK.out.2.2.1.free 0
        have y1 := HK.out.2.2.1.free 1
        have y2 := HK.out.2.2.1.free 2
        have y3 := HK.out.2.2.1.free 3
        have y4 := HK.out.2.2.1.free 4
        have hlt := HK.out.2.2.1.lt
        have HF := Lib.hid HK.out.fin
        rw [HLB.out] at c0 HF
        go_wp2
        exact bodyPost_ret (v := .agg #[.slice oi i ki, .int .i64 r, .int .i64 c, .bool pd, .bool au]) (by simp [results, Tryz.results24, go_sem, k0, k1, k2, k3, k4]) rfl ⟨_, rfl, (by rw [HSE.out] at HF; rw [HR.out.2 (by first | rfl | trivial), ← HSL.out]; exact HF.out.1), HF.out.2⟩
  · go_upto_region 3 with (fail)
    go_wp2
    go_loopw [8] (fun iv wr => ∃ (i : Nat) (o9 : Option Addr) (k9 : Nat), i ≤ n ∧ iv = .int .i64 i ∧ RB w Z gb g2 (blkL (sr 2 r i) LN) r c pd au o9 k9 wr) (fun iv _ => n - (intOf iv).toNat)
    case atStart => exact ⟨0, o9, k9, Nat.zero_le _, rfl, by rw [blk_none LN (sr 2 r 0) (fun i _ => by simp [sr])]; exact H5.out⟩
    case round =>
      obtain ⟨i, oi, ki, hi, rfl, hk⟩ := hrel
      obtain ⟨wi, hwi⟩ : ∃ wi, wi = wr := ⟨_, rfl⟩
      subst hwi
      have HK := Lib.hid hk
      have HLB := Lib.hid (show ∀ S, (blkL S LN).length = n from fun S => by rw [blk_len, HLN.out])
      have q0 := hk.1.cell 0 _ rfl
      rw [HLB.out] at q0
      clear hk
      by_cases hlt : i < n
      · have j1 : decide ((i : Int) < (n : Int)) = true := by rw [decide_eq_true_eq]; omega
        have j2 : decide (i < n) = true := by rw [decide_eq_true_eq]; exact hlt
        have hwj : IntKind.i64.wrap ((i : Int) + 1) = (i : Int) + 1 := by rw [IntKind.wrap_i64]; have := HN1.out; omega
        have q1 := HK.out.1.cell 1 _ rfl
        have q2 := HK.out.1.cell 2 _ rfl
        have q3 := HK.out.1.cell 3 _ rfl
        have q4 := HK.out.1.cell 4 _ rfl
        have hsel : selR 2 r i = true := by simp [selR]
        have hla := ract_any _ _ (blkL (sr 2 r i) LN) r c pd au i 3 0 0 wi HK.out.arg (fun x hx => hx.2) (by rw [HLB.out]; exact hlt) (by rw [HLB.out]; have := HN1.out; omega) (by rw [(HWD.out.blk _).2 i (by rw [HLB.out]; exact hlt)]; exact HEV.out.2.2.2.1)
        rw [blk_more HWD.out (sr 2 r i) (sr 2 r (i + 1)) i (by rw [HLN.out]; exact hlt) (fun j _ => sr_more hsel j) 0 0, HLB.out] at hla
        have HLA := Lib.hid hla
        clear hla hsel
        go_wp2_with fail
        refine HLA.out.mono ?_
        rintro e w5 ⟨v5, rfl, h5, b5⟩
        obtain ⟨o5, k5, ev5⟩ := h5.len
        have hk5 := HK.out.below b5
        have hst := RB.store (r3 := r) (c3 := c) (pd3 := pd) (au3 := au) HK.out b5 (by rw [← ev5]; exact h5)
        rw [HLB.out] at ev5 hst
        subst ev5
        have HST := Lib.hid hst
        have s0 := hk5.1.cell 0 _ rfl
        have s1 := hk5.1.cell 1 _ rfl
        have s2 := hk5.1.cell 2 _ rfl
        have s3 := hk5.1.cell 3 _ rfl
        have s4 := hk5.1.cell 4 _ rfl
        have f0 := hk5.1.free 0
        have f1 := hk5.1.free 1
        have f2 := hk5.1.free 2
        have f3 := hk5.1.free 3
        have f4 := hk5.1.free 4
        clear h5 b5 hk5 hst q0 q1 q2 q3 q4 HLA
        go_wp2
        go_roundw
        case rel => exact ⟨i + 1, _, _, by omega, by go_num, HST.out⟩
        case measure => simp [intOf] <;> omega
      · obtain rfl : i = n := by omega
        have j1 : decide ((i : Int) < (i : Int)) = false := by rw [decide_eq_false_iff_not]; omega
        go_upto_region 8 with (fail)
        clear q0
        have HSE := Lib.hid (show blkL (sr 2 r i) LN = blkL (selR 2 r) LN from blk_ext LN _ _ (fun j hj => sr_end j (by rw [HLN.out] at hj; exact hj)))
        have c0 := HK.out.1.cell 0 _ rfl
        have c1 := HK.out.1.cell 1 _ rfl
        have c2 := HK.out.1.cell 2 _ rfl
        have c3 := HK.out.1.cell 3 _ rfl
        have c4 := HK.out.1.cell 4 _ rfl
        have k0 := HK.out.2.2.1.cell 0 _ rfl
        have k1 := HK.out.2.2.1.cell 1 _ rfl
        have k2 := HK.out.2.2.1.cell 2 _ rfl
        have k3 := HK.out.2.2.1.cell 3 _ rfl
        have k4 := HK.out.2.2.1.cell 4 _ rfl
        have y0 := HK.out.2.2.1.free 0
        have y1 := HK.out.2.2.1.free 1
        have y2 := HK.out.2.2.1.free 2
        have y3 := HK.out.2.2.1.free 3
        have y4 := HK.out.2.2.1.free 4
        have hlt := HK.out.2.2.1.lt
        have HF := Lib.hid HK.out.fin
        rw [HLB.out] at c0 HF
        go_wp2
        exact bodyPost_ret (v := .agg #[.slice oi i ki, .int .i64 r, .int .i64 c, .bool pd, .bool au]) (by simp [results, Tryz.results24, go_sem, k0, k1, k2, k3, k4]) rfl ⟨_, rfl, (by rw [HSE.out] at HF; rw [HR.out.2 (by first | rfl | trivial), ← HSL.out]; exact HF.out.1), HF.out.2⟩
end Go.Proofs.YtgndolgihplngaaGreatDoor
