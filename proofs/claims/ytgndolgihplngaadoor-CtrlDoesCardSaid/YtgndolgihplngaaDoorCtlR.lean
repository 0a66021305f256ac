/- The reference's controls. -/
import Derived.Test.YtgndolgihplngaaDoorMg8
import Derived.Test.YtgndolgihplngaaDoorMg9
import Derived.Test.YtgndolgihplngaaDoorMg1
import Derived.Lib.MinMax
namespace Go.Proofs.YtgndolgihplngaaDoor
open Go.RowKit Go.ChangeShapes Go.WideShapes
/-- What the reference's Do gives. -/
def RCt (Z : Zone) (w : World) (Ls : List Ln) (r c : Int) (pd au : Bool) (K : Int) (v : Value) (r2 c2 : Nat) : Prop := Calls Tryd.prog 23 #[.agg #[v, .int .i64 r, .int .i64 c, .bool pd, .bool au], .int .i32 K] w (fun e w' => ∃ v', e = .returned (.tuple #[.agg #[v', .int .i64 (ctR Ls r r2 K), .int .i64 (ctC c c2 K), .bool (ctP pd K), .bool au], .bool (silB K)]) ∧ HeldE lineE (fun b => Z b ∨ (w.heap.size ≤ b ∧ b < w'.heap.size)) w' v' (ctL Ls r2 K) ∧ Below w.heap.size w w')
set_option maxRecDepth 100000 in
set_option maxHeartbeats 4000000 in
theorem rct_13 (Z : Zone) (v : Value) (Ls : List Ln) (r c : Int) (pd au : Bool) (w : World) (hv : HeldE lineE Z w v Ls) (hZ : ∀ b, Z b → b < w.heap.size) (wd : Nat) (hev : Even Ls wd) (r2 c2 : Nat) (hr2 : inI r (sideI Ls.length) = (r2 : Int)) (hc2 : inI c (sideI wd) = (c2 : Int)) (hlr : r2 < Ls.length) (hlc : c2 < wd) : RCt Z w Ls r c pd au 13 v r2 c2 := by
  unfold RCt
  obtain ⟨ao, ca, rfl⟩ := hv.len
  obtain ⟨n, hn⟩ : ∃ n, n = Ls.length := ⟨_, rfl⟩
  obtain ⟨W, hW, hb, hx, hl0⟩ := pboxes w (.slice ao Ls.length ca) (.int .i64 r) (.int .i64 c) (.bool pd) (.bool au) (.slice none 0 0) (.int .i64 0) (.int .i64 0) (.bool false) (.bool false)
  obtain ⟨gb, hgb⟩ : ∃ gb, gb = w.heap.size := ⟨_, rfl⟩
  obtain ⟨gz, hgz⟩ : ∃ gz, gz = w.heap.size + 1 := ⟨_, rfl⟩
  have HG := Lib.hid (And.intro hgb hgz)
  have hrb : RB w Z gb gz Ls r c pd au ao ca W := by
    refine ⟨by rw [hgb]; exact hb, (hv.below hl0).zone (fun x _ hx => ⟨.inl hx, ?_, ?_⟩), by rw [hgz]; exact hx, hl0, by omega, by omega, by omega⟩
    · have := hZ x hx; omega
    · have := hZ x hx; omega
  have HRB := Lib.hid hrb
  have HEV := Lib.hid hev
  have HN := Lib.hid hn
  have hw0 : (Ls.getD 0 zl).1.length = wd := hev.2.2.2.2 0 hev.1
  obtain ⟨pd2, hpd2⟩ : ∃ pd2, pd2 = holdP c pd wd := ⟨_, rfl⟩
  have HHO := Lib.hid (show Calls Tryd.prog 46 #[.agg #[.slice ao n ca, .int .i64 r, .int .i64 c, .bool pd, .bool au]] W (Gives W (.agg #[.slice ao n ca, .int .i64 r2, .int .i64 c2, .bool pd2, .bool au])) from by
    have h9 := rph_any _ (.slice ao Ls.length ca) Ls r c pd au W hrb.2.1 hev.1 wd hw0
    rw [hr2, hc2, ← hpd2] at h9
    rw [hn]
    exact h9)
  have HNL := Lib.hid (show Calls Tryd.prog 59 #[.agg #[.slice ao n ca, .int .i64 r, .int .i64 c, .bool pd, .bool au]] W (RPen (fun b => ((Z b ∨ w.heap.size ≤ b) ∧ b ≠ gb ∧ b ≠ gz) ∧ b < W.heap.size) W (downL Ls r2) (downR Ls r2 : Nat) c2 false au) from by
    have h9 := rpnl_any _ (.slice ao Ls.length ca) Ls r c pd au W wd hrb.arg (fun x hx => hx.2) hev r2 c2 hr2 hc2 hlr
    rw [hn]
    exact h9)
  obtain ⟨sk, hsk⟩ : ∃ sk, sk = silB 13 := ⟨_, rfl⟩
  have HSIL := Lib.hid (show ∀ w', Calls Tryd.prog 60 #[.int .i32 13] w' (Gives w' (.bool sk)) from fun w' => by rw [hsk]; exact rbsil_any 13 w')
  obtain ⟨RL, hRL⟩ : ∃ RL, RL = ctL Ls r2 13 := ⟨_, rfl⟩
  obtain ⟨rr, hrr⟩ : ∃ rr, rr = ctR Ls r r2 13 := ⟨_, rfl⟩
  obtain ⟨cc, hcc⟩ : ∃ cc, cc = ctC c c2 13 := ⟨_, rfl⟩
  obtain ⟨pp, hpp⟩ : ∃ pp, pp = ctP pd 13 := ⟨_, rfl⟩
  have HE := Lib.hid (by
    obtain ⟨t1, t2, t3, t4⟩ := ct_13 Ls r c r2 c2 pd
    exact And.intro (hRL.trans t1) (And.intro (hrr.trans t2) (And.intro (hcc.trans t3) (hpp.trans t4))))
  have HC9 := Lib.hid (show c2 ≤ 2000 from by have := hev.2.2.2.1; omega)
  rw [← hsk, ← hRL, ← hrr, ← hcc, ← hpp]
  rw [← hn] at hW ⊢
  clear hv hZ hev hr2 hc2 hlr hlc hb hx hl0 hgb hgz hrb hn hw0 hpd2 hsk hRL hrr hcc hpp
  go_enter Tryd.func23, Tryd.ntmps23
  go_upto_region 1 with (fail)
  rw [← hW]
  clear hW
  rw [← HG.out.2]
  rw [← HG.out.1]
  have q0 := HRB.out.1.cell 0 _ rfl
  rw [← HN.out] at q0
  have q1 := HRB.out.1.cell 1 _ rfl
  have q2 := HRB.out.1.cell 2 _ rfl
  have q3 := HRB.out.1.cell 3 _ rfl
  have q4 := HRB.out.1.cell 4 _ rfl
  go_wp2_with fail
  refine HHO.out.mono ?_
  rintro e w1 ⟨rfl, b1⟩
  have h1 := HRB.out.below b1
  clear q0 q1 q2 q3 q4
  have q0 := h1.1.cell 0 _ rfl
  rw [← HN.out] at q0
  have q1 := h1.1.cell 1 _ rfl
  have q2 := h1.1.cell 2 _ rfl
  have q3 := h1.1.cell 3 _ rfl
  have q4 := h1.1.cell 4 _ rfl
  have f0 := h1.1.free 0
  have f1 := h1.1.free 1
  have f2 := h1.1.free 2
  have f3 := h1.1.free 3
  have f4 := h1.1.free 4
  obtain ⟨W3, hW3⟩ : ∃ W3, W3 = ((((((w1.setCell ⟨gb, 0, none⟩ (.slice ao n ca)).setCell ⟨gb, 1, none⟩ (.int .i64 r2)).setCell ⟨gb, 2, none⟩ (.int .i64 c2)).setCell ⟨gb, 3, none⟩ (.bool pd2)).setCell ⟨gb, 4, none⟩ (.bool au)).setCell ⟨gb, 2, none⟩ (.int .i64 0)).setCell ⟨gb, 3, none⟩ (.bool false) := ⟨_, rfl⟩
  have hu3 : Upd (fun b => b = gb) w1 W3 := by rw [hW3]; exact ((pres_upd gb _ _ _ _ _).setCell (p := ⟨gb, 2, none⟩) (.inl rfl) _).setCell (p := ⟨gb, 3, none⟩) (.inl rfl) _
  have h3 : RB w Z gb gz Ls r2 0 false au ao ca W3 := h1.own hu3 (by rw [hW3, HN.out]; exact ((pres_has h1.1 _ _ _ _ _).set 2 _).set 3 _)
  have H3 := Lib.hid h3
  have HW3 := Lib.hid hW3
  clear h1 b1 hu3 h3 hW3 HHO HRB HNL
  go_upto_region 5 with (fail)
  rw [← HW3.out]
  clear q0 q1 q2 q3 q4 f0 f1 f2 f3 f4 HW3
  go_upto_region 11 with (fail)
  obtain ⟨Ergs, hErgs⟩ : ∃ EE : Nat → Value → World → Prop, EE = fun jj xx ww => match jj with
      | 0 => xx = .agg #[.slice ao n ca, .int .i64 r2, .int .i64 0, .bool false, .bool au]
      | 1 => xx = .int .i32 13
      | 2 => xx = .bool sk
      | 3 => xx = undef
      | 4 => xx = .bool sk
      | _ => True := ⟨_, rfl⟩
  have ergs0 : ∀ xx ww, Ergs 0 xx ww = (xx = .agg #[.slice ao n ca, .int .i64 r2, .int .i64 0, .bool false, .bool au]) := fun xx ww => congrFun (congrFun (congrFun hErgs 0) xx) ww
  have ergs1 : ∀ xx ww, Ergs 1 xx ww = (xx = .int .i32 13) := fun xx ww => congrFun (congrFun (congrFun hErgs 1) xx) ww
  have ergs2 : ∀ xx ww, Ergs 2 xx ww = (xx = .bool sk) := fun xx ww => congrFun (congrFun (congrFun hErgs 2) xx) ww
  have ergs3 : ∀ xx ww, Ergs 3 xx ww = (xx = undef) := fun xx ww => congrFun (congrFun (congrFun hErgs 3) xx) ww
  have ergs4 : ∀ xx ww, Ergs 4 xx ww = (xx = .bool sk) := fun xx ww => congrFun (congrFun (congrFun hErgs 4) xx) ww
  obtain ⟨Crgs, hCrgs⟩ : ∃ CC : Array Bool → World → Prop, CC = fun L8 w' => Below w.heap.size w w' ∧ (Mix.one L8 3 = 0 → RB w Z gb gz (Ls) r2 0 false au ao ca w') ∧ (Mix.one L8 3 = 1 → Has w' gz [.slice ao n ca, .int .i64 r2, .int .i64 0, .bool false, .bool au] 39 ∧ HeldE lineE (fun b => Z b ∨ w.heap.size ≤ b) w' (.slice ao n ca) (Ls)) := ⟨_, rfl⟩
  have krgs : ∀ i L w, i ≠ 3 →  Crgs L w → Crgs (L.setIfInBounds i true) w := by
    intro i L w q3 h
    rw [hCrgs] at h ⊢
    simp only [Mix.one_ne q3]; exact h
  obtain ⟨Xrgs, hXrgs⟩ : ∃ XX : World → World → Prop, XX = fun _ _ => True := ⟨_, rfl⟩
  have xrgs : ∀ w, Xrgs w w := fun w => by rw [hXrgs]; exact trivial
  have strgs : ∀ j x w w1, Xrgs w w1 → Ergs j x w → Ergs j x w1 := by
    intro j x w w1 hx h
    rw [hXrgs] at hx
    match j with
    | 0 => rw [ergs0] at h ⊢; exact h
    | 1 => rw [ergs1] at h ⊢; exact h
    | 2 => rw [ergs2] at h ⊢; exact h
    | 3 => rw [ergs3] at h ⊢; exact h
    | 4 => rw [ergs4] at h ⊢; exact h
    | j + 5 => rw [hErgs]; trivial
  have crgs : Crgs (Array.replicate 5 false) W3.drew := by rw [hCrgs]; exact ⟨H3.out.2.2.2.1.trans ((Below.refl W3.heap.size W3).drew.mono H3.out.2.2.2.1.size), fun _ => H3.out.below (Below.refl _ _).drew, fun e => absurd e (by decide)⟩
  have brgs : ∀ L w w1, Crgs L w → Below w.heap.size w w1 → Crgs L w1 := by
    intro L w w1 h hb
    rw [hCrgs] at h ⊢
    (obtain ⟨q1, q2, q3⟩ := h; exact ⟨q1.trans (hb.mono q1.size), fun e => (q2 e).below hb, fun e => ⟨(q3 e).1.below hb (q3 e).1.lt, (q3 e).2.below hb⟩⟩)
  have xbrgs : ∀ w w1, Below w.heap.size w w1 → Xrgs w w1 := by
    intro w w1 hb
    rw [hXrgs]
    trivial
  have Hrgsb := Lib.hid brgs
  have Hrgsxb := Lib.hid xbrgs
  clear brgs xbrgs
  clear hErgs
  have Hrgsk := Lib.hid krgs
  have Hrgsx := Lib.hid xrgs
  have Hrgsst := Lib.hid strgs
  have Hrgsc := Lib.hid crgs
  have HrgshC := Lib.hid hCrgs
  have HrgshX := Lib.hid hXrgs
  have Hrgse0 := Lib.hid ergs0
  have Hrgse1 := Lib.hid ergs1
  have Hrgse2 := Lib.hid ergs2
  have Hrgse3 := Lib.hid ergs3
  have Hrgse4 := Lib.hid ergs4
  clear krgs xrgs strgs crgs hCrgs hXrgs ergs0 ergs1 ergs2 ergs3 ergs4
  go_wp2_with fail
  refine Reg.regionF Ergs Crgs Xrgs Hrgsst.out (by kernel_rfl) (by kernel_rfl) (by kernel_rfl) Hrgsc.out (fun Frgs hFrgs => ?_)
  simp only [Reg.frame, Reg.dsts, List.map_cons, List.map_nil, Mix.put_lit, Reg.put_none, List.set_cons_succ, List.set_cons_zero, Nat.zero_add, Nat.reduceAdd] at hFrgs
  refine ⟨?_, ?_⟩
  · refine ⟨?_, ?_, ?_, ?_, ?_, trivial⟩
    · intro Lq wq xq hh
      simp only [hFrgs]
      refine .inl ⟨rfl, ?_⟩
      unfold Reg.upon
      have hc : Crgs Lq wq := hh.cls
      rw [HrgshC.out] at hc
      have hq := (hc.2.1 (Mix.one_un (hh.notYet 3 (by kernel_rfl)))).1
      rw [← HN.out] at hq
      have q0 := hq.cell 0 _ rfl
      have q1 := hq.cell 1 _ rfl
      have q2 := hq.cell 2 _ rfl
      have q3 := hq.cell 3 _ rfl
      have q4 := hq.cell 4 _ rfl
      clear hc
      have hk := Hrgsk.out 0 Lq wq (by decide)  hh.cls
      have hx := Hrgsx.out wq
      have he : Ergs 0 (.agg #[.slice ao n ca, .int .i64 r2, .int .i64 0, .bool false, .bool au]) wq := by rw [Hrgse0.out]
      have HK := Lib.hid (And.intro hk (And.intro he hx))
      clear hk hx he
      go_simp
      exact HK.out
    · intro Lq wq xq hh
      simp only [hFrgs]
      refine .inl ⟨rfl, ?_⟩
      unfold Reg.upon
      have hk := Hrgsk.out 1 Lq wq (by decide)  hh.cls
      have hx := Hrgsx.out wq
      have he : Ergs 1 (.int .i32 13) wq := by rw [Hrgse1.out]
      have HK := Lib.hid (And.intro hk (And.intro he hx))
      clear hk hx he
      go_simp
      exact HK.out
    · intro Lq wq xq hh
      have d1 : Ergs 1 (xq 1) wq := hh.val 1 (by kernel_rfl) (by kernel_rfl)
      rw [Hrgse1.out] at d1
      simp only [hFrgs, d1]
      clear d1
      refine .inl ⟨rfl, ?_⟩
      unfold Reg.upon
      have hc : Crgs Lq wq := hh.cls
      rw [HrgshC.out] at hc
      go_simp
      refine (HSIL.out wq).mono ?_
      rintro e w2 ⟨rfl, hb⟩
      exact ⟨_, rfl, Hrgsk.out 2 Lq w2 (by decide)  (Hrgsb.out Lq wq w2 hh.cls hb), (by rw [Hrgse2.out]; try rfl), Hrgsxb.out wq w2 hb⟩
    · intro Lq wq xq hh
      have d0 : Ergs 0 (xq 0) wq := hh.val 0 (by kernel_rfl) (by kernel_rfl)
      rw [Hrgse0.out] at d0
      simp only [hFrgs, d0]
      clear d0
      refine .inl ⟨rfl, ?_⟩
      unfold Reg.upon
      have hc : Crgs Lq wq := hh.cls
      rw [HrgshC.out] at hc
      have hq := hc.2.1 hh.un
      have s0 := hq.2.2.1.cell 0 _ rfl
      have s1 := hq.2.2.1.cell 1 _ rfl
      have s2 := hq.2.2.1.cell 2 _ rfl
      have s3 := hq.2.2.1.cell 3 _ rfl
      have s4 := hq.2.2.1.cell 4 _ rfl
      have f0 := hq.2.2.1.free 0
      have f1 := hq.2.2.1.free 1
      have f2 := hq.2.2.1.free 2
      have f3 := hq.2.2.1.free 3
      have f4 := hq.2.2.1.free 4
      have hv := hq.2.1
      rw [← HN.out] at hv
      have hF : Crgs (Lq.setIfInBounds 3 true) (((((wq.setCell ⟨gz, 0, none⟩ (.slice ao n ca)).setCell ⟨gz, 1, none⟩ (.int .i64 r2)).setCell ⟨gz, 2, none⟩ (.int .i64 0)).setCell ⟨gz, 3, none⟩ (.bool false)).setCell ⟨gz, 4, none⟩ (.bool au)) := by
        rw [HrgshC.out]
        refine ⟨pres hc.1 hq.2.2.2.2.2.1 _ _ _ _ _, fun e => ?_, fun _ => ⟨pres_has hq.2.2.1 _ _ _ _ _, (hv.upd (pres_upd gz _ _ _ _ _) (fun b hz e => hz.2.2 e)).zone (fun b _ hz => hz.1)⟩⟩
        rw [Mix.one_set (by rw [hh.size]; decide)] at e
        exact absurd e (by decide)
      have hE : Ergs 3 undef (((((wq.setCell ⟨gz, 0, none⟩ (.slice ao n ca)).setCell ⟨gz, 1, none⟩ (.int .i64 r2)).setCell ⟨gz, 2, none⟩ (.int .i64 0)).setCell ⟨gz, 3, none⟩ (.bool false)).setCell ⟨gz, 4, none⟩ (.bool au)) := by rw [Hrgse3.out]
      have hX : Xrgs wq (((((wq.setCell ⟨gz, 0, none⟩ (.slice ao n ca)).setCell ⟨gz, 1, none⟩ (.int .i64 r2)).setCell ⟨gz, 2, none⟩ (.int .i64 0)).setCell ⟨gz, 3, none⟩ (.bool false)).setCell ⟨gz, 4, none⟩ (.bool au)) := by rw [HrgshX.out]; trivial
      clear hc hq hv
      go_simp
      exact ⟨hF, hE, hX⟩
    · intro Lq wq xq hh
      have d2 : Ergs 2 (xq 2) wq := hh.val 2 (by kernel_rfl) (by kernel_rfl)
      rw [Hrgse2.out] at d2
      simp only [hFrgs, d2]
      clear d2
      refine .inl ⟨rfl, ?_⟩
      unfold Reg.upon
      have hk := Hrgsk.out 4 Lq wq (by decide)  hh.cls
      have hx := Hrgsx.out wq
      have he : Ergs 4 (.bool sk) wq := by rw [Hrgse4.out]
      have HK := Lib.hid (And.intro hk (And.intro he hx))
      clear hk hx he
      go_simp
      exact HK.out
  intro xq wrgs hcrgs hvrgs
  rw [HrgshC.out] at hcrgs
  simp only [hFrgs]
  have vrgs4 : Ergs 4 (xq 4) wrgs := hvrgs 4 (by decide)
  rw [Hrgse4.out] at vrgs4
  rw [vrgs4]
  clear hvrgs hFrgs Hrgsk Hrgsx Hrgsst Hrgsc HrgshC HrgshX Hrgsb Hrgsxb Hrgse0 Hrgse1 Hrgse2 Hrgse3 Hrgse4
  obtain ⟨hbw, _, h3⟩ := hcrgs
  obtain ⟨hr3, hv3⟩ := h3 (by kernel_rfl)
  have k0 := hr3.cell 0 _ rfl
  have k1 := hr3.cell 1 _ rfl
  have k2 := hr3.cell 2 _ rfl
  have k3 := hr3.cell 3 _ rfl
  have k4 := hr3.cell 4 _ rfl
  have HF := Lib.hid (And.intro (hv3.zone (Y := fun b => Z b ∨ (w.heap.size ≤ b ∧ b < wrgs.heap.size)) (fun b hlt hz => by rcases hz with hz | hz; exact .inl hz; exact .inr ⟨hz, hlt⟩)) hbw)
  clear hr3 hv3 h3 vrgs4
  go_wp2
  refine bodyPost_ret (v := .tuple #[.agg #[.slice ao n ca, .int .i64 r2, .int .i64 0, .bool false, .bool au], .bool sk]) (by simp [results, Tryd.results23, go_sem, k0, k1, k2, k3, k4]) rfl ?_
  rw [HE.out.1, HE.out.2.1, HE.out.2.2.1, HE.out.2.2.2]
  exact ⟨_, rfl, HF.out.1, HF.out.2⟩
set_option maxRecDepth 100000 in
set_option maxHeartbeats 4000000 in
theorem rct_8 (Z : Zone) (v : Value) (Ls : List Ln) (r c : Int) (pd au : Bool) (w : World) (hv : HeldE lineE Z w v Ls) (hZ : ∀ b, Z b → b < w.heap.size) (wd : Nat) (hev : Even Ls wd) (r2 c2 : Nat) (hr2 : inI r (sideI Ls.length) = (r2 : Int)) (hc2 : inI c (sideI wd) = (c2 : Int)) (hlr : r2 < Ls.length) (hlc : c2 < wd) : RCt Z w Ls r c pd au 8 v r2 c2 := by
  unfold RCt
  obtain ⟨ao, ca, rfl⟩ := hv.len
  obtain ⟨n, hn⟩ : ∃ n, n = Ls.length := ⟨_, rfl⟩
  obtain ⟨W, hW, hb, hx, hl0⟩ := pboxes w (.slice ao Ls.length ca) (.int .i64 r) (.int .i64 c) (.bool pd) (.bool au) (.slice none 0 0) (.int .i64 0) (.int .i64 0) (.bool false) (.bool false)
  obtain ⟨gb, hgb⟩ : ∃ gb, gb = w.heap.size := ⟨_, rfl⟩
  obtain ⟨gz, hgz⟩ : ∃ gz, gz = w.heap.size + 1 := ⟨_, rfl⟩
  have HG := Lib.hid (And.intro hgb hgz)
  have hrb : RB w Z gb gz Ls r c pd au ao ca W := by
    refine ⟨by rw [hgb]; exact hb, (hv.below hl0).zone (fun x _ hx => ⟨.inl hx, ?_, ?_⟩), by rw [hgz]; exact hx, hl0, by omega, by omega, by omega⟩
    · have := hZ x hx; omega
    · have := hZ x hx; omega
  have HRB := Lib.hid hrb
  have HEV := Lib.hid hev
  have HN := Lib.hid hn
  have hw0 : (Ls.getD 0 zl).1.length = wd := hev.2.2.2.2 0 hev.1
  obtain ⟨pd2, hpd2⟩ : ∃ pd2, pd2 = holdP c pd wd := ⟨_, rfl⟩
  have HHO := Lib.hid (show Calls Tryd.prog 46 #[.agg #[.slice ao n ca, .int .i64 r, .int .i64 c, .bool pd, .bool au]] W (Gives W (.agg #[.slice ao n ca, .int .i64 r2, .int .i64 c2, .bool pd2, .bool au])) from by
    have h9 := rph_any _ (.slice ao Ls.length ca) Ls r c pd au W hrb.2.1 hev.1 wd hw0
    rw [hr2, hc2, ← hpd2] at h9
    rw [hn]
    exact h9)
  have HNL := Lib.hid (show Calls Tryd.prog 59 #[.agg #[.slice ao n ca, .int .i64 r, .int .i64 c, .bool pd, .bool au]] W (RPen (fun b => ((Z b ∨ w.heap.size ≤ b) ∧ b ≠ gb ∧ b ≠ gz) ∧ b < W.heap.size) W (downL Ls r2) (downR Ls r2 : Nat) c2 false au) from by
    have h9 := rpnl_any _ (.slice ao Ls.length ca) Ls r c pd au W wd hrb.arg (fun x hx => hx.2) hev r2 c2 hr2 hc2 hlr
    rw [hn]
    exact h9)
  obtain ⟨sk, hsk⟩ : ∃ sk, sk = silB 8 := ⟨_, rfl⟩
  have HSIL := Lib.hid (show ∀ w', Calls Tryd.prog 60 #[.int .i32 8] w' (Gives w' (.bool sk)) from fun w' => by rw [hsk]; exact rbsil_any 8 w')
  obtain ⟨RL, hRL⟩ : ∃ RL, RL = ctL Ls r2 8 := ⟨_, rfl⟩
  obtain ⟨rr, hrr⟩ : ∃ rr, rr = ctR Ls r r2 8 := ⟨_, rfl⟩
  obtain ⟨cc, hcc⟩ : ∃ cc, cc = ctC c c2 8 := ⟨_, rfl⟩
  obtain ⟨pp, hpp⟩ : ∃ pp, pp = ctP pd 8 := ⟨_, rfl⟩
  have HE := Lib.hid (by
    obtain ⟨t1, t2, t3, t4⟩ := ct_8 Ls r c r2 c2 pd
    exact And.intro (hRL.trans t1) (And.intro (hrr.trans t2) (And.intro (hcc.trans t3) (hpp.trans t4))))
  have HC9 := Lib.hid (show c2 ≤ 2000 from by have := hev.2.2.2.1; omega)
  rw [← hsk, ← hRL, ← hrr, ← hcc, ← hpp]
  rw [← hn] at hW ⊢
  clear hv hZ hev hr2 hc2 hlr hlc hb hx hl0 hgb hgz hrb hn hw0 hpd2 hsk hRL hrr hcc hpp
  obtain ⟨d1, hd1⟩ : ∃ d1, d1 = (c2 : Int) - 1 := ⟨_, rfl⟩
  have hw1 : IntKind.i64.wrap ((c2 : Int) - 1) = d1 := by rw [hd1, IntKind.wrap_i64]; have := HC9.out; omega
  obtain ⟨d2, hd2⟩ : ∃ d2, d2 = ((c2 - 1 : Nat) : Int) := ⟨_, rfl⟩
  have hm1 : max 0 d1 = d2 := by rw [hd1, hd2]; omega
  rw [← hd2] at HE
  clear hd1 hd2
  go_enter Tryd.func23, Tryd.ntmps23
  go_upto_region 1 with (fail)
  rw [← hW]
  clear hW
  rw [← HG.out.2]
  rw [← HG.out.1]
  have q0 := HRB.out.1.cell 0 _ rfl
  rw [← HN.out] at q0
  have q1 := HRB.out.1.cell 1 _ rfl
  have q2 := HRB.out.1.cell 2 _ rfl
  have q3 := HRB.out.1.cell 3 _ rfl
  have q4 := HRB.out.1.cell 4 _ rfl
  go_wp2_with fail
  refine HHO.out.mono ?_
  rintro e w1 ⟨rfl, b1⟩
  have h1 := HRB.out.below b1
  clear q0 q1 q2 q3 q4
  have q0 := h1.1.cell 0 _ rfl
  rw [← HN.out] at q0
  have q1 := h1.1.cell 1 _ rfl
  have q2 := h1.1.cell 2 _ rfl
  have q3 := h1.1.cell 3 _ rfl
  have q4 := h1.1.cell 4 _ rfl
  have f0 := h1.1.free 0
  have f1 := h1.1.free 1
  have f2 := h1.1.free 2
  have f3 := h1.1.free 3
  have f4 := h1.1.free 4
  obtain ⟨W3, hW3⟩ : ∃ W3, W3 = ((((((w1.setCell ⟨gb, 0, none⟩ (.slice ao n ca)).setCell ⟨gb, 1, none⟩ (.int .i64 r2)).setCell ⟨gb, 2, none⟩ (.int .i64 c2)).setCell ⟨gb, 3, none⟩ (.bool pd2)).setCell ⟨gb, 4, none⟩ (.bool au)).setCell ⟨gb, 2, none⟩ (.int .i64 d2)).setCell ⟨gb, 3, none⟩ (.bool false) := ⟨_, rfl⟩
  have hu3 : Upd (fun b => b = gb) w1 W3 := by rw [hW3]; exact ((pres_upd gb _ _ _ _ _).setCell (p := ⟨gb, 2, none⟩) (.inl rfl) _).setCell (p := ⟨gb, 3, none⟩) (.inl rfl) _
  have h3 : RB w Z gb gz Ls r2 d2 false au ao ca W3 := h1.own hu3 (by rw [hW3, HN.out]; exact ((pres_has h1.1 _ _ _ _ _).set 2 _).set 3 _)
  have H3 := Lib.hid h3
  have HW3 := Lib.hid hW3
  clear h1 b1 hu3 h3 hW3 HHO HRB HNL
  go_upto_region 11 with (fail)
  rw [← HW3.out]
  clear q0 q1 q2 q3 q4 f0 f1 f2 f3 f4 HW3
  obtain ⟨Ergs, hErgs⟩ : ∃ EE : Nat → Value → World → Prop, EE = fun jj xx ww => match jj with
      | 0 => xx = .agg #[.slice ao n ca, .int .i64 r2, .int .i64 d2, .bool false, .bool au]
      | 1 => xx = .int .i32 8
      | 2 => xx = .bool sk
      | 3 => xx = undef
      | 4 => xx = .bool sk
      | _ => True := ⟨_, rfl⟩
  have ergs0 : ∀ xx ww, Ergs 0 xx ww = (xx = .agg #[.slice ao n ca, .int .i64 r2, .int .i64 d2, .bool false, .bool au]) := fun xx ww => congrFun (congrFun (congrFun hErgs 0) xx) ww
  have ergs1 : ∀ xx ww, Ergs 1 xx ww = (xx = .int .i32 8) := fun xx ww => congrFun (congrFun (congrFun hErgs 1) xx) ww
  have ergs2 : ∀ xx ww, Ergs 2 xx ww = (xx = .bool sk) := fun xx ww => congrFun (congrFun (congrFun hErgs 2) xx) ww
  have ergs3 : ∀ xx ww, Ergs 3 xx ww = (xx = undef) := fun xx ww => congrFun (congrFun (congrFun hErgs 3) xx) ww
  have ergs4 : ∀ xx ww, Ergs 4 xx ww = (xx = .bool sk) := fun xx ww => congrFun (congrFun (congrFun hErgs 4) xx) ww
  obtain ⟨Crgs, hCrgs⟩ : ∃ CC : Array Bool → World → Prop, CC = fun L8 w' => Below w.heap.size w w' ∧ (Mix.one L8 3 = 0 → RB w Z gb gz (Ls) r2 d2 false au ao ca w') ∧ (Mix.one L8 3 = 1 → Has w' gz [.slice ao n ca, .int .i64 r2, .int .i64 d2, .bool false, .bool au] 39 ∧ HeldE lineE (fun b => Z b ∨ w.heap.size ≤ b) w' (.slice ao n ca) (Ls)) := ⟨_, rfl⟩
  have krgs : ∀ i L w, i ≠ 3 →  Crgs L w → Crgs (L.setIfInBounds i true) w := by
    intro i L w q3 h
    rw [hCrgs] at h ⊢
    simp only [Mix.one_ne q3]; exact h
  obtain ⟨Xrgs, hXrgs⟩ : ∃ XX : World → World → Prop, XX = fun _ _ => True := ⟨_, rfl⟩
  have xrgs : ∀ w, Xrgs w w := fun w => by rw [hXrgs]; exact trivial
  have strgs : ∀ j x w w1, Xrgs w w1 → Ergs j x w → Ergs j x w1 := by
    intro j x w w1 hx h
    rw [hXrgs] at hx
    match j with
    | 0 => rw [ergs0] at h ⊢; exact h
    | 1 => rw [ergs1] at h ⊢; exact h
    | 2 => rw [ergs2] at h ⊢; exact h
    | 3 => rw [ergs3] at h ⊢; exact h
    | 4 => rw [ergs4] at h ⊢; exact h
    | j + 5 => rw [hErgs]; trivial
  have crgs : Crgs (Array.replicate 5 false) W3.drew := by rw [hCrgs]; exact ⟨H3.out.2.2.2.1.trans ((Below.refl W3.heap.size W3).drew.mono H3.out.2.2.2.1.size), fun _ => H3.out.below (Below.refl _ _).drew, fun e => absurd e (by decide)⟩
  have brgs : ∀ L w w1, Crgs L w → Below w.heap.size w w1 → Crgs L w1 := by
    intro L w w1 h hb
    rw [hCrgs] at h ⊢
    (obtain ⟨q1, q2, q3⟩ := h; exact ⟨q1.trans (hb.mono q1.size), fun e => (q2 e).below hb, fun e => ⟨(q3 e).1.below hb (q3 e).1.lt, (q3 e).2.below hb⟩⟩)
  have xbrgs : ∀ w w1, Below w.heap.size w w1 → Xrgs w w1 := by
    intro w w1 hb
    rw [hXrgs]
    trivial
  have Hrgsb := Lib.hid brgs
  have Hrgsxb := Lib.hid xbrgs
  clear brgs xbrgs
  clear hErgs
  have Hrgsk := Lib.hid krgs
  have Hrgsx := Lib.hid xrgs
  have Hrgsst := Lib.hid strgs
  have Hrgsc := Lib.hid crgs
  have HrgshC := Lib.hid hCrgs
  have HrgshX := Lib.hid hXrgs
  have Hrgse0 := Lib.hid ergs0
  have Hrgse1 := Lib.hid ergs1
  have Hrgse2 := Lib.hid ergs2
  have Hrgse3 := Lib.hid ergs3
  have Hrgse4 := Lib.hid ergs4
  clear krgs xrgs strgs crgs hCrgs hXrgs ergs0 ergs1 ergs2 ergs3 ergs4
  go_wp2_with fail
  refine Reg.regionF Ergs Crgs Xrgs Hrgsst.out (by kernel_rfl) (by kernel_rfl) (by kernel_rfl) Hrgsc.out (fun Frgs hFrgs => ?_)
  simp only [Reg.frame, Reg.dsts, List.map_cons, List.map_nil, Mix.put_lit, Reg.put_none, List.set_cons_succ, List.set_cons_zero, Nat.zero_add, Nat.reduceAdd] at hFrgs
  refine ⟨?_, ?_⟩
  · refine ⟨?_, ?_, ?_, ?_, ?_, trivial⟩
    · intro Lq wq xq hh
      simp only [hFrgs]
      refine .inl ⟨rfl, ?_⟩
      unfold Reg.upon
      have hc : Crgs Lq wq := hh.cls
      rw [HrgshC.out] at hc
      have hq := (hc.2.1 (Mix.one_un (hh.notYet 3 (by kernel_rfl)))).1
      rw [← HN.out] at hq
      have q0 := hq.cell 0 _ rfl
      have q1 := hq.cell 1 _ rfl
      have q2 := hq.cell 2 _ rfl
      have q3 := hq.cell 3 _ rfl
      have q4 := hq.cell 4 _ rfl
      clear hc
      have hk := Hrgsk.out 0 Lq wq (by decide)  hh.cls
      have hx := Hrgsx.out wq
      have he : Ergs 0 (.agg #[.slice ao n ca, .int .i64 r2, .int .i64 d2, .bool false, .bool au]) wq := by rw [Hrgse0.out]
      have HK := Lib.hid (And.intro hk (And.intro he hx))
      clear hk hx he
      go_simp
      exact HK.out
    · intro Lq wq xq hh
      simp only [hFrgs]
      refine .inl ⟨rfl, ?_⟩
      unfold Reg.upon
      have hk := Hrgsk.out 1 Lq wq (by decide)  hh.cls
      have hx := Hrgsx.out wq
      have he : Ergs 1 (.int .i32 8) wq := by rw [Hrgse1.out]
      have HK := Lib.hid (And.intro hk (And.intro he hx))
      clear hk hx he
      go_simp
      exact HK.out
    · intro Lq wq xq hh
      have d1 : Ergs 1 (xq 1) wq := hh.val 1 (by kernel_rfl) (by kernel_rfl)
      rw [Hrgse1.out] at d1
      simp only [hFrgs, d1]
      clear d1
      refine .inl ⟨rfl, ?_⟩
      unfold Reg.upon
      have hc : Crgs Lq wq := hh.cls
      rw [HrgshC.out] at hc
      go_simp
      refine (HSIL.out wq).mono ?_
      rintro e w2 ⟨rfl, hb⟩
      exact ⟨_, rfl, Hrgsk.out 2 Lq w2 (by decide)  (Hrgsb.out Lq wq w2 hh.cls hb), (by rw [Hrgse2.out]; try rfl), Hrgsxb.out wq w2 hb⟩
    · intro Lq wq xq hh
      have d0 : Ergs 0 (xq 0) wq := hh.val 0 (by kernel_rfl) (by kernel_rfl)
      rw [Hrgse0.out] at d0
      simp only [hFrgs, d0]
      clear d0
      refine .inl ⟨rfl, ?_⟩
      unfold Reg.upon
      have hc : Crgs Lq wq := hh.cls
      rw [HrgshC.out] at hc
      have hq := hc.2.1 hh.un
      have s0 := hq.2.2.1.cell 0 _ rfl
      have s1 := hq.2.2.1.cell 1 _ rfl
      have s2 := hq.2.2.1.cell 2 _ rfl
      have s3 := hq.2.2.1.cell 3 _ rfl
      have s4 := hq.2.2.1.cell 4 _ rfl
      have f0 := hq.2.2.1.free 0
      have f1 := hq.2.2.1.free 1
      have f2 := hq.2.2.1.free 2
      have f3 := hq.2.2.1.free 3
      have f4 := hq.2.2.1.free 4
      have hv := hq.2.1
      rw [← HN.out] at hv
      have hF : Crgs (Lq.setIfInBounds 3 true) (((((wq.setCell ⟨gz, 0, none⟩ (.slice ao n ca)).setCell ⟨gz, 1, none⟩ (.int .i64 r2)).setCell ⟨gz, 2, none⟩ (.int .i64 d2)).setCell ⟨gz, 3, none⟩ (.bool false)).setCell ⟨gz, 4, none⟩ (.bool au)) := by
        rw [HrgshC.out]
        refine ⟨pres hc.1 hq.2.2.2.2.2.1 _ _ _ _ _, fun e => ?_, fun _ => ⟨pres_has hq.2.2.1 _ _ _ _ _, (hv.upd (pres_upd gz _ _ _ _ _) (fun b hz e => hz.2.2 e)).zone (fun b _ hz => hz.1)⟩⟩
        rw [Mix.one_set (by rw [hh.size]; decide)] at e
        exact absurd e (by decide)
      have hE : Ergs 3 undef (((((wq.setCell ⟨gz, 0, none⟩ (.slice ao n ca)).setCell ⟨gz, 1, none⟩ (.int .i64 r2)).setCell ⟨gz, 2, none⟩ (.int .i64 d2)).setCell ⟨gz, 3, none⟩ (.bool false)).setCell ⟨gz, 4, none⟩ (.bool au)) := by rw [Hrgse3.out]
      have hX : Xrgs wq (((((wq.setCell ⟨gz, 0, none⟩ (.slice ao n ca)).setCell ⟨gz, 1, none⟩ (.int .i64 r2)).setCell ⟨gz, 2, none⟩ (.int .i64 d2)).setCell ⟨gz, 3, none⟩ (.bool false)).setCell ⟨gz, 4, none⟩ (.bool au)) := by rw [HrgshX.out]; trivial
      clear hc hq hv
      go_simp
      exact ⟨hF, hE, hX⟩
    · intro Lq wq xq hh
      have d2 : Ergs 2 (xq 2) wq := hh.val 2 (by kernel_rfl) (by kernel_rfl)
      rw [Hrgse2.out] at d2
      simp only [hFrgs, d2]
      clear d2
      refine .inl ⟨rfl, ?_⟩
      unfold Reg.upon
      have hk := Hrgsk.out 4 Lq wq (by decide)  hh.cls
      have hx := Hrgsx.out wq
      have he : Ergs 4 (.bool sk) wq := by rw [Hrgse4.out]
      have HK := Lib.hid (And.intro hk (And.intro he hx))
      clear hk hx he
      go_simp
      exact HK.out
  intro xq wrgs hcrgs hvrgs
  rw [HrgshC.out] at hcrgs
  simp only [hFrgs]
  have vrgs4 : Ergs 4 (xq 4) wrgs := hvrgs 4 (by decide)
  rw [Hrgse4.out] at vrgs4
  rw [vrgs4]
  clear hvrgs hFrgs Hrgsk Hrgsx Hrgsst Hrgsc HrgshC HrgshX Hrgsb Hrgsxb Hrgse0 Hrgse1 Hrgse2 Hrgse3 Hrgse4
  obtain ⟨hbw, _, h3⟩ := hcrgs
  obtain ⟨hr3, hv3⟩ := h3 (by kernel_rfl)
  have k0 := hr3.cell 0 _ rfl
  have k1 := hr3.cell 1 _ rfl
  have k2 := hr3.cell 2 _ rfl
  have k3 := hr3.cell 3 _ rfl
  have k4 := hr3.cell 4 _ rfl
  have HF := Lib.hid (And.intro (hv3.zone (Y := fun b => Z b ∨ (w.heap.size ≤ b ∧ b < wrgs.heap.size)) (fun b hlt hz => by rcases hz with hz | hz; exact .inl hz; exact .inr ⟨hz, hlt⟩)) hbw)
  clear hr3 hv3 h3 vrgs4
  go_wp2
  refine bodyPost_ret (v := .tuple #[.agg #[.slice ao n ca, .int .i64 r2, .int .i64 d2, .bool false, .bool au], .bool sk]) (by simp [results, Tryd.results23, go_sem, k0, k1, k2, k3, k4]) rfl ?_
  rw [HE.out.1, HE.out.2.1, HE.out.2.2.1, HE.out.2.2.2]
  exact ⟨_, rfl, HF.out.1, HF.out.2⟩
set_option maxRecDepth 100000 in
set_option maxHeartbeats 4000000 in
theorem rct_10 (Z : Zone) (v : Value) (Ls : List Ln) (r c : Int) (pd au : Bool) (w : World) (hv : HeldE lineE Z w v Ls) (hZ : ∀ b, Z b → b < w.heap.size) (wd : Nat) (hev : Even Ls wd) (r2 c2 : Nat) (hr2 : inI r (sideI Ls.length) = (r2 : Int)) (hc2 : inI c (sideI wd) = (c2 : Int)) (hlr : r2 < Ls.length) (hlc : c2 < wd) : RCt Z w Ls r c pd au 10 v r2 c2 := by
  unfold RCt
  obtain ⟨ao, ca, rfl⟩ := hv.len
  obtain ⟨n, hn⟩ : ∃ n, n = Ls.length := ⟨_, rfl⟩
  obtain ⟨W, hW, hb, hx, hl0⟩ := pboxes w (.slice ao Ls.length ca) (.int .i64 r) (.int .i64 c) (.bool pd) (.bool au) (.slice none 0 0) (.int .i64 0) (.int .i64 0) (.bool false) (.bool false)
  obtain ⟨gb, hgb⟩ : ∃ gb, gb = w.heap.size := ⟨_, rfl⟩
  obtain ⟨gz, hgz⟩ : ∃ gz, gz = w.heap.size + 1 := ⟨_, rfl⟩
  have HG := Lib.hid (And.intro hgb hgz)
  have hrb : RB w Z gb gz Ls r c pd au ao ca W := by
    refine ⟨by rw [hgb]; exact hb, (hv.below hl0).zone (fun x _ hx => ⟨.inl hx, ?_, ?_⟩), by rw [hgz]; exact hx, hl0, by omega, by omega, by omega⟩
    · have := hZ x hx; omega
    · have := hZ x hx; omega
  have HRB := Lib.hid hrb
  have HEV := Lib.hid hev
  have HN := Lib.hid hn
  have hw0 : (Ls.getD 0 zl).1.length = wd := hev.2.2.2.2 0 hev.1
  obtain ⟨pd2, hpd2⟩ : ∃ pd2, pd2 = holdP c pd wd := ⟨_, rfl⟩
  have HHO := Lib.hid (show Calls Tryd.prog 46 #[.agg #[.slice ao n ca, .int .i64 r, .int .i64 c, .bool pd, .bool au]] W (Gives W (.agg #[.slice ao n ca, .int .i64 r2, .int .i64 c2, .bool pd2, .bool au])) from by
    have h9 := rph_any _ (.slice ao Ls.length ca) Ls r c pd au W hrb.2.1 hev.1 wd hw0
    rw [hr2, hc2, ← hpd2] at h9
    rw [hn]
    exact h9)
  have HNL := Lib.hid (show Calls Tryd.prog 59 #[.agg #[.slice ao n ca, .int .i64 r, .int .i64 c, .bool pd, .bool au]] W (RPen (fun b => ((Z b ∨ w.heap.size ≤ b) ∧ b ≠ gb ∧ b ≠ gz) ∧ b < W.heap.size) W (downL Ls r2) (downR Ls r2 : Nat) c2 false au) from by
    have h9 := rpnl_any _ (.slice ao Ls.length ca) Ls r c pd au W wd hrb.arg (fun x hx => hx.2) hev r2 c2 hr2 hc2 hlr
    rw [hn]
    exact h9)
  obtain ⟨sk, hsk⟩ : ∃ sk, sk = silB 10 := ⟨_, rfl⟩
  have HSIL := Lib.hid (show ∀ w', Calls Tryd.prog 60 #[.int .i32 10] w' (Gives w' (.bool sk)) from fun w' => by rw [hsk]; exact rbsil_any 10 w')
  obtain ⟨RL, hRL⟩ : ∃ RL, RL = ctL Ls r2 10 := ⟨_, rfl⟩
  obtain ⟨rr, hrr⟩ : ∃ rr, rr = ctR Ls r r2 10 := ⟨_, rfl⟩
  obtain ⟨cc, hcc⟩ : ∃ cc, cc = ctC c c2 10 := ⟨_, rfl⟩
  obtain ⟨pp, hpp⟩ : ∃ pp, pp = ctP pd 10 := ⟨_, rfl⟩
  have HE := Lib.hid (by
    obtain ⟨t1, t2, t3, t4⟩ := ct_10 Ls r c r2 c2 pd
    exact And.intro (hRL.trans t1) (And.intro (hrr.trans t2) (And.intro (hcc.trans t3) (hpp.trans t4))))
  have HC9 := Lib.hid (show c2 ≤ 2000 from by have := hev.2.2.2.1; omega)
  rw [← hsk, ← hRL, ← hrr, ← hcc, ← hpp]
  rw [← hn] at hW ⊢
  clear hv hZ hev hr2 hc2 hlr hlc hb hx hl0 hgb hgz hrb hn hw0 hpd2 hsk hRL hrr hcc hpp
  go_enter Tryd.func23, Tryd.ntmps23
  go_upto_region 1 with (fail)
  rw [← hW]
  clear hW
  rw [← HG.out.2]
  rw [← HG.out.1]
  have q0 := HRB.out.1.cell 0 _ rfl
  rw [← HN.out] at q0
  have q1 := HRB.out.1.cell 1 _ rfl
  have q2 := HRB.out.1.cell 2 _ rfl
  have q3 := HRB.out.1.cell 3 _ rfl
  have q4 := HRB.out.1.cell 4 _ rfl
  go_wp2_with fail
  refine HNL.out.mono ?_
  rintro e w5 ⟨v5, rfl, h5, b5⟩
  clear q0 q1 q2 q3 q4
  obtain ⟨o5, k5, ev5⟩ := h5.len
  have hst := RB.store (r3 := (downR Ls r2 : Nat)) (c3 := c2) (pd3 := false) (au3 := au) HRB.out b5 (by rw [← ev5]; exact h5)
  have hk5 := HRB.out.below b5
  rw [down_len, ← HN.out] at ev5 hst
  subst ev5
  obtain ⟨W3, hW3⟩ : ∃ W3, W3 = (((((w5.setCell ⟨gb, 0, none⟩ (.slice o5 n k5)).setCell ⟨gb, 1, none⟩ (.int .i64 (downR Ls r2 : Nat))).setCell ⟨gb, 2, none⟩ (.int .i64 c2)).setCell ⟨gb, 3, none⟩ (.bool false)).setCell ⟨gb, 4, none⟩ (.bool au)) := ⟨_, rfl⟩
  rw [← hW3] at hst
  have H3 := Lib.hid hst
  have HW3 := Lib.hid hW3
  have s0 := hk5.1.cell 0 _ rfl
  have s1 := hk5.1.cell 1 _ rfl
  have s2 := hk5.1.cell 2 _ rfl
  have s3 := hk5.1.cell 3 _ rfl
  have s4 := hk5.1.cell 4 _ rfl
  have f0 := hk5.1.free 0
  have f1 := hk5.1.free 1
  have f2 := hk5.1.free 2
  have f3 := hk5.1.free 3
  have f4 := hk5.1.free 4
  clear h5 b5 hst hk5 hW3 HHO HRB HNL
  go_upto_region 7 with (fail)
  rw [← HW3.out]
  clear s0 s1 s2 s3 s4 f0 f1 f2 f3 f4 HW3
  go_upto_region 11 with (fail)
  obtain ⟨Ergs, hErgs⟩ : ∃ EE : Nat → Value → World → Prop, EE = fun jj xx ww => match jj with
      | 0 => xx = .agg #[.slice o5 n k5, .int .i64 (downR Ls r2 : Nat), .int .i64 c2, .bool false, .bool au]
      | 1 => xx = .int .i32 10
      | 2 => xx = .bool sk
      | 3 => xx = undef
      | 4 => xx = .bool sk
      | _ => True := ⟨_, rfl⟩
  have ergs0 : ∀ xx ww, Ergs 0 xx ww = (xx = .agg #[.slice o5 n k5, .int .i64 (downR Ls r2 : Nat), .int .i64 c2, .bool false, .bool au]) := fun xx ww => congrFun (congrFun (congrFun hErgs 0) xx) ww
  have ergs1 : ∀ xx ww, Ergs 1 xx ww = (xx = .int .i32 10) := fun xx ww => congrFun (congrFun (congrFun hErgs 1) xx) ww
  have ergs2 : ∀ xx ww, Ergs 2 xx ww = (xx = .bool sk) := fun xx ww => congrFun (congrFun (congrFun hErgs 2) xx) ww
  have ergs3 : ∀ xx ww, Ergs 3 xx ww = (xx = undef) := fun xx ww => congrFun (congrFun (congrFun hErgs 3) xx) ww
  have ergs4 : ∀ xx ww, Ergs 4 xx ww = (xx = .bool sk) := fun xx ww => congrFun (congrFun (congrFun hErgs 4) xx) ww
  obtain ⟨Crgs, hCrgs⟩ : ∃ CC : Array Bool → World → Prop, CC = fun L8 w' => Below w.heap.size w w' ∧ (Mix.one L8 3 = 0 → RB w Z gb gz (downL Ls r2) (downR Ls r2 : Nat) c2 false au o5 k5 w') ∧ (Mix.one L8 3 = 1 → Has w' gz [.slice o5 n k5, .int .i64 (downR Ls r2 : Nat), .int .i64 c2, .bool false, .bool au] 39 ∧ HeldE lineE (fun b => Z b ∨ w.heap.size ≤ b) w' (.slice o5 n k5) (downL Ls r2)) := ⟨_, rfl⟩
  have krgs : ∀ i L w, i ≠ 3 →  Crgs L w → Crgs (L.setIfInBounds i true) w := by
    intro i L w q3 h
    rw [hCrgs] at h ⊢
    simp only [Mix.one_ne q3]; exact h
  obtain ⟨Xrgs, hXrgs⟩ : ∃ XX : World → World → Prop, XX = fun _ _ => True := ⟨_, rfl⟩
  have xrgs : ∀ w, Xrgs w w := fun w => by rw [hXrgs]; exact trivial
  have strgs : ∀ j x w w1, Xrgs w w1 → Ergs j x w → Ergs j x w1 := by
    intro j x w w1 hx h
    rw [hXrgs] at hx
    match j with
    | 0 => rw [ergs0] at h ⊢; exact h
    | 1 => rw [ergs1] at h ⊢; exact h
    | 2 => rw [ergs2] at h ⊢; exact h
    | 3 => rw [ergs3] at h ⊢; exact h
    | 4 => rw [ergs4] at h ⊢; exact h
    | j + 5 => rw [hErgs]; trivial
  have crgs : Crgs (Array.replicate 5 false) W3.drew := by rw [hCrgs]; exact ⟨H3.out.2.2.2.1.trans ((Below.refl W3.heap.size W3).drew.mono H3.out.2.2.2.1.size), fun _ => H3.out.below (Below.refl _ _).drew, fun e => absurd e (by decide)⟩
  have brgs : ∀ L w w1, Crgs L w → Below w.heap.size w w1 → Crgs L w1 := by
    intro L w w1 h hb
    rw [hCrgs] at h ⊢
    (obtain ⟨q1, q2, q3⟩ := h; exact ⟨q1.trans (hb.mono q1.size), fun e => (q2 e).below hb, fun e => ⟨(q3 e).1.below hb (q3 e).1.lt, (q3 e).2.below hb⟩⟩)
  have xbrgs : ∀ w w1, Below w.heap.size w w1 → Xrgs w w1 := by
    intro w w1 hb
    rw [hXrgs]
    trivial
  have Hrgsb := Lib.hid brgs
  have Hrgsxb := Lib.hid xbrgs
  clear brgs xbrgs
  clear hErgs
  have Hrgsk := Lib.hid krgs
  have Hrgsx := Lib.hid xrgs
  have Hrgsst := Lib.hid strgs
  have Hrgsc := Lib.hid crgs
  have HrgshC := Lib.hid hCrgs
  have HrgshX := Lib.hid hXrgs
  have Hrgse0 := Lib.hid ergs0
  have Hrgse1 := Lib.hid ergs1
  have Hrgse2 := Lib.hid ergs2
  have Hrgse3 := Lib.hid ergs3
  have Hrgse4 := Lib.hid ergs4
  clear krgs xrgs strgs crgs hCrgs hXrgs ergs0 ergs1 ergs2 ergs3 ergs4
  go_wp2_with fail
  refine Reg.regionF Ergs Crgs Xrgs Hrgsst.out (by kernel_rfl) (by kernel_rfl) (by kernel_rfl) Hrgsc.out (fun Frgs hFrgs => ?_)
  simp only [Reg.frame, Reg.dsts, List.map_cons, List.map_nil, Mix.put_lit, Reg.put_none, List.set_cons_succ, List.set_cons_zero, Nat.zero_add, Nat.reduceAdd] at hFrgs
  refine ⟨?_, ?_⟩
  · refine ⟨?_, ?_, ?_, ?_, ?_, trivial⟩
    · intro Lq wq xq hh
      simp only [hFrgs]
      refine .inl ⟨rfl, ?_⟩
      unfold Reg.upon
      have hc : Crgs Lq wq := hh.cls
      rw [HrgshC.out] at hc
      have hq := (hc.2.1 (Mix.one_un (hh.notYet 3 (by kernel_rfl)))).1
      rw [down_len, ← HN.out] at hq
      have q0 := hq.cell 0 _ rfl
      have q1 := hq.cell 1 _ rfl
      have q2 := hq.cell 2 _ rfl
      have q3 := hq.cell 3 _ rfl
      have q4 := hq.cell 4 _ rfl
      clear hc
      have hk := Hrgsk.out 0 Lq wq (by decide)  hh.cls
      have hx := Hrgsx.out wq
      have he : Ergs 0 (.agg #[.slice o5 n k5, .int .i64 (downR Ls r2 : Nat), .int .i64 c2, .bool false, .bool au]) wq := by rw [Hrgse0.out]
      have HK := Lib.hid (And.intro hk (And.intro he hx))
      clear hk hx he
      go_simp
      exact HK.out
    · intro Lq wq xq hh
      simp only [hFrgs]
      refine .inl ⟨rfl, ?_⟩
      unfold Reg.upon
      have hk := Hrgsk.out 1 Lq wq (by decide)  hh.cls
      have hx := Hrgsx.out wq
      have he : Ergs 1 (.int .i32 10) wq := by rw [Hrgse1.out]
      have HK := Lib.hid (And.intro hk (And.intro he hx))
      clear hk hx he
      go_simp
      exact HK.out
    · intro Lq wq xq hh
      have d1 : Ergs 1 (xq 1) wq := hh.val 1 (by kernel_rfl) (by kernel_rfl)
      rw [Hrgse1.out] at d1
      simp only [hFrgs, d1]
      clear d1
      refine .inl ⟨rfl, ?_⟩
      unfold Reg.upon
      have hc : Crgs Lq wq := hh.cls
      rw [HrgshC.out] at hc
      go_simp
      refine (HSIL.out wq).mono ?_
      rintro e w2 ⟨rfl, hb⟩
      exact ⟨_, rfl, Hrgsk.out 2 Lq w2 (by decide)  (Hrgsb.out Lq wq w2 hh.cls hb), (by rw [Hrgse2.out]; try rfl), Hrgsxb.out wq w2 hb⟩
    · intro Lq wq xq hh
      have d0 : Ergs 0 (xq 0) wq := hh.val 0 (by kernel_rfl) (by kernel_rfl)
      rw [Hrgse0.out] at d0
      simp only [hFrgs, d0]
      clear d0
      refine .inl ⟨rfl, ?_⟩
      unfold Reg.upon
      have hc : Crgs Lq wq := hh.cls
      rw [HrgshC.out] at hc
      have hq := hc.2.1 hh.un
      have s0 := hq.2.2.1.cell 0 _ rfl
      have s1 := hq.2.2.1.cell 1 _ rfl
      have s2 := hq.2.2.1.cell 2 _ rfl
      have s3 := hq.2.2.1.cell 3 _ rfl
      have s4 := hq.2.2.1.cell 4 _ rfl
      have f0 := hq.2.2.1.free 0
      have f1 := hq.2.2.1.free 1
      have f2 := hq.2.2.1.free 2
      have f3 := hq.2.2.1.free 3
      have f4 := hq.2.2.1.free 4
      have hv := hq.2.1
      rw [down_len, ← HN.out] at hv
      have hF : Crgs (Lq.setIfInBounds 3 true) (((((wq.setCell ⟨gz, 0, none⟩ (.slice o5 n k5)).setCell ⟨gz, 1, none⟩ (.int .i64 (downR Ls r2 : Nat))).setCell ⟨gz, 2, none⟩ (.int .i64 c2)).setCell ⟨gz, 3, none⟩ (.bool false)).setCell ⟨gz, 4, none⟩ (.bool au)) := by
        rw [HrgshC.out]
        refine ⟨pres hc.1 hq.2.2.2.2.2.1 _ _ _ _ _, fun e => ?_, fun _ => ⟨pres_has hq.2.2.1 _ _ _ _ _, (hv.upd (pres_upd gz _ _ _ _ _) (fun b hz e => hz.2.2 e)).zone (fun b _ hz => hz.1)⟩⟩
        rw [Mix.one_set (by rw [hh.size]; decide)] at e
        exact absurd e (by decide)
      have hE : Ergs 3 undef (((((wq.setCell ⟨gz, 0, none⟩ (.slice o5 n k5)).setCell ⟨gz, 1, none⟩ (.int .i64 (downR Ls r2 : Nat))).setCell ⟨gz, 2, none⟩ (.int .i64 c2)).setCell ⟨gz, 3, none⟩ (.bool false)).setCell ⟨gz, 4, none⟩ (.bool au)) := by rw [Hrgse3.out]
      have hX : Xrgs wq (((((wq.setCell ⟨gz, 0, none⟩ (.slice o5 n k5)).setCell ⟨gz, 1, none⟩ (.int .i64 (downR Ls r2 : Nat))).setCell ⟨gz, 2, none⟩ (.int .i64 c2)).setCell ⟨gz, 3, none⟩ (.bool false)).setCell ⟨gz, 4, none⟩ (.bool au)) := by rw [HrgshX.out]; trivial
      clear hc hq hv
      go_simp
      exact ⟨hF, hE, hX⟩
    · intro Lq wq xq hh
      have d2 : Ergs 2 (xq 2) wq := hh.val 2 (by kernel_rfl) (by kernel_rfl)
      rw [Hrgse2.out] at d2
      simp only [hFrgs, d2]
      clear d2
      refine .inl ⟨rfl, ?_⟩
      unfold Reg.upon
      have hk := Hrgsk.out 4 Lq wq (by decide)  hh.cls
      have hx := Hrgsx.out wq
      have he : Ergs 4 (.bool sk) wq := by rw [Hrgse4.out]
      have HK := Lib.hid (And.intro hk (And.intro he hx))
      clear hk hx he
      go_simp
      exact HK.out
  intro xq wrgs hcrgs hvrgs
  rw [HrgshC.out] at hcrgs
  simp only [hFrgs]
  have vrgs4 : Ergs 4 (xq 4) wrgs := hvrgs 4 (by decide)
  rw [Hrgse4.out] at vrgs4
  rw [vrgs4]
  clear hvrgs hFrgs Hrgsk Hrgsx Hrgsst Hrgsc HrgshC HrgshX Hrgsb Hrgsxb Hrgse0 Hrgse1 Hrgse2 Hrgse3 Hrgse4
  obtain ⟨hbw, _, h3⟩ := hcrgs
  obtain ⟨hr3, hv3⟩ := h3 (by kernel_rfl)
  have k0 := hr3.cell 0 _ rfl
  have k1 := hr3.cell 1 _ rfl
  have k2 := hr3.cell 2 _ rfl
  have k3 := hr3.cell 3 _ rfl
  have k4 := hr3.cell 4 _ rfl
  have HF := Lib.hid (And.intro (hv3.zone (Y := fun b => Z b ∨ (w.heap.size ≤ b ∧ b < wrgs.heap.size)) (fun b hlt hz => by rcases hz with hz | hz; exact .inl hz; exact .inr ⟨hz, hlt⟩)) hbw)
  clear hr3 hv3 h3 vrgs4
  go_wp2
  refine bodyPost_ret (v := .tuple #[.agg #[.slice o5 n k5, .int .i64 (downR Ls r2 : Nat), .int .i64 c2, .bool false, .bool au], .bool sk]) (by simp [results, Tryd.results23, go_sem, k0, k1, k2, k3, k4]) rfl ?_
  rw [HE.out.1, HE.out.2.1, HE.out.2.2.1, HE.out.2.2.2]
  exact ⟨_, rfl, HF.out.1, HF.out.2⟩
set_option maxRecDepth 100000 in
set_option maxHeartbeats 4000000 in
theorem rct_no (Z : Zone) (v : Value) (Ls : List Ln) (r c : Int) (pd au : Bool) (K : Int) (hK : K ≠ 13 ∧ K ≠ 10 ∧ K ≠ 8) (w : World) (hv : HeldE lineE Z w v Ls) (hZ : ∀ b, Z b → b < w.heap.size) (wd : Nat) (hev : Even Ls wd) (r2 c2 : Nat) (hr2 : inI r (sideI Ls.length) = (r2 : Int)) (hc2 : inI c (sideI wd) = (c2 : Int)) (hlr : r2 < Ls.length) (hlc : c2 < wd) : RCt Z w Ls r c pd au K v r2 c2 := by
  unfold RCt
  obtain ⟨ao, ca, rfl⟩ := hv.len
  obtain ⟨n, hn⟩ : ∃ n, n = Ls.length := ⟨_, rfl⟩
  obtain ⟨W, hW, hb, hx, hl0⟩ := pboxes w (.slice ao Ls.length ca) (.int .i64 r) (.int .i64 c) (.bool pd) (.bool au) (.slice none 0 0) (.int .i64 0) (.int .i64 0) (.bool false) (.bool false)
  obtain ⟨gb, hgb⟩ : ∃ gb, gb = w.heap.size := ⟨_, rfl⟩
  obtain ⟨gz, hgz⟩ : ∃ gz, gz = w.heap.size + 1 := ⟨_, rfl⟩
  have HG := Lib.hid (And.intro hgb hgz)
  have hrb : RB w Z gb gz Ls r c pd au ao ca W := by
    refine ⟨by rw [hgb]; exact hb, (hv.below hl0).zone (fun x _ hx => ⟨.inl hx, ?_, ?_⟩), by rw [hgz]; exact hx, hl0, by omega, by omega, by omega⟩
    · have := hZ x hx; omega
    · have := hZ x hx; omega
  have HRB := Lib.hid hrb
  have HEV := Lib.hid hev
  have HN := Lib.hid hn
  have hw0 : (Ls.getD 0 zl).1.length = wd := hev.2.2.2.2 0 hev.1
  obtain ⟨pd2, hpd2⟩ : ∃ pd2, pd2 = holdP c pd wd := ⟨_, rfl⟩
  have HHO := Lib.hid (show Calls Tryd.prog 46 #[.agg #[.slice ao n ca, .int .i64 r, .int .i64 c, .bool pd, .bool au]] W (Gives W (.agg #[.slice ao n ca, .int .i64 r2, .int .i64 c2, .bool pd2, .bool au])) from by
    have h9 := rph_any _ (.slice ao Ls.length ca) Ls r c pd au W hrb.2.1 hev.1 wd hw0
    rw [hr2, hc2, ← hpd2] at h9
    rw [hn]
    exact h9)
  have HNL := Lib.hid (show Calls Tryd.prog 59 #[.agg #[.slice ao n ca, .int .i64 r, .int .i64 c, .bool pd, .bool au]] W (RPen (fun b => ((Z b ∨ w.heap.size ≤ b) ∧ b ≠ gb ∧ b ≠ gz) ∧ b < W.heap.size) W (downL Ls r2) (downR Ls r2 : Nat) c2 false au) from by
    have h9 := rpnl_any _ (.slice ao Ls.length ca) Ls r c pd au W wd hrb.arg (fun x hx => hx.2) hev r2 c2 hr2 hc2 hlr
    rw [hn]
    exact h9)
  obtain ⟨sk, hsk⟩ : ∃ sk, sk = silB K := ⟨_, rfl⟩
  have HSIL := Lib.hid (show ∀ w', Calls Tryd.prog 60 #[.int .i32 K] w' (Gives w' (.bool sk)) from fun w' => by rw [hsk]; exact rbsil_any K w')
  obtain ⟨RL, hRL⟩ : ∃ RL, RL = ctL Ls r2 K := ⟨_, rfl⟩
  obtain ⟨rr, hrr⟩ : ∃ rr, rr = ctR Ls r r2 K := ⟨_, rfl⟩
  obtain ⟨cc, hcc⟩ : ∃ cc, cc = ctC c c2 K := ⟨_, rfl⟩
  obtain ⟨pp, hpp⟩ : ∃ pp, pp = ctP pd K := ⟨_, rfl⟩
  have HE := Lib.hid (by
    obtain ⟨t1, t2, t3, t4⟩ := ct_no Ls r c r2 c2 pd K hK
    exact And.intro (hRL.trans t1) (And.intro (hrr.trans t2) (And.intro (hcc.trans t3) (hpp.trans t4))))
  have HC9 := Lib.hid (show c2 ≤ 2000 from by have := hev.2.2.2.1; omega)
  rw [← hsk, ← hRL, ← hrr, ← hcc, ← hpp]
  rw [← hn] at hW ⊢
  clear hv hZ hev hr2 hc2 hlr hlc hb hx hl0 hgb hgz hrb hn hw0 hpd2 hsk hRL hrr hcc hpp
  have n13 : (K == 13) = false := by rw [beq_eq_false_iff_ne]; exact hK.1
  have n10 : (K == 10) = false := by rw [beq_eq_false_iff_ne]; exact hK.2.1
  have n8 : (K == 8) = false := by rw [beq_eq_false_iff_ne]; exact hK.2.2
  clear hK
  go_enter Tryd.func23, Tryd.ntmps23
  go_upto_region 1 with (fail)
  rw [← hW]
  clear hW
  rw [← HG.out.2]
  rw [← HG.out.1]
  go_upto_region 11 with (fail)
  obtain ⟨Ergs, hErgs⟩ : ∃ EE : Nat → Value → World → Prop, EE = fun jj xx ww => match jj with
      | 0 => xx = .agg #[.slice ao n ca, .int .i64 r, .int .i64 c, .bool pd, .bool au]
      | 1 => xx = .int .i32 K
      | 2 => xx = .bool sk
      | 3 => xx = undef
      | 4 => xx = .bool sk
      | _ => True := ⟨_, rfl⟩
  have ergs0 : ∀ xx ww, Ergs 0 xx ww = (xx = .agg #[.slice ao n ca, .int .i64 r, .int .i64 c, .bool pd, .bool au]) := fun xx ww => congrFun (congrFun (congrFun hErgs 0) xx) ww
  have ergs1 : ∀ xx ww, Ergs 1 xx ww = (xx = .int .i32 K) := fun xx ww => congrFun (congrFun (congrFun hErgs 1) xx) ww
  have ergs2 : ∀ xx ww, Ergs 2 xx ww = (xx = .bool sk) := fun xx ww => congrFun (congrFun (congrFun hErgs 2) xx) ww
  have ergs3 : ∀ xx ww, Ergs 3 xx ww = (xx = undef) := fun xx ww => congrFun (congrFun (congrFun hErgs 3) xx) ww
  have ergs4 : ∀ xx ww, Ergs 4 xx ww = (xx = .bool sk) := fun xx ww => congrFun (congrFun (congrFun hErgs 4) xx) ww
  obtain ⟨Crgs, hCrgs⟩ : ∃ CC : Array Bool → World → Prop, CC = fun L8 w' => Below w.heap.size w w' ∧ (Mix.one L8 3 = 0 → RB w Z gb gz (Ls) r c pd au ao ca w') ∧ (Mix.one L8 3 = 1 → Has w' gz [.slice ao n ca, .int .i64 r, .int .i64 c, .bool pd, .bool au] 39 ∧ HeldE lineE (fun b => Z b ∨ w.heap.size ≤ b) w' (.slice ao n ca) (Ls)) := ⟨_, rfl⟩
  have krgs : ∀ i L w, i ≠ 3 →  Crgs L w → Crgs (L.setIfInBounds i true) w := by
    intro i L w q3 h
    rw [hCrgs] at h ⊢
    simp only [Mix.one_ne q3]; exact h
  obtain ⟨Xrgs, hXrgs⟩ : ∃ XX : World → World → Prop, XX = fun _ _ => True := ⟨_, rfl⟩
  have xrgs : ∀ w, Xrgs w w := fun w => by rw [hXrgs]; exact trivial
  have strgs : ∀ j x w w1, Xrgs w w1 → Ergs j x w → Ergs j x w1 := by
    intro j x w w1 hx h
    rw [hXrgs] at hx
    match j with
    | 0 => rw [ergs0] at h ⊢; exact h
    | 1 => rw [ergs1] at h ⊢; exact h
    | 2 => rw [ergs2] at h ⊢; exact h
    | 3 => rw [ergs3] at h ⊢; exact h
    | 4 => rw [ergs4] at h ⊢; exact h
    | j + 5 => rw [hErgs]; trivial
  have crgs : Crgs (Array.replicate 5 false) W.drew := by rw [hCrgs]; exact ⟨HRB.out.2.2.2.1.trans ((Below.refl W.heap.size W).drew.mono HRB.out.2.2.2.1.size), fun _ => HRB.out.below (Below.refl _ _).drew, fun e => absurd e (by decide)⟩
  have brgs : ∀ L w w1, Crgs L w → Below w.heap.size w w1 → Crgs L w1 := by
    intro L w w1 h hb
    rw [hCrgs] at h ⊢
    (obtain ⟨q1, q2, q3⟩ := h; exact ⟨q1.trans (hb.mono q1.size), fun e => (q2 e).below hb, fun e => ⟨(q3 e).1.below hb (q3 e).1.lt, (q3 e).2.below hb⟩⟩)
  have xbrgs : ∀ w w1, Below w.heap.size w w1 → Xrgs w w1 := by
    intro w w1 hb
    rw [hXrgs]
    trivial
  have Hrgsb := Lib.hid brgs
  have Hrgsxb := Lib.hid xbrgs
  clear brgs xbrgs
  clear hErgs
  have Hrgsk := Lib.hid krgs
  have Hrgsx := Lib.hid xrgs
  have Hrgsst := Lib.hid strgs
  have Hrgsc := Lib.hid crgs
  have HrgshC := Lib.hid hCrgs
  have HrgshX := Lib.hid hXrgs
  have Hrgse0 := Lib.hid ergs0
  have Hrgse1 := Lib.hid ergs1
  have Hrgse2 := Lib.hid ergs2
  have Hrgse3 := Lib.hid ergs3
  have Hrgse4 := Lib.hid ergs4
  clear krgs xrgs strgs crgs hCrgs hXrgs ergs0 ergs1 ergs2 ergs3 ergs4
  go_wp2_with fail
  refine Reg.regionF Ergs Crgs Xrgs Hrgsst.out (by kernel_rfl) (by kernel_rfl) (by kernel_rfl) Hrgsc.out (fun Frgs hFrgs => ?_)
  simp only [Reg.frame, Reg.dsts, List.map_cons, List.map_nil, Mix.put_lit, Reg.put_none, List.set_cons_succ, List.set_cons_zero, Nat.zero_add, Nat.reduceAdd] at hFrgs
  refine ⟨?_, ?_⟩
  · refine ⟨?_, ?_, ?_, ?_, ?_, trivial⟩
    · intro Lq wq xq hh
      simp only [hFrgs]
      refine .inl ⟨rfl, ?_⟩
      unfold Reg.upon
      have hc : Crgs Lq wq := hh.cls
      rw [HrgshC.out] at hc
      have hq := (hc.2.1 (Mix.one_un (hh.notYet 3 (by kernel_rfl)))).1
      rw [← HN.out] at hq
      have q0 := hq.cell 0 _ rfl
      have q1 := hq.cell 1 _ rfl
      have q2 := hq.cell 2 _ rfl
      have q3 := hq.cell 3 _ rfl
      have q4 := hq.cell 4 _ rfl
      clear hc
      have hk := Hrgsk.out 0 Lq wq (by decide)  hh.cls
      have hx := Hrgsx.out wq
      have he : Ergs 0 (.agg #[.slice ao n ca, .int .i64 r, .int .i64 c, .bool pd, .bool au]) wq := by rw [Hrgse0.out]
      have HK := Lib.hid (And.intro hk (And.intro he hx))
      clear hk hx he
      go_simp
      exact HK.out
    · intro Lq wq xq hh
      simp only [hFrgs]
      refine .inl ⟨rfl, ?_⟩
      unfold Reg.upon
      have hk := Hrgsk.out 1 Lq wq (by decide)  hh.cls
      have hx := Hrgsx.out wq
      have he : Ergs 1 (.int .i32 K) wq := by rw [Hrgse1.out]
      have HK := Lib.hid (And.intro hk (And.intro he hx))
      clear hk hx he
      go_simp
      exact HK.out
    · intro Lq wq xq hh
      have d1 : Ergs 1 (xq 1) wq := hh.val 1 (by kernel_rfl) (by kernel_rfl)
      rw [Hrgse1.out] at d1
      simp only [hFrgs, d1]
      clear d1
      refine .inl ⟨rfl, ?_⟩
      unfold Reg.upon
      have hc : Crgs Lq wq := hh.cls
      rw [HrgshC.out] at hc
      go_simp
      refine (HSIL.out wq).mono ?_
      rintro e w2 ⟨rfl, hb⟩
      exact ⟨_, rfl, Hrgsk.out 2 Lq w2 (by decide)  (Hrgsb.out Lq wq w2 hh.cls hb), (by rw [Hrgse2.out]; try rfl), Hrgsxb.out wq w2 hb⟩
    · intro Lq wq xq hh
      have d0 : Ergs 0 (xq 0) wq := hh.val 0 (by kernel_rfl) (by kernel_rfl)
      rw [Hrgse0.out] at d0
      simp only [hFrgs, d0]
      clear d0
      refine .inl ⟨rfl, ?_⟩
      unfold Reg.upon
      have hc : Crgs Lq wq := hh.cls
      rw [HrgshC.out] at hc
      have hq := hc.2.1 hh.un
      have s0 := hq.2.2.1.cell 0 _ rfl
      have s1 := hq.2.2.1.cell 1 _ rfl
      have s2 := hq.2.2.1.cell 2 _ rfl
      have s3 := hq.2.2.1.cell 3 _ rfl
      have s4 := hq.2.2.1.cell 4 _ rfl
      have f0 := hq.2.2.1.free 0
      have f1 := hq.2.2.1.free 1
      have f2 := hq.2.2.1.free 2
      have f3 := hq.2.2.1.free 3
      have f4 := hq.2.2.1.free 4
      have hv := hq.2.1
      rw [← HN.out] at hv
      have hF : Crgs (Lq.setIfInBounds 3 true) (((((wq.setCell ⟨gz, 0, none⟩ (.slice ao n ca)).setCell ⟨gz, 1, none⟩ (.int .i64 r)).setCell ⟨gz, 2, none⟩ (.int .i64 c)).setCell ⟨gz, 3, none⟩ (.bool pd)).setCell ⟨gz, 4, none⟩ (.bool au)) := by
        rw [HrgshC.out]
        refine ⟨pres hc.1 hq.2.2.2.2.2.1 _ _ _ _ _, fun e => ?_, fun _ => ⟨pres_has hq.2.2.1 _ _ _ _ _, (hv.upd (pres_upd gz _ _ _ _ _) (fun b hz e => hz.2.2 e)).zone (fun b _ hz => hz.1)⟩⟩
        rw [Mix.one_set (by rw [hh.size]; decide)] at e
        exact absurd e (by decide)
      have hE : Ergs 3 undef (((((wq.setCell ⟨gz, 0, none⟩ (.slice ao n ca)).setCell ⟨gz, 1, none⟩ (.int .i64 r)).setCell ⟨gz, 2, none⟩ (.int .i64 c)).setCell ⟨gz, 3, none⟩ (.bool pd)).setCell ⟨gz, 4, none⟩ (.bool au)) := by rw [Hrgse3.out]
      have hX : Xrgs wq (((((wq.setCell ⟨gz, 0, none⟩ (.slice ao n ca)).setCell ⟨gz, 1, none⟩ (.int .i64 r)).setCell ⟨gz, 2, none⟩ (.int .i64 c)).setCell ⟨gz, 3, none⟩ (.bool pd)).setCell ⟨gz, 4, none⟩ (.bool au)) := by rw [HrgshX.out]; trivial
      clear hc hq hv
      go_simp
      exact ⟨hF, hE, hX⟩
    · intro Lq wq xq hh
      have d2 : Ergs 2 (xq 2) wq := hh.val 2 (by kernel_rfl) (by kernel_rfl)
      rw [Hrgse2.out] at d2
      simp only [hFrgs, d2]
      clear d2
      refine .inl ⟨rfl, ?_⟩
      unfold Reg.upon
      have hk := Hrgsk.out 4 Lq wq (by decide)  hh.cls
      have hx := Hrgsx.out wq
      have he : Ergs 4 (.bool sk) wq := by rw [Hrgse4.out]
      have HK := Lib.hid (And.intro hk (And.intro he hx))
      clear hk hx he
      go_simp
      exact HK.out
  intro xq wrgs hcrgs hvrgs
  rw [HrgshC.out] at hcrgs
  simp only [hFrgs]
  have vrgs4 : Ergs 4 (xq 4) wrgs := hvrgs 4 (by decide)
  rw [Hrgse4.out] at vrgs4
  rw [vrgs4]
  clear hvrgs hFrgs Hrgsk Hrgsx Hrgsst Hrgsc HrgshC HrgshX Hrgsb Hrgsxb Hrgse0 Hrgse1 Hrgse2 Hrgse3 Hrgse4
  obtain ⟨hbw, _, h3⟩ := hcrgs
  obtain ⟨hr3, hv3⟩ := h3 (by kernel_rfl)
  have k0 := hr3.cell 0 _ rfl
  have k1 := hr3.cell 1 _ rfl
  have k2 := hr3.cell 2 _ rfl
  have k3 := hr3.cell 3 _ rfl
  have k4 := hr3.cell 4 _ rfl
  have HF := Lib.hid (And.intro (hv3.zone (Y := fun b => Z b ∨ (w.heap.size ≤ b ∧ b < wrgs.heap.size)) (fun b hlt hz => by rcases hz with hz | hz; exact .inl hz; exact .inr ⟨hz, hlt⟩)) hbw)
  clear hr3 hv3 h3 vrgs4
  go_wp2
  refine bodyPost_ret (v := .tuple #[.agg #[.slice ao n ca, .int .i64 r, .int .i64 c, .bool pd, .bool au], .bool sk]) (by simp [results, Tryd.results23, go_sem, k0, k1, k2, k3, k4]) rfl ?_
  rw [HE.out.1, HE.out.2.1, HE.out.2.2.1, HE.out.2.2.2]
  exact ⟨_, rfl, HF.out.1, HF.out.2⟩
theorem rct_any (Z : Zone) (v : Value) (Ls : List Ln) (r c : Int) (pd au : Bool) (K : Int) (w : World) (hv : HeldE lineE Z w v Ls) (hZ : ∀ b, Z b → b < w.heap.size) (wd : Nat) (hev : Even Ls wd) (r2 c2 : Nat) (hr2 : inI r (sideI Ls.length) = (r2 : Int)) (hc2 : inI c (sideI wd) = (c2 : Int)) (hlr : r2 < Ls.length) (hlc : c2 < wd) : RCt Z w Ls r c pd au K v r2 c2 := by
  by_cases h13 : K = 13
  · subst h13; exact rct_13 Z v Ls r c pd au w hv hZ wd hev r2 c2 hr2 hc2 hlr hlc
  by_cases h10 : K = 10
  · subst h10; exact rct_10 Z v Ls r c pd au w hv hZ wd hev r2 c2 hr2 hc2 hlr hlc
  by_cases h8 : K = 8
  · subst h8; exact rct_8 Z v Ls r c pd au w hv hZ wd hev r2 c2 hr2 hc2 hlr hlc
  exact rct_no Z v Ls r c pd au K ⟨h13, h10, h8⟩ w hv hZ wd hev r2 c2 hr2 hc2 hlr hlc
end Go.Proofs.YtgndolgihplngaaDoor
