/- size.Resize. -/
import Derived.Test.YtgndolgihplngaaDoorMg9
import Derived.Test.YtgndolgihplngaaDoorMg6
namespace Go.Proofs.YtgndolgihplngaaDoor
open Go.RowKit Go.ChangeShapes Go.WideShapes
/-- The lines of a screen of another size. -/
def szF (Ls : List Ln) (nw top i : Nat) : Ln := (rszL (Ls.getD (top + i) zl).1 nw, false)
def szL (Ls : List Ln) (nw nh top k : Nat) : List Ln := fillL (szF Ls nw top) (List.replicate nw zc, false) nh k
theorem GridAt.base {w : World} {B B' gg gr wd : Nat} {Rs : List Rw} (h : GridAt w B gg gr wd Rs) (hb : B' ≤ B) : GridAt w B' gg gr wd Rs := by
  obtain ⟨Z, cap, h1, h2, h3, h4, h5, h6, h7, h8⟩ := h
  refine ⟨Z, cap, fun b hz => ⟨Nat.le_trans hb (h1 b hz).1, (h1 b hz).2⟩, h2, Nat.le_trans hb h3, ?_, h5, h6, ⟨fun i hi => (h7.row i hi).base hb, h7.out, h7.apart⟩, h8⟩
  refine own_ptrs ⟨h4.ptrs.1, ?_⟩
  rcases h4.ptrs.2 with e | ⟨g, c, cur, e, e2, e3⟩
  · exact .inl e
  · exact .inr ⟨g, c, cur, e, Nat.le_trans hb e2, e3⟩
set_option maxRecDepth 100000 in
set_option maxHeartbeats 6000000 in
theorem psize_full (B gp gg gr wd : Nat) (Rs : List Rw) (Ls : List Ln) (r c : Int) (pd au : Bool) (a b : Int) (w : World) (h : PenAt w B gp gg gr wd Rs Ls r c pd au) (hBw : B ≤ w.heap.size) (r2 c2 : Nat) (hr2 : inI r (sideI Ls.length) = (r2 : Int)) (hc2 : inI c (sideI wd) = (c2 : Int)) (hlr : r2 < Ls.length) (hlc : c2 < wd) (nw nh : Nat) (hnw : rowN a = nw) (hnh : rowN b = nh) :
    Calls Tryd.prog 11 #[.pointer (some ⟨gp, 0, none⟩), .int .i64 a, .int .i64 b] w (fun e w' => e = .returned (.tuple #[]) ∧ ∃ g2 gr2 R2, PenAt w' B gp g2 gr2 nw R2 (szL Ls nw nh (r2 + 1 - nh) (min nh (Ls.length - (r2 + 1 - nh)))) ((r2 - (r2 + 1 - nh) : Nat)) ((min c2 (nw - 1) : Nat)) false au ∧ Upd (fun x => x = gp ∨ w.heap.size ≤ x) w w' ∧ GridAt w' w.heap.size g2 gr2 nw R2) := by
  have hsz := h.sizes
  have H := Lib.hid h
  obtain ⟨ht, hht⟩ : ∃ ht, ht = Ls.length := ⟨_, rfl⟩
  have HHT := Lib.hid hht
  have HHI := Lib.hid (show ∀ w', Below w.heap.size w w' → Calls Tryd.prog 19 #[.pointer (some ⟨gg, 0, none⟩)] w' (fun e w2 => e = .returned (.int .i64 ht) ∧ w' = w2) from fun w' hb => by
    have h1 := ghigh_any B gg gr wd Rs w' (h.below hb).2.2.1
    rw [hsz.2.2.2.2.1, ← hht] at h1
    exact h1)
  obtain ⟨pd2, hpd2⟩ : ∃ pd2, holdP c pd wd = pd2 := ⟨_, rfl⟩
  have HHO := Lib.hid (show ∀ w', Calls Tryd.prog 42 #[.agg #[.int .i64 r, .int .i64 c, .bool pd], .int .i64 wd, .int .i64 ht] w' (Gives w' (.agg #[.int .i64 r2, .int .i64 c2, .bool pd2])) from fun w' => by
    have h1 := chold_any r c pd wd ht w'
    rw [hht, hr2, hc2, hpd2] at h1
    rw [hht]
    exact h1)
  rw [← hht] at hlr ⊢
  have hwd : wd ≤ 1024 := hsz.2.2.2.1
  have hht2 : ht ≤ 1024 := by have := hsz.2.1; omega
  have hnw1 : 1 ≤ nw ∧ nw ≤ 1024 := by rw [← hnw]; unfold rowN; omega
  have hnh1 : 1 ≤ nh ∧ nh ≤ 1024 := by rw [← hnh]; unfold rowN; omega
  have c0 := h.1.cell 0 _ rfl
  have HGN := Lib.hid (fun w' => gnew_any a b w')
  rw [hnw, hnh] at HGN
  clear h hht hr2 hc2 hpd2 hsz hnw hnh
  go_enter Tryd.func11, Tryd.ntmps11
  go_upto_region 1 with (fail)
  obtain ⟨Erg, hErg⟩ : ∃ EE : Nat → Value → World → Prop, EE = fun jj xx ww => match jj with
      | 0 => xx = .pointer (some ⟨gp, 0, none⟩)
      | 1 => xx = .pointer (some ⟨gp, 0, none⟩)
      | 2 => xx = .pointer (some ⟨gp, 1, none⟩)
      | 3 => xx = .agg #[.int .i64 r, .int .i64 c, .bool pd]
      | 4 => xx = .pointer (some ⟨gp, 0, none⟩)
      | 5 => xx = .pointer (some ⟨gp, 0, none⟩)
      | 6 => xx = .pointer (some ⟨gp, 0, none⟩)
      | 7 => xx = .pointer (some ⟨gg, 0, none⟩)
      | 8 => xx = .int .i64 wd
      | 9 => xx = .pointer (some ⟨gp, 0, none⟩)
      | 10 => xx = .pointer (some ⟨gp, 0, none⟩)
      | 11 => xx = .pointer (some ⟨gp, 0, none⟩)
      | 12 => xx = .pointer (some ⟨gg, 0, none⟩)
      | 13 => xx = .int .i64 ht
      | 14 => xx = .agg #[.int .i64 r2, .int .i64 c2, .bool pd2]
      | 15 => (fun x w' => True) xx ww
      | 16 => xx = undef
      | _ => True := ⟨_, rfl⟩
  have erg0 : ∀ xx ww, Erg 0 xx ww = (xx = .pointer (some ⟨gp, 0, none⟩)) := fun xx ww => congrFun (congrFun (congrFun hErg 0) xx) ww
  have erg1 : ∀ xx ww, Erg 1 xx ww = (xx = .pointer (some ⟨gp, 0, none⟩)) := fun xx ww => congrFun (congrFun (congrFun hErg 1) xx) ww
  have erg2 : ∀ xx ww, Erg 2 xx ww = (xx = .pointer (some ⟨gp, 1, none⟩)) := fun xx ww => congrFun (congrFun (congrFun hErg 2) xx) ww
  have erg3 : ∀ xx ww, Erg 3 xx ww = (xx = .agg #[.int .i64 r, .int .i64 c, .bool pd]) := fun xx ww => congrFun (congrFun (congrFun hErg 3) xx) ww
  have erg4 : ∀ xx ww, Erg 4 xx ww = (xx = .pointer (some ⟨gp, 0, none⟩)) := fun xx ww => congrFun (congrFun (congrFun hErg 4) xx) ww
  have erg5 : ∀ xx ww, Erg 5 xx ww = (xx = .pointer (some ⟨gp, 0, none⟩)) := fun xx ww => congrFun (congrFun (congrFun hErg 5) xx) ww
  have erg6 : ∀ xx ww, Erg 6 xx ww = (xx = .pointer (some ⟨gp, 0, none⟩)) := fun xx ww => congrFun (congrFun (congrFun hErg 6) xx) ww
  have erg7 : ∀ xx ww, Erg 7 xx ww = (xx = .pointer (some ⟨gg, 0, none⟩)) := fun xx ww => congrFun (congrFun (congrFun hErg 7) xx) ww
  have erg8 : ∀ xx ww, Erg 8 xx ww = (xx = .int .i64 wd) := fun xx ww => congrFun (congrFun (congrFun hErg 8) xx) ww
  have erg9 : ∀ xx ww, Erg 9 xx ww = (xx = .pointer (some ⟨gp, 0, none⟩)) := fun xx ww => congrFun (congrFun (congrFun hErg 9) xx) ww
  have erg10 : ∀ xx ww, Erg 10 xx ww = (xx = .pointer (some ⟨gp, 0, none⟩)) := fun xx ww => congrFun (congrFun (congrFun hErg 10) xx) ww
  have erg11 : ∀ xx ww, Erg 11 xx ww = (xx = .pointer (some ⟨gp, 0, none⟩)) := fun xx ww => congrFun (congrFun (congrFun hErg 11) xx) ww
  have erg12 : ∀ xx ww, Erg 12 xx ww = (xx = .pointer (some ⟨gg, 0, none⟩)) := fun xx ww => congrFun (congrFun (congrFun hErg 12) xx) ww
  have erg13 : ∀ xx ww, Erg 13 xx ww = (xx = .int .i64 ht) := fun xx ww => congrFun (congrFun (congrFun hErg 13) xx) ww
  have erg14 : ∀ xx ww, Erg 14 xx ww = (xx = .agg #[.int .i64 r2, .int .i64 c2, .bool pd2]) := fun xx ww => congrFun (congrFun (congrFun hErg 14) xx) ww
  have erg15 : ∀ xx ww, Erg 15 xx ww = ((fun x w' => True) xx ww) := fun xx ww => congrFun (congrFun (congrFun hErg 15) xx) ww
  have erg16 : ∀ xx ww, Erg 16 xx ww = (xx = undef) := fun xx ww => congrFun (congrFun (congrFun hErg 16) xx) ww
  obtain ⟨Crg, hCrg⟩ : ∃ CC : Array Bool → Value → World → Prop, CC = fun L8 x w' => Below w.heap.size w w' ∧ (Mix.one L8 15 = 1 → ∃ g, x = .pointer (some ⟨g, 0, none⟩) ∧ w.heap.size ≤ g ∧ (Mix.one L8 16 = 0 → Has w' g [.int .i64 0, .int .i64 0, .bool false] 24) ∧ (Mix.one L8 16 = 1 → Has w' g [.int .i64 r2, .int .i64 c2, .bool pd2] 24)) := ⟨_, rfl⟩
  have krg : ∀ i L {x : Value} w, i ≠ 15 → i ≠ 16 →  Crg L x w → Crg (L.setIfInBounds i true) x w := by
    intro i L x w q15 q16 h
    rw [hCrg] at h ⊢
    simp only [Mix.one_ne q15, Mix.one_ne q16]; exact h
  obtain ⟨Xrg, hXrg⟩ : ∃ XX : World → World → Prop, XX = fun _ _ => True := ⟨_, rfl⟩
  have xrg : ∀ w, Xrg w w := fun w => by rw [hXrg]; exact trivial
  have strg : ∀ j x w w1, Xrg w w1 → Erg j x w → Erg j x w1 := by
    intro j x w w1 hx h
    rw [hXrg] at hx
    match j with
    | 0 => rw [erg0] at h ⊢; exact h
    | 1 => rw [erg1] at h ⊢; exact h
    | 2 => rw [erg2] at h ⊢; exact h
    | 3 => rw [erg3] at h ⊢; exact h
    | 4 => rw [erg4] at h ⊢; exact h
    | 5 => rw [erg5] at h ⊢; exact h
    | 6 => rw [erg6] at h ⊢; exact h
    | 7 => rw [erg7] at h ⊢; exact h
    | 8 => rw [erg8] at h ⊢; exact h
    | 9 => rw [erg9] at h ⊢; exact h
    | 10 => rw [erg10] at h ⊢; exact h
    | 11 => rw [erg11] at h ⊢; exact h
    | 12 => rw [erg12] at h ⊢; exact h
    | 13 => rw [erg13] at h ⊢; exact h
    | 14 => rw [erg14] at h ⊢; exact h
    | 15 => rw [erg15] at h ⊢; (exact h)
    | 16 => rw [erg16] at h ⊢; exact h
    | j + 17 => rw [hErg]; trivial
  have crg : ∀ x, Crg (Array.replicate 17 false) x w.drew := fun x => by rw [hCrg]; exact ⟨(Below.refl _ _).drew, fun e => absurd e (by decide)⟩
  have brg : ∀ L {x : Value} w w1, Crg L x w → Below w.heap.size w w1 → Crg L x w1 := by
    intro L x w w1 h hb
    rw [hCrg] at h ⊢
    (obtain ⟨q1, q2⟩ := h; exact ⟨q1.trans (hb.mono q1.size), fun e => by obtain ⟨g, e1, e2, e3, e4⟩ := q2 e; exact ⟨g, e1, e2, fun f => (e3 f).below hb (e3 f).lt, fun f => (e4 f).below hb (e4 f).lt⟩⟩)
  have xbrg : ∀ w w1, Below w.heap.size w w1 → Xrg w w1 := by
    intro w w1 hb
    rw [hXrg]
    trivial
  have Hrgb : Go.RowKit.Hid (∀ L {x : Value} w w1, Crg L x w → Below w.heap.size w w1 → Crg L x w1) := @brg
  have Hrgxb := Lib.hid xbrg
  clear brg xbrg
  clear hErg
  have Hrgk : Go.RowKit.Hid (∀ i L {x : Value} w, i ≠ 15 → i ≠ 16 →  Crg L x w → Crg (L.setIfInBounds i true) x w) := @krg
  have Hrgx := Lib.hid xrg
  have Hrgst := Lib.hid strg
  have Hrgc := Lib.hid crg
  have HrghC := Lib.hid hCrg
  have HrghX := Lib.hid hXrg
  have Hrge0 := Lib.hid erg0
  have Hrge1 := Lib.hid erg1
  have Hrge2 := Lib.hid erg2
  have Hrge3 := Lib.hid erg3
  have Hrge4 := Lib.hid erg4
  have Hrge5 := Lib.hid erg5
  have Hrge6 := Lib.hid erg6
  have Hrge7 := Lib.hid erg7
  have Hrge8 := Lib.hid erg8
  have Hrge9 := Lib.hid erg9
  have Hrge10 := Lib.hid erg10
  have Hrge11 := Lib.hid erg11
  have Hrge12 := Lib.hid erg12
  have Hrge13 := Lib.hid erg13
  have Hrge14 := Lib.hid erg14
  have Hrge15 := Lib.hid erg15
  have Hrge16 := Lib.hid erg16
  clear krg xrg strg crg hCrg hXrg erg0 erg1 erg2 erg3 erg4 erg5 erg6 erg7 erg8 erg9 erg10 erg11 erg12 erg13 erg14 erg15 erg16
  go_wp2_with fail
  refine RegC.regionF 15 Erg Crg Xrg Hrgst.out (by kernel_rfl) (by kernel_rfl) (by kernel_rfl) Hrgc.out (fun Frg hFrg => ?_)
  simp only [Reg.frame, Reg.dsts, List.map_cons, List.map_nil, Mix.put_lit, Reg.put_none, List.set_cons_succ, List.set_cons_zero, Nat.zero_add, Nat.reduceAdd] at hFrg
  refine ⟨?_, ?_⟩
  · refine ⟨?_, ?_, ?_, ?_, ?_, ?_, ?_, ?_, ?_, ?_, ?_, ?_, ?_, ?_, ?_, ?_, ?_, trivial⟩
    · intro Lq wq xq hh
      simp only [hFrg]
      refine .inl ⟨rfl, ?_⟩
      unfold Reg.upon
      have hk := Hrgk.out 0 Lq wq (by decide) (by decide)  hh.cls
      have hx := Hrgx.out wq
      have he : Erg 0 (.pointer (some ⟨gp, 0, none⟩)) wq := by rw [Hrge0.out]
      have HK := Lib.hid (And.intro hk (And.intro he hx))
      clear hk hx he
      go_simp
      exact HK.out
    · intro Lq wq xq hh
      have d0 : Erg 0 (xq 0) wq := hh.val 0 (by kernel_rfl) (by kernel_rfl)
      rw [Hrge0.out] at d0
      simp only [hFrg, d0]
      clear d0
      refine .inl ⟨rfl, ?_⟩
      unfold Reg.upon
      have hk := Hrgk.out 1 Lq wq (by decide) (by decide)  hh.cls
      have hx := Hrgx.out wq
      have he : Erg 1 (.pointer (some ⟨gp, 0, none⟩)) wq := by rw [Hrge1.out]
      have HK := Lib.hid (And.intro hk (And.intro he hx))
      clear hk hx he
      go_simp
      exact HK.out
    · intro Lq wq xq hh
      have d1 : Erg 1 (xq 1) wq := hh.val 1 (by kernel_rfl) (by kernel_rfl)
      rw [Hrge1.out] at d1
      simp only [hFrg, d1]
      clear d1
      refine .inl ⟨rfl, ?_⟩
      unfold Reg.upon
      have hk := Hrgk.out 2 Lq wq (by decide) (by decide)  hh.cls
      have hx := Hrgx.out wq
      have he : Erg 2 (.pointer (some ⟨gp, 1, none⟩)) wq := by rw [Hrge2.out]
      have HK := Lib.hid (And.intro hk (And.intro he hx))
      clear hk hx he
      go_simp
      exact HK.out
    · intro Lq wq xq hh
      have d2 : Erg 2 (xq 2) wq := hh.val 2 (by kernel_rfl) (by kernel_rfl)
      rw [Hrge2.out] at d2
      simp only [hFrg, d2]
      clear d2
      refine .inl ⟨rfl, ?_⟩
      unfold Reg.upon
      have hc : Crg Lq (xq 15) wq := hh.cls
      rw [HrghC.out] at hc
      have hp := H.out.below hc.1
      have q1 := hp.1.cell 1 _ rfl
      have q2 := hp.1.cell 2 _ rfl
      have q3 := hp.1.cell 3 _ rfl
      clear hc
      have hk := Hrgk.out 3 Lq wq (by decide) (by decide)  hh.cls
      have hx := Hrgx.out wq
      have he : Erg 3 (.agg #[.int .i64 r, .int .i64 c, .bool pd]) wq := by rw [Hrge3.out]
      have HK := Lib.hid (And.intro hk (And.intro he hx))
      clear hk hx he
      go_simp
      exact HK.out
    · intro Lq wq xq hh
      simp only [hFrg]
      refine .inl ⟨rfl, ?_⟩
      unfold Reg.upon
      have hk := Hrgk.out 4 Lq wq (by decide) (by decide)  hh.cls
      have hx := Hrgx.out wq
      have he : Erg 4 (.pointer (some ⟨gp, 0, none⟩)) wq := by rw [Hrge4.out]
      have HK := Lib.hid (And.intro hk (And.intro he hx))
      clear hk hx he
      go_simp
      exact HK.out
    · intro Lq wq xq hh
      have d4 : Erg 4 (xq 4) wq := hh.val 4 (by kernel_rfl) (by kernel_rfl)
      rw [Hrge4.out] at d4
      simp only [hFrg, d4]
      clear d4
      refine .inl ⟨rfl, ?_⟩
      unfold Reg.upon
      have hk := Hrgk.out 5 Lq wq (by decide) (by decide)  hh.cls
      have hx := Hrgx.out wq
      have he : Erg 5 (.pointer (some ⟨gp, 0, none⟩)) wq := by rw [Hrge5.out]
      have HK := Lib.hid (And.intro hk (And.intro he hx))
      clear hk hx he
      go_simp
      exact HK.out
    · intro Lq wq xq hh
      have d5 : Erg 5 (xq 5) wq := hh.val 5 (by kernel_rfl) (by kernel_rfl)
      rw [Hrge5.out] at d5
      simp only [hFrg, d5]
      clear d5
      refine .inl ⟨rfl, ?_⟩
      unfold Reg.upon
      have hk := Hrgk.out 6 Lq wq (by decide) (by decide)  hh.cls
      have hx := Hrgx.out wq
      have he : Erg 6 (.pointer (some ⟨gp, 0, none⟩)) wq := by rw [Hrge6.out]
      have HK := Lib.hid (And.intro hk (And.intro he hx))
      clear hk hx he
      go_simp
      exact HK.out
    · intro Lq wq xq hh
      have d6 : Erg 6 (xq 6) wq := hh.val 6 (by kernel_rfl) (by kernel_rfl)
      rw [Hrge6.out] at d6
      simp only [hFrg, d6]
      clear d6
      refine .inl ⟨rfl, ?_⟩
      unfold Reg.upon
      have hc : Crg Lq (xq 15) wq := hh.cls
      rw [HrghC.out] at hc
      have hp := H.out.below hc.1
      have q0 := hp.1.cell 0 _ rfl
      clear hc
      have hk := Hrgk.out 7 Lq wq (by decide) (by decide)  hh.cls
      have hx := Hrgx.out wq
      have he : Erg 7 (.pointer (some ⟨gg, 0, none⟩)) wq := by rw [Hrge7.out]
      have HK := Lib.hid (And.intro hk (And.intro he hx))
      clear hk hx he
      go_simp
      exact HK.out
    · intro Lq wq xq hh
      have d7 : Erg 7 (xq 7) wq := hh.val 7 (by kernel_rfl) (by kernel_rfl)
      rw [Hrge7.out] at d7
      simp only [hFrg, d7]
      clear d7
      refine .inl ⟨rfl, ?_⟩
      unfold Reg.upon
      have hc : Crg Lq (xq 15) wq := hh.cls
      rw [HrghC.out] at hc
      go_simp
      refine (gwide_any B gg gr wd Rs wq (H.out.below hc.1).2.2.1).mono ?_
      rintro e w2 ⟨rfl, rfl⟩
      exact ⟨_, rfl, Hrgk.out 8 Lq wq (by decide) (by decide)  hh.cls, (by rw [Hrge8.out]; try rfl), Hrgx.out _⟩
    · intro Lq wq xq hh
      simp only [hFrg]
      refine .inl ⟨rfl, ?_⟩
      unfold Reg.upon
      have hk := Hrgk.out 9 Lq wq (by decide) (by decide)  hh.cls
      have hx := Hrgx.out wq
      have he : Erg 9 (.pointer (some ⟨gp, 0, none⟩)) wq := by rw [Hrge9.out]
      have HK := Lib.hid (And.intro hk (And.intro he hx))
      clear hk hx he
      go_simp
      exact HK.out
    · intro Lq wq xq hh
      have d9 : Erg 9 (xq 9) wq := hh.val 9 (by kernel_rfl) (by kernel_rfl)
      rw [Hrge9.out] at d9
      simp only [hFrg, d9]
      clear d9
      refine .inl ⟨rfl, ?_⟩
      unfold Reg.upon
      have hk := Hrgk.out 10 Lq wq (by decide) (by decide)  hh.cls
      have hx := Hrgx.out wq
      have he : Erg 10 (.pointer (some ⟨gp, 0, none⟩)) wq := by rw [Hrge10.out]
      have HK := Lib.hid (And.intro hk (And.intro he hx))
      clear hk hx he
      go_simp
      exact HK.out
    · intro Lq wq xq hh
      have d10 : Erg 10 (xq 10) wq := hh.val 10 (by kernel_rfl) (by kernel_rfl)
      rw [Hrge10.out] at d10
      simp only [hFrg, d10]
      clear d10
      refine .inl ⟨rfl, ?_⟩
      unfold Reg.upon
      have hk := Hrgk.out 11 Lq wq (by decide) (by decide)  hh.cls
      have hx := Hrgx.out wq
      have he : Erg 11 (.pointer (some ⟨gp, 0, none⟩)) wq := by rw [Hrge11.out]
      have HK := Lib.hid (And.intro hk (And.intro he hx))
      clear hk hx he
      go_simp
      exact HK.out
    · intro Lq wq xq hh
      have d11 : Erg 11 (xq 11) wq := hh.val 11 (by kernel_rfl) (by kernel_rfl)
      rw [Hrge11.out] at d11
      simp only [hFrg, d11]
      clear d11
      refine .inl ⟨rfl, ?_⟩
      unfold Reg.upon
      have hc : Crg Lq (xq 15) wq := hh.cls
      rw [HrghC.out] at hc
      have hp := H.out.below hc.1
      have q0 := hp.1.cell 0 _ rfl
      clear hc
      have hk := Hrgk.out 12 Lq wq (by decide) (by decide)  hh.cls
      have hx := Hrgx.out wq
      have he : Erg 12 (.pointer (some ⟨gg, 0, none⟩)) wq := by rw [Hrge12.out]
      have HK := Lib.hid (And.intro hk (And.intro he hx))
      clear hk hx he
      go_simp
      exact HK.out
    · intro Lq wq xq hh
      have d12 : Erg 12 (xq 12) wq := hh.val 12 (by kernel_rfl) (by kernel_rfl)
      rw [Hrge12.out] at d12
      simp only [hFrg, d12]
      clear d12
      refine .inl ⟨rfl, ?_⟩
      unfold Reg.upon
      have hc : Crg Lq (xq 15) wq := hh.cls
      rw [HrghC.out] at hc
      go_simp
      refine (HHI.out wq hc.1).mono ?_
      rintro e w2 ⟨rfl, rfl⟩
      exact ⟨_, rfl, Hrgk.out 13 Lq wq (by decide) (by decide)  hh.cls, (by rw [Hrge13.out]; try rfl), Hrgx.out _⟩
    · intro Lq wq xq hh
      have d3 : Erg 3 (xq 3) wq := hh.val 3 (by kernel_rfl) (by kernel_rfl)
      rw [Hrge3.out] at d3
      have d8 : Erg 8 (xq 8) wq := hh.val 8 (by kernel_rfl) (by kernel_rfl)
      rw [Hrge8.out] at d8
      have d13 : Erg 13 (xq 13) wq := hh.val 13 (by kernel_rfl) (by kernel_rfl)
      rw [Hrge13.out] at d13
      simp only [hFrg, d3, d8, d13]
      clear d3 d8 d13
      refine .inl ⟨rfl, ?_⟩
      unfold Reg.upon
      have hc : Crg Lq (xq 15) wq := hh.cls
      rw [HrghC.out] at hc
      go_simp
      refine (HHO.out wq).mono ?_
      rintro e w2 ⟨rfl, hb⟩
      exact ⟨_, rfl, Hrgk.out 14 Lq w2 (by decide) (by decide)  (Hrgb.out Lq wq w2 hh.cls hb), (by rw [Hrge14.out]; try rfl), Hrgxb.out wq w2 hb⟩
    · intro Lq wq xq hh
      simp only [hFrg]
      refine .inl ⟨rfl, ?_⟩
      unfold Reg.upon
      have hc : Crg Lq (xq 15) wq := hh.cls
      rw [HrghC.out] at hc
      have hn := Has.new wq [.int .i64 0, .int .i64 0, .bool false] 24
      have hb := (Below.refl wq.heap.size wq).alloc (Nat.le_refl _) (.cells [Value.int .i64 0, .int .i64 0, .bool false].toArray 24)
      have hF : Crg (Lq.setIfInBounds 15 true) (.pointer (some ⟨wq.heap.size, 0, none⟩)) (wq.alloc (.cells [Value.int .i64 0, .int .i64 0, .bool false].toArray 24)) := by
        rw [HrghC.out]
        refine ⟨hc.1.trans (hb.mono hc.1.size), fun _ => ⟨_, rfl, hc.1.size, fun _ => hn, fun e => ?_⟩⟩
        rw [Mix.one_ne (by decide), Mix.one_un (hh.notYet 16 (by kernel_rfl))] at e
        exact absurd e (by decide)
      have hE : Erg 15 (.pointer (some ⟨wq.heap.size, 0, none⟩)) (wq.alloc (.cells [Value.int .i64 0, .int .i64 0, .bool false].toArray 24)) := by rw [Hrge15.out]; trivial
      have hX : Xrg wq (wq.alloc (.cells [Value.int .i64 0, .int .i64 0, .bool false].toArray 24)) := by rw [HrghX.out]; trivial
      go_simp
      exact ⟨hF, hE, hX⟩
    · intro Lq wq xq hh
      have d14 : Erg 14 (xq 14) wq := hh.val 14 (by kernel_rfl) (by kernel_rfl)
      rw [Hrge14.out] at d14
      have d15 : Erg 15 (xq 15) wq := hh.val 15 (by kernel_rfl) (by kernel_rfl)
      rw [Hrge15.out] at d15
      simp only [hFrg, d14]
      clear d14
      refine .inl ⟨rfl, ?_⟩
      unfold Reg.upon
      have hc : Crg Lq (xq 15) wq := hh.cls
      rw [HrghC.out] at hc
      obtain ⟨g, e1, e2, e3, e4⟩ := hc.2 (hh.isDone 15 (by kernel_rfl))
      have hz := e3 hh.un
      have q0 := hz.cell 0 _ rfl
      have q1 := hz.cell 1 _ rfl
      have q2 := hz.cell 2 _ rfl
      have g0 := hz.free 0
      have g1 := hz.free 1
      have g2 := hz.free 2
      have hF : Crg (Lq.setIfInBounds 16 true) (xq 15) (((wq.setCell ⟨g, 0, none⟩ (.int .i64 r2)).setCell ⟨g, 1, none⟩ (.int .i64 c2)).setCell ⟨g, 2, none⟩ (.bool pd2)) := by
        rw [HrghC.out]
        refine ⟨hc.1.trans ((((Upd.refl (fun b => w.heap.size ≤ b) wq).setCell (p := ⟨g, 0, none⟩) (.inl e2) _).setCell (p := ⟨g, 1, none⟩) (.inl e2) _).setCell (p := ⟨g, 2, none⟩) (.inl e2) _ |>.below hc.1.size fun _ e => e), fun _ => ⟨g, e1, e2, fun e => ?_, fun _ => ((hz.set 0 _).set 1 _).set 2 _⟩⟩
        rw [Mix.one_set (by rw [hh.size]; decide)] at e
        exact absurd e (by decide)
      have hE : Erg 16 undef (((wq.setCell ⟨g, 0, none⟩ (.int .i64 r2)).setCell ⟨g, 1, none⟩ (.int .i64 c2)).setCell ⟨g, 2, none⟩ (.bool pd2)) := by rw [Hrge16.out]
      have hX : Xrg wq (((wq.setCell ⟨g, 0, none⟩ (.int .i64 r2)).setCell ⟨g, 1, none⟩ (.int .i64 c2)).setCell ⟨g, 2, none⟩ (.bool pd2)) := by rw [HrghX.out]; trivial
      rw [e1]
      clear hc e3 e4
      go_simp
      exact ⟨hF, hE, hX⟩
  intro xq wrg hcrg hvrg
  rw [HrghC.out] at hcrg
  simp only [hFrg]
  have vrg15 : Erg 15 (xq 15) wrg := hvrg 15 (by decide)
  rw [Hrge15.out] at vrg15
  clear hvrg hFrg Hrgk Hrgx Hrgst Hrgc HrghC HrghX Hrgb Hrgxb Hrge0 Hrge1 Hrge2 Hrge3 Hrge4 Hrge5 Hrge6 Hrge7 Hrge8 Hrge9 Hrge10 Hrge11 Hrge12 Hrge13 Hrge14 Hrge15 Hrge16
  obtain ⟨hbw, h13⟩ := hcrg
  obtain ⟨g6, e1, hg6, _, h14⟩ := h13 (by kernel_rfl)
  have H6 := Lib.hid (h14 (by kernel_rfl))
  have HG6 := Lib.hid hg6
  have B1 := Lib.hid hbw
  rw [e1]
  clear vrg15 e1 h13 h14 hbw hg6 c0
  go_wp2_with fail
  refine (HGN.out wrg).mono ?_
  rintro e w2 ⟨g2, gr2, R0, rfl, hg2, hm2, b2⟩
  have HG2 := Lib.hid hg2
  have HM2 := Lib.hid (show R0.map lineOf = szL Ls nw nh (r2 + 1 - nh) 0 from by rw [hm2]; unfold szL; rw [fill_zero])
  have H62 := Lib.hid (H6.out.below b2 H6.out.lt)
  have B2 := Lib.hid (B1.out.trans (b2.mono B1.out.size))
  have HB1 := Lib.hid B1.out.size
  clear hg2 hm2 b2 H6 B1 HGN HHO
  obtain ⟨top, htop⟩ : ∃ top, top = r2 + 1 - nh := ⟨_, rfl⟩
  obtain ⟨kk, hkk⟩ : ∃ kk, kk = min nh (ht - top) := ⟨_, rfl⟩
  have HTOP := Lib.hid htop
  have HKK := Lib.hid hkk
  rw [← htop] at HM2
  have hmx : max ((r2 : Int) - ((nh : Int) - 1)) 0 = (top : Int) := by omega
  have hmn : min (nh : Int) ((ht : Int) - (top : Int)) = (kk : Int) := by omega
  have hkn : kk ≤ nh ∧ top + kk ≤ ht := by omega
  have hw1 : IntKind.i64.wrap ((nh : Int) - 1) = (nh : Int) - 1 := by rw [IntKind.wrap_i64]; omega
  have hw2 : IntKind.i64.wrap ((r2 : Int) - ((nh : Int) - 1)) = (r2 : Int) - ((nh : Int) - 1) := by rw [IntKind.wrap_i64]; omega
  have hw3 : IntKind.i64.wrap ((ht : Int) - (top : Int)) = (ht : Int) - (top : Int) := by rw [IntKind.wrap_i64]; omega
  have hrr : top ≤ r2 := by omega
  have HNH := Lib.hid (show ∀ (w' : World) (R' : List Rw) (x : Nat), GridAt w' x g2 gr2 nw R' → R'.length = nh → Calls Tryd.prog 19 #[.pointer (some ⟨g2, 0, none⟩)] w' (fun e w3 => e = .returned (.int .i64 nh) ∧ w' = w3) from fun w' R' x hg hl => by
    have h1 := ghigh_any x g2 gr2 nw R' w' hg
    rwa [hl] at h1)
  have HRL0 := Lib.hid (show R0.length = nh from by rw [map_len HM2.out]; unfold szL; rw [fill_len])
  clear htop hkk
  obtain ⟨Ergb, hErgb⟩ : ∃ EE : Nat → Value → World → Prop, EE = fun jj xx ww => match jj with
      | 0 => xx = .pointer (some ⟨g6, 0, none⟩)
      | 1 => xx = .int .i64 r2
      | 2 => xx = .pointer (some ⟨g2, 0, none⟩)
      | 3 => xx = .int .i64 nh
      | 4 => xx = .int .i64 ((nh : Int) - 1)
      | 5 => xx = .int .i64 ((r2 : Int) - ((nh : Int) - 1))
      | 6 => xx = .int .i64 (top : Int)
      | 7 => xx = .int .i64 (top : Int)
      | _ => True := ⟨_, rfl⟩
  have ergb0 : ∀ xx ww, Ergb 0 xx ww = (xx = .pointer (some ⟨g6, 0, none⟩)) := fun xx ww => congrFun (congrFun (congrFun hErgb 0) xx) ww
  have ergb1 : ∀ xx ww, Ergb 1 xx ww = (xx = .int .i64 r2) := fun xx ww => congrFun (congrFun (congrFun hErgb 1) xx) ww
  have ergb2 : ∀ xx ww, Ergb 2 xx ww = (xx = .pointer (some ⟨g2, 0, none⟩)) := fun xx ww => congrFun (congrFun (congrFun hErgb 2) xx) ww
  have ergb3 : ∀ xx ww, Ergb 3 xx ww = (xx = .int .i64 nh) := fun xx ww => congrFun (congrFun (congrFun hErgb 3) xx) ww
  have ergb4 : ∀ xx ww, Ergb 4 xx ww = (xx = .int .i64 ((nh : Int) - 1)) := fun xx ww => congrFun (congrFun (congrFun hErgb 4) xx) ww
  have ergb5 : ∀ xx ww, Ergb 5 xx ww = (xx = .int .i64 ((r2 : Int) - ((nh : Int) - 1))) := fun xx ww => congrFun (congrFun (congrFun hErgb 5) xx) ww
  have ergb6 : ∀ xx ww, Ergb 6 xx ww = (xx = .int .i64 (top : Int)) := fun xx ww => congrFun (congrFun (congrFun hErgb 6) xx) ww
  have ergb7 : ∀ xx ww, Ergb 7 xx ww = (xx = .int .i64 (top : Int)) := fun xx ww => congrFun (congrFun (congrFun hErgb 7) xx) ww
  obtain ⟨Crgb, hCrgb⟩ : ∃ CC : Array Bool → World → Prop, CC = fun L8 w' => Below w2.heap.size w2 w' := ⟨_, rfl⟩
  have krgb : ∀ i L w,  Crgb L w → Crgb (L.setIfInBounds i true) w := by
    intro i L w  h
    rw [hCrgb] at h ⊢
    exact h
  obtain ⟨Xrgb, hXrgb⟩ : ∃ XX : World → World → Prop, XX = fun x y => Below x.heap.size x y := ⟨_, rfl⟩
  have xrgb : ∀ w, Xrgb w w := fun w => by rw [hXrgb]; exact Below.refl _ _
  have strgb : ∀ j x w w1, Xrgb w w1 → Ergb j x w → Ergb j x w1 := by
    intro j x w w1 hx h
    rw [hXrgb] at hx
    match j with
    | 0 => rw [ergb0] at h ⊢; exact h
    | 1 => rw [ergb1] at h ⊢; exact h
    | 2 => rw [ergb2] at h ⊢; exact h
    | 3 => rw [ergb3] at h ⊢; exact h
    | 4 => rw [ergb4] at h ⊢; exact h
    | 5 => rw [ergb5] at h ⊢; exact h
    | 6 => rw [ergb6] at h ⊢; exact h
    | 7 => rw [ergb7] at h ⊢; exact h
    | j + 8 => rw [hErgb]; trivial
  have crgb : Crgb (Array.replicate 8 false) w2.drew := by rw [hCrgb]; exact (Below.refl _ _).drew
  have brgb : ∀ L w w1, Crgb L w → Below w.heap.size w w1 → Crgb L w1 := by
    intro L w w1 h hb
    rw [hCrgb] at h ⊢
    exact h.trans (hb.mono h.size)
  have xbrgb : ∀ w w1, Below w.heap.size w w1 → Xrgb w w1 := by
    intro w w1 hb
    rw [hXrgb]
    exact hb
  have Hrgbb := Lib.hid brgb
  have Hrgbxb := Lib.hid xbrgb
  clear brgb xbrgb
  clear hErgb
  have Hrgbk := Lib.hid krgb
  have Hrgbx := Lib.hid xrgb
  have Hrgbst := Lib.hid strgb
  have Hrgbc := Lib.hid crgb
  have HrgbhC := Lib.hid hCrgb
  have HrgbhX := Lib.hid hXrgb
  have Hrgbe0 := Lib.hid ergb0
  have Hrgbe1 := Lib.hid ergb1
  have Hrgbe2 := Lib.hid ergb2
  have Hrgbe3 := Lib.hid ergb3
  have Hrgbe4 := Lib.hid ergb4
  have Hrgbe5 := Lib.hid ergb5
  have Hrgbe6 := Lib.hid ergb6
  have Hrgbe7 := Lib.hid ergb7
  clear krgb xrgb strgb crgb hCrgb hXrgb ergb0 ergb1 ergb2 ergb3 ergb4 ergb5 ergb6 ergb7
  go_wp2_with fail
  refine Reg.regionF Ergb Crgb Xrgb Hrgbst.out (by kernel_rfl) (by kernel_rfl) (by kernel_rfl) Hrgbc.out (fun Frgb hFrgb => ?_)
  simp only [Reg.frame, Reg.dsts, List.map_cons, List.map_nil, Mix.put_lit, List.set_cons_succ, List.set_cons_zero, Nat.zero_add, Nat.reduceAdd] at hFrgb
  refine ⟨?_, ?_⟩
  · refine ⟨?_, ?_, ?_, ?_, ?_, ?_, ?_, ?_, trivial⟩
    · intro Lq wq xq hh
      simp only [hFrgb]
      refine .inl ⟨rfl, ?_⟩
      unfold Reg.upon
      have hk := Hrgbk.out 0 Lq wq  hh.cls
      have hx := Hrgbx.out wq
      have he : Ergb 0 (.pointer (some ⟨g6, 0, none⟩)) wq := by rw [Hrgbe0.out]
      have HK := Lib.hid (And.intro hk (And.intro he hx))
      clear hk hx he
      go_simp
      exact HK.out
    · intro Lq wq xq hh
      have d0 : Ergb 0 (xq 0) wq := hh.val 0 (by kernel_rfl) (by kernel_rfl)
      rw [Hrgbe0.out] at d0
      simp only [hFrgb, d0]
      clear d0
      refine .inl ⟨rfl, ?_⟩
      unfold Reg.upon
      have hc : Crgb Lq wq := hh.cls
      rw [HrgbhC.out] at hc
      have y0 := (H62.out.below hc H62.out.lt).cell 0 _ rfl
      clear hc
      have hk := Hrgbk.out 1 Lq wq  hh.cls
      have hx := Hrgbx.out wq
      have he : Ergb 1 (.int .i64 r2) wq := by rw [Hrgbe1.out]
      have HK := Lib.hid (And.intro hk (And.intro he hx))
      clear hk hx he
      go_simp
      exact HK.out
    · intro Lq wq xq hh
      simp only [hFrgb]
      refine .inl ⟨rfl, ?_⟩
      unfold Reg.upon
      have hk := Hrgbk.out 2 Lq wq  hh.cls
      have hx := Hrgbx.out wq
      have he : Ergb 2 (.pointer (some ⟨g2, 0, none⟩)) wq := by rw [Hrgbe2.out]
      have HK := Lib.hid (And.intro hk (And.intro he hx))
      clear hk hx he
      go_simp
      exact HK.out
    · intro Lq wq xq hh
      have d2 : Ergb 2 (xq 2) wq := hh.val 2 (by kernel_rfl) (by kernel_rfl)
      rw [Hrgbe2.out] at d2
      simp only [hFrgb, d2]
      clear d2
      refine .inl ⟨rfl, ?_⟩
      unfold Reg.upon
      have hc : Crgb Lq wq := hh.cls
      rw [HrgbhC.out] at hc
      go_simp
      refine (HNH.out wq R0 _ (HG2.out.below hc) HRL0.out).mono ?_
      rintro e w2 ⟨rfl, rfl⟩
      exact ⟨_, rfl, Hrgbk.out 3 Lq wq  hh.cls, (by rw [Hrgbe3.out]; try rfl), Hrgbx.out _⟩
    · intro Lq wq xq hh
      have d3 : Ergb 3 (xq 3) wq := hh.val 3 (by kernel_rfl) (by kernel_rfl)
      rw [Hrgbe3.out] at d3
      simp only [hFrgb, d3]
      clear d3
      refine .inl ⟨rfl, ?_⟩
      unfold Reg.upon
      have hk := Hrgbk.out 4 Lq wq  hh.cls
      have hx := Hrgbx.out wq
      have he : Ergb 4 (.int .i64 ((nh : Int) - 1)) wq := by rw [Hrgbe4.out]
      have HK := Lib.hid (And.intro hk (And.intro he hx))
      clear hk hx he
      go_simp
      exact HK.out
    · intro Lq wq xq hh
      have d1 : Ergb 1 (xq 1) wq := hh.val 1 (by kernel_rfl) (by kernel_rfl)
      rw [Hrgbe1.out] at d1
      have d4 : Ergb 4 (xq 4) wq := hh.val 4 (by kernel_rfl) (by kernel_rfl)
      rw [Hrgbe4.out] at d4
      simp only [hFrgb, d1, d4]
      clear d1 d4
      refine .inl ⟨rfl, ?_⟩
      unfold Reg.upon
      have hk := Hrgbk.out 5 Lq wq  hh.cls
      have hx := Hrgbx.out wq
      have he : Ergb 5 (.int .i64 ((r2 : Int) - ((nh : Int) - 1))) wq := by rw [Hrgbe5.out]
      have HK := Lib.hid (And.intro hk (And.intro he hx))
      clear hk hx he
      go_simp
      exact HK.out
    · intro Lq wq xq hh
      have d5 : Ergb 5 (xq 5) wq := hh.val 5 (by kernel_rfl) (by kernel_rfl)
      rw [Hrgbe5.out] at d5
      simp only [hFrgb, d5]
      clear d5
      refine .inl ⟨rfl, ?_⟩
      unfold Reg.upon
      have hk := Hrgbk.out 6 Lq wq  hh.cls
      have hx := Hrgbx.out wq
      have he : Ergb 6 (.int .i64 (top : Int)) wq := by rw [Hrgbe6.out]
      have HK := Lib.hid (And.intro hk (And.intro he hx))
      clear hk hx he
      go_simp
      exact HK.out
    · intro Lq wq xq hh
      have d6 : Ergb 6 (xq 6) wq := hh.val 6 (by kernel_rfl) (by kernel_rfl)
      rw [Hrgbe6.out] at d6
      simp only [hFrgb, d6]
      clear d6
      refine .inl ⟨rfl, ?_⟩
      unfold Reg.upon
      have hk := Hrgbk.out 7 Lq wq  hh.cls
      have hx := Hrgbx.out wq
      have he : Ergb 7 (.int .i64 (top : Int)) wq := by rw [Hrgbe7.out]
      have HK := Lib.hid (And.intro hk (And.intro he hx))
      clear hk hx he
      go_simp
      exact HK.out
  intro xq wrgb hcrgb hvrgb
  rw [HrgbhC.out] at hcrgb
  simp only [hFrgb]
  have vrgb7 : Ergb 7 (xq 7) wrgb := hvrgb 7 (by decide)
  rw [Hrgbe7.out] at vrgb7
  rw [vrgb7]
  clear hvrgb hFrgb Hrgbk Hrgbx Hrgbst Hrgbc HrgbhC HrgbhX Hrgbb Hrgbxb Hrgbe0 Hrgbe1 Hrgbe2 Hrgbe3 Hrgbe4 Hrgbe5 Hrgbe6 Hrgbe7
  have HG3 := Lib.hid (HG2.out.below hcrgb)
  have H63 := Lib.hid (H62.out.below hcrgb H62.out.lt)
  have B3 := Lib.hid (B2.out.trans (hcrgb.mono B2.out.size))
  clear hcrgb vrgb7 HG2 H62 B2
  obtain ⟨Ergd, hErgd⟩ : ∃ EE : Nat → Value → World → Prop, EE = fun jj xx ww => match jj with
      | 0 => xx = .pointer (some ⟨g2, 0, none⟩)
      | 1 => xx = .int .i64 nh
      | 2 => xx = .pointer (some ⟨gp, 0, none⟩)
      | 3 => xx = .pointer (some ⟨gp, 0, none⟩)
      | 4 => xx = .pointer (some ⟨gp, 0, none⟩)
      | 5 => xx = .pointer (some ⟨gg, 0, none⟩)
      | 6 => xx = .int .i64 ht
      | 7 => xx = .int .i64 (top : Int)
      | 8 => xx = .int .i64 ((ht : Int) - (top : Int))
      | 9 => xx = .int .i64 (kk : Int)
      | 10 => xx = .int .i64 0
      | _ => True := ⟨_, rfl⟩
  have ergd0 : ∀ xx ww, Ergd 0 xx ww = (xx = .pointer (some ⟨g2, 0, none⟩)) := fun xx ww => congrFun (congrFun (congrFun hErgd 0) xx) ww
  have ergd1 : ∀ xx ww, Ergd 1 xx ww = (xx = .int .i64 nh) := fun xx ww => congrFun (congrFun (congrFun hErgd 1) xx) ww
  have ergd2 : ∀ xx ww, Ergd 2 xx ww = (xx = .pointer (some ⟨gp, 0, none⟩)) := fun xx ww => congrFun (congrFun (congrFun hErgd 2) xx) ww
  have ergd3 : ∀ xx ww, Ergd 3 xx ww = (xx = .pointer (some ⟨gp, 0, none⟩)) := fun xx ww => congrFun (congrFun (congrFun hErgd 3) xx) ww
  have ergd4 : ∀ xx ww, Ergd 4 xx ww = (xx = .pointer (some ⟨gp, 0, none⟩)) := fun xx ww => congrFun (congrFun (congrFun hErgd 4) xx) ww
  have ergd5 : ∀ xx ww, Ergd 5 xx ww = (xx = .pointer (some ⟨gg, 0, none⟩)) := fun xx ww => congrFun (congrFun (congrFun hErgd 5) xx) ww
  have ergd6 : ∀ xx ww, Ergd 6 xx ww = (xx = .int .i64 ht) := fun xx ww => congrFun (congrFun (congrFun hErgd 6) xx) ww
  have ergd7 : ∀ xx ww, Ergd 7 xx ww = (xx = .int .i64 (top : Int)) := fun xx ww => congrFun (congrFun (congrFun hErgd 7) xx) ww
  have ergd8 : ∀ xx ww, Ergd 8 xx ww = (xx = .int .i64 ((ht : Int) - (top : Int))) := fun xx ww => congrFun (congrFun (congrFun hErgd 8) xx) ww
  have ergd9 : ∀ xx ww, Ergd 9 xx ww = (xx = .int .i64 (kk : Int)) := fun xx ww => congrFun (congrFun (congrFun hErgd 9) xx) ww
  have ergd10 : ∀ xx ww, Ergd 10 xx ww = (xx = .int .i64 0) := fun xx ww => congrFun (congrFun (congrFun hErgd 10) xx) ww
  obtain ⟨Crgd, hCrgd⟩ : ∃ CC : Array Bool → World → Prop, CC = fun L8 w' => Below wrgb.heap.size wrgb w' := ⟨_, rfl⟩
  have krgd : ∀ i L w,  Crgd L w → Crgd (L.setIfInBounds i true) w := by
    intro i L w  h
    rw [hCrgd] at h ⊢
    exact h
  obtain ⟨Xrgd, hXrgd⟩ : ∃ XX : World → World → Prop, XX = fun x y => Below x.heap.size x y := ⟨_, rfl⟩
  have xrgd : ∀ w, Xrgd w w := fun w => by rw [hXrgd]; exact Below.refl _ _
  have strgd : ∀ j x w w1, Xrgd w w1 → Ergd j x w → Ergd j x w1 := by
    intro j x w w1 hx h
    rw [hXrgd] at hx
    match j with
    | 0 => rw [ergd0] at h ⊢; exact h
    | 1 => rw [ergd1] at h ⊢; exact h
    | 2 => rw [ergd2] at h ⊢; exact h
    | 3 => rw [ergd3] at h ⊢; exact h
    | 4 => rw [ergd4] at h ⊢; exact h
    | 5 => rw [ergd5] at h ⊢; exact h
    | 6 => rw [ergd6] at h ⊢; exact h
    | 7 => rw [ergd7] at h ⊢; exact h
    | 8 => rw [ergd8] at h ⊢; exact h
    | 9 => rw [ergd9] at h ⊢; exact h
    | 10 => rw [ergd10] at h ⊢; exact h
    | j + 11 => rw [hErgd]; trivial
  have crgd : Crgd (Array.replicate 11 false) wrgb.drew := by rw [hCrgd]; exact (Below.refl _ _).drew
  have brgd : ∀ L w w1, Crgd L w → Below w.heap.size w w1 → Crgd L w1 := by
    intro L w w1 h hb
    rw [hCrgd] at h ⊢
    exact h.trans (hb.mono h.size)
  have xbrgd : ∀ w w1, Below w.heap.size w w1 → Xrgd w w1 := by
    intro w w1 hb
    rw [hXrgd]
    exact hb
  have Hrgdb := Lib.hid brgd
  have Hrgdxb := Lib.hid xbrgd
  clear brgd xbrgd
  clear hErgd
  have Hrgdk := Lib.hid krgd
  have Hrgdx := Lib.hid xrgd
  have Hrgdst := Lib.hid strgd
  have Hrgdc := Lib.hid crgd
  have HrgdhC := Lib.hid hCrgd
  have HrgdhX := Lib.hid hXrgd
  have Hrgde0 := Lib.hid ergd0
  have Hrgde1 := Lib.hid ergd1
  have Hrgde2 := Lib.hid ergd2
  have Hrgde3 := Lib.hid ergd3
  have Hrgde4 := Lib.hid ergd4
  have Hrgde5 := Lib.hid ergd5
  have Hrgde6 := Lib.hid ergd6
  have Hrgde7 := Lib.hid ergd7
  have Hrgde8 := Lib.hid ergd8
  have Hrgde9 := Lib.hid ergd9
  have Hrgde10 := Lib.hid ergd10
  clear krgd xrgd strgd crgd hCrgd hXrgd ergd0 ergd1 ergd2 ergd3 ergd4 ergd5 ergd6 ergd7 ergd8 ergd9 ergd10
  go_wp2_with fail
  refine Reg.regionF Ergd Crgd Xrgd Hrgdst.out (by kernel_rfl) (by kernel_rfl) (by kernel_rfl) Hrgdc.out (fun Frgd hFrgd => ?_)
  simp only [Reg.frame, Reg.dsts, List.map_cons, List.map_nil, Mix.put_lit, List.set_cons_succ, List.set_cons_zero, Nat.zero_add, Nat.reduceAdd] at hFrgd
  refine ⟨?_, ?_⟩
  · refine ⟨?_, ?_, ?_, ?_, ?_, ?_, ?_, ?_, ?_, ?_, ?_, trivial⟩
    · intro Lq wq xq hh
      simp only [hFrgd]
      refine .inl ⟨rfl, ?_⟩
      unfold Reg.upon
      have hk := Hrgdk.out 0 Lq wq  hh.cls
      have hx := Hrgdx.out wq
      have he : Ergd 0 (.pointer (some ⟨g2, 0, none⟩)) wq := by rw [Hrgde0.out]
      have HK := Lib.hid (And.intro hk (And.intro he hx))
      clear hk hx he
      go_simp
      exact HK.out
    · intro Lq wq xq hh
      have d0 : Ergd 0 (xq 0) wq := hh.val 0 (by kernel_rfl) (by kernel_rfl)
      rw [Hrgde0.out] at d0
      simp only [hFrgd, d0]
      clear d0
      refine .inl ⟨rfl, ?_⟩
      unfold Reg.upon
      have hc : Crgd Lq wq := hh.cls
      rw [HrgdhC.out] at hc
      go_simp
      refine (HNH.out wq R0 _ (HG3.out.below hc) HRL0.out).mono ?_
      rintro e w2 ⟨rfl, rfl⟩
      exact ⟨_, rfl, Hrgdk.out 1 Lq wq  hh.cls, (by rw [Hrgde1.out]; try rfl), Hrgdx.out _⟩
    · intro Lq wq xq hh
      simp only [hFrgd]
      refine .inl ⟨rfl, ?_⟩
      unfold Reg.upon
      have hk := Hrgdk.out 2 Lq wq  hh.cls
      have hx := Hrgdx.out wq
      have he : Ergd 2 (.pointer (some ⟨gp, 0, none⟩)) wq := by rw [Hrgde2.out]
      have HK := Lib.hid (And.intro hk (And.intro he hx))
      clear hk hx he
      go_simp
      exact HK.out
    · intro Lq wq xq hh
      have d2 : Ergd 2 (xq 2) wq := hh.val 2 (by kernel_rfl) (by kernel_rfl)
      rw [Hrgde2.out] at d2
      simp only [hFrgd, d2]
      clear d2
      refine .inl ⟨rfl, ?_⟩
      unfold Reg.upon
      have hk := Hrgdk.out 3 Lq wq  hh.cls
      have hx := Hrgdx.out wq
      have he : Ergd 3 (.pointer (some ⟨gp, 0, none⟩)) wq := by rw [Hrgde3.out]
      have HK := Lib.hid (And.intro hk (And.intro he hx))
      clear hk hx he
      go_simp
      exact HK.out
    · intro Lq wq xq hh
      have d3 : Ergd 3 (xq 3) wq := hh.val 3 (by kernel_rfl) (by kernel_rfl)
      rw [Hrgde3.out] at d3
      simp only [hFrgd, d3]
      clear d3
      refine .inl ⟨rfl, ?_⟩
      unfold Reg.upon
      have hk := Hrgdk.out 4 Lq wq  hh.cls
      have hx := Hrgdx.out wq
      have he : Ergd 4 (.pointer (some ⟨gp, 0, none⟩)) wq := by rw [Hrgde4.out]
      have HK := Lib.hid (And.intro hk (And.intro he hx))
      clear hk hx he
      go_simp
      exact HK.out
    · intro Lq wq xq hh
      have d4 : Ergd 4 (xq 4) wq := hh.val 4 (by kernel_rfl) (by kernel_rfl)
      rw [Hrgde4.out] at d4
      simp only [hFrgd, d4]
      clear d4
      refine .inl ⟨rfl, ?_⟩
      unfold Reg.upon
      have hc : Crgd Lq wq := hh.cls
      rw [HrgdhC.out] at hc
      have hp := H.out.below (B3.out.trans (hc.mono B3.out.size))
      have q0 := hp.1.cell 0 _ rfl
      clear hc
      have hk := Hrgdk.out 5 Lq wq  hh.cls
      have hx := Hrgdx.out wq
      have he : Ergd 5 (.pointer (some ⟨gg, 0, none⟩)) wq := by rw [Hrgde5.out]
      have HK := Lib.hid (And.intro hk (And.intro he hx))
      clear hk hx he
      go_simp
      exact HK.out
    · intro Lq wq xq hh
      have d5 : Ergd 5 (xq 5) wq := hh.val 5 (by kernel_rfl) (by kernel_rfl)
      rw [Hrgde5.out] at d5
      simp only [hFrgd, d5]
      clear d5
      refine .inl ⟨rfl, ?_⟩
      unfold Reg.upon
      have hc : Crgd Lq wq := hh.cls
      rw [HrgdhC.out] at hc
      go_simp
      refine (HHI.out wq (B3.out.trans (hc.mono B3.out.size))).mono ?_
      rintro e w2 ⟨rfl, rfl⟩
      exact ⟨_, rfl, Hrgdk.out 6 Lq wq  hh.cls, (by rw [Hrgde6.out]; try rfl), Hrgdx.out _⟩
    · intro Lq wq xq hh
      simp only [hFrgd]
      refine .inl ⟨rfl, ?_⟩
      unfold Reg.upon
      have hk := Hrgdk.out 7 Lq wq  hh.cls
      have hx := Hrgdx.out wq
      have he : Ergd 7 (.int .i64 (top : Int)) wq := by rw [Hrgde7.out]
      have HK := Lib.hid (And.intro hk (And.intro he hx))
      clear hk hx he
      go_simp
      exact HK.out
    · intro Lq wq xq hh
      have d6 : Ergd 6 (xq 6) wq := hh.val 6 (by kernel_rfl) (by kernel_rfl)
      rw [Hrgde6.out] at d6
      have d7 : Ergd 7 (xq 7) wq := hh.val 7 (by kernel_rfl) (by kernel_rfl)
      rw [Hrgde7.out] at d7
      simp only [hFrgd, d6, d7]
      clear d6 d7
      refine .inl ⟨rfl, ?_⟩
      unfold Reg.upon
      have hk := Hrgdk.out 8 Lq wq  hh.cls
      have hx := Hrgdx.out wq
      have he : Ergd 8 (.int .i64 ((ht : Int) - (top : Int))) wq := by rw [Hrgde8.out]
      have HK := Lib.hid (And.intro hk (And.intro he hx))
      clear hk hx he
      go_simp
      exact HK.out
    · intro Lq wq xq hh
      have d1 : Ergd 1 (xq 1) wq := hh.val 1 (by kernel_rfl) (by kernel_rfl)
      rw [Hrgde1.out] at d1
      have d8 : Ergd 8 (xq 8) wq := hh.val 8 (by kernel_rfl) (by kernel_rfl)
      rw [Hrgde8.out] at d8
      simp only [hFrgd, d1, d8]
      clear d1 d8
      refine .inl ⟨rfl, ?_⟩
      unfold Reg.upon
      have hk := Hrgdk.out 9 Lq wq  hh.cls
      have hx := Hrgdx.out wq
      have he : Ergd 9 (.int .i64 (kk : Int)) wq := by rw [Hrgde9.out]
      have HK := Lib.hid (And.intro hk (And.intro he hx))
      clear hk hx he
      go_simp
      exact HK.out
    · intro Lq wq xq hh
      simp only [hFrgd]
      refine .inl ⟨rfl, ?_⟩
      unfold Reg.upon
      have hk := Hrgdk.out 10 Lq wq  hh.cls
      have hx := Hrgdx.out wq
      have he : Ergd 10 (.int .i64 0) wq := by rw [Hrgde10.out]
      have HK := Lib.hid (And.intro hk (And.intro he hx))
      clear hk hx he
      go_simp
      exact HK.out
  intro xq wrgd hcrgd hvrgd
  rw [HrgdhC.out] at hcrgd
  simp only [hFrgd]
  have vrgd9 : Ergd 9 (xq 9) wrgd := hvrgd 9 (by decide)
  rw [Hrgde9.out] at vrgd9
  rw [vrgd9]
  have vrgd10 : Ergd 10 (xq 10) wrgd := hvrgd 10 (by decide)
  rw [Hrgde10.out] at vrgd10
  rw [vrgd10]
  clear hvrgd hFrgd Hrgdk Hrgdx Hrgdst Hrgdc HrgdhC HrgdhX Hrgdb Hrgdxb Hrgde0 Hrgde1 Hrgde2 Hrgde3 Hrgde4 Hrgde5 Hrgde6 Hrgde7 Hrgde8 Hrgde9 Hrgde10
  have HG4 := Lib.hid (HG3.out.below hcrgd)
  have H64 := Lib.hid (H63.out.below hcrgd H63.out.lt)
  have B4 := Lib.hid (B3.out.trans (hcrgd.mono B3.out.size))
  obtain ⟨BN, hBN⟩ : ∃ BN, BN = wrg.heap.size := ⟨_, rfl⟩
  rw [← hBN] at HG4 HB1
  clear hcrgd vrgd9 vrgd10 HG3 H63 B3 hmx hmn hw1 hw2 hw3 hBN
  go_wp2
  go_loopw [54] (fun iv wr => ∃ (i : Nat) (Rk : List Rw), i ≤ kk ∧ iv = .int .i64 i ∧ GridAt wr BN g2 gr2 nw Rk ∧ Rk.map lineOf = szL Ls nw nh top i ∧ Has wr g6 [.int .i64 r2, .int .i64 c2, .bool pd2] 24 ∧ Below w.heap.size w wr) (fun iv _ => kk - (intOf iv).toNat)
  case atStart => exact ⟨0, R0, Nat.zero_le _, rfl, HG4.out, HM2.out, H64.out, B4.out⟩
  case round =>
    obtain ⟨i, Rk, hi, rfl, hg, hm, h6, hb⟩ := hrel
    obtain ⟨wi, hwi⟩ : ∃ wi, wi = wr := ⟨_, rfl⟩
    subst hwi
    have HG := Lib.hid hg
    have HM := Lib.hid hm
    have H6 := Lib.hid h6
    have HBI := Lib.hid hb
    have HRL := Lib.hid (show Rk.length = nh from by rw [map_len hm]; unfold szL; rw [fill_len])
    have HP := Lib.hid (H.out.below hb)
    clear hg hm h6 hb
    by_cases hlt : i < kk
    · have g1 : decide ((i : Int) < (kk : Int)) = true := by rw [decide_eq_true_eq]; omega
      have g2' : decide (i < kk) = true := by rw [decide_eq_true_eq]; omega
      have hwj : IntKind.i64.wrap ((i : Int) + 1) = (i : Int) + 1 := by rw [IntKind.wrap_i64]; omega
      have hwa : IntKind.i64.wrap ((top : Int) + (i : Int)) = ((top + i : Nat) : Int) := by rw [IntKind.wrap_i64]; omega
      have hil : top + i < Rs.length := by have := HP.out.sizes.2.2.2.2.1; have := HHT.out; omega
      obtain ⟨gk, hgk⟩ : ∃ gk, gk = (Rs.getD (top + i) r0).g := ⟨_, rfl⟩
      have HRW := Lib.hid (show Calls Tryd.prog 38 #[.pointer (some ⟨gg, 0, none⟩), .int .i64 ((top + i : Nat) : Int)] wi (fun e w' => e = .returned (.pointer (some ⟨gk, 0, none⟩)) ∧ wi = w') from by rw [hgk]; exact grow_in B gg gr wd Rs (top + i) wi HP.out.2.2.1 hil)
      have hrs := fresize_any B _ _ _ _ (nw : Int) wi (HP.out.2.2.1.row hil)
      rw [show rowN (nw : Int) = nw from by unfold rowN; omega, ← hgk, (row_line HP.out.2.2.2 (top + i) hil).1] at hrs
      have HRS := Lib.hid hrs
      have q0 := HP.out.1.cell 0 _ rfl
      clear hrs hgk hil
      go_wp2_with fail
      refine HRW.out.mono ?_
      rintro e w5 ⟨rfl, rfl⟩
      go_wp2_with fail
      refine (gwide_any BN g2 gr2 nw Rk wi HG.out).mono ?_
      rintro e w5 ⟨rfl, rfl⟩
      go_wp2_with fail
      refine HRS.out.mono ?_
      rintro e w5 ⟨gn, gcn, rfl, hrow, b5⟩
      have hin : i < nh := by omega
      have hrl := rsz_len (Ls.getD (top + i) zl).1 nw
      obtain ⟨cap, d0, d1, hcap, _⟩ := (HG.out.below b5).cells
      rw [HRL.out] at d1 hcap
      obtain ⟨_, ⟨u, cr⟩, fr⟩ := HG.out.put (by rw [HRL.out]; exact hin) b5 hrow hrl
      have HFIT := Lib.hid (gset_fit g2 gr2 nw nh cap i _ _ gn gcn _ _ w5 d0 d1 hcap u cr fr hin (by omega) hrow hrl)
      have HROW := Lib.hid hrow
      have B5 := Lib.hid b5
      have HIN := Lib.hid hin
      clear hrow b5 d0 d1 hcap cr fr hrl hin q0
      go_wp2_with fail
      refine HFIT.out.mono ?_
      rintro e w6 ⟨rfl, w7, b7, hw6⟩
      have hp7 := (HG.out.put (by rw [HRL.out]; exact HIN.out) (B5.out.trans (b7.mono B5.out.size)) (HROW.out.below b7) (rsz_len (Ls.getD (top + i) zl).1 nw)).1
      rw [← hw6] at hp7
      have b57 := B5.out.trans (b7.mono B5.out.size)
      have ho := HG.out.other H6.out (by decide) (by decide) (by decide) (by decide)
      have hgl := HG.out.lt
      have hk6 : Has w6 g6 [.int .i64 r2, .int .i64 c2, .bool pd2] 24 := by
        have hu := (Upd.refl (fun b => b = gr2) w7).setCell (p := ⟨gr2, i, none⟩) (.inl rfl) (ptrV (some gn))
        rw [← hw6] at hu
        exact hu.keep.has (H6.out.below b57 H6.out.lt) ho.2.1
      have hb6 : Below w.heap.size w w6 := by
        have hu := (Upd.refl (fun b => w.heap.size ≤ b) w7).setCell (p := ⟨gr2, i, none⟩) (.inl (Nat.le_trans HB1.out hgl.2.2.1)) (ptrV (some gn))
        rw [← hw6] at hu
        have b8 := HBI.out.trans (b57.mono HBI.out.size)
        exact b8.trans (hu.below b8.size fun _ e => e)
      have hm6 : (Rk.set i ⟨gn, gcn, rszL (Ls.getD (top + i) zl).1 nw, false⟩).map lineOf = szL Ls nw nh top (i + 1) := by
        rw [List.map_set, HM.out]
        unfold szL
        rw [← fill_set _ _ _ _ HIN.out]
        rfl
      have HP7 := Lib.hid hp7
      have HK6 := Lib.hid hk6
      have HB6 := Lib.hid hb6
      have HM6 := Lib.hid hm6
      clear hp7 b57 ho hgl hk6 hb6 hm6 hw6 b7
      go_wp2
      go_roundw
      case rel => exact ⟨i + 1, _, by omega, by go_num, HP7.out, HM6.out, HK6.out, HB6.out⟩
      case measure => simp [intOf] <;> omega
    · obtain rfl : i = kk := by omega
      have g1 : decide ((i : Int) < (i : Int)) = false := by rw [decide_eq_false_iff_not]; omega
      have q0 := HP.out.1.cell 0 _ rfl
      have q0f := HP.out.1.free 0
      obtain ⟨w8, hw8⟩ : ∃ w8, w8 = wi.setCell ⟨gp, 0, none⟩ (.pointer (some ⟨g2, 0, none⟩)) := ⟨_, rfl⟩
      have hu8 := (Upd.refl (fun b => b = gp) wi).setCell (p := ⟨gp, 0, none⟩) (.inl rfl) (.pointer (some ⟨g2, 0, none⟩))
      have hh8 := HP.out.1.set 0 (.pointer (some ⟨g2, 0, none⟩))
      rw [← hw8] at hu8 hh8
      have HP8 := Lib.hid (show PenAt w8 B gp g2 gr2 nw Rk (szL Ls nw nh top i) r c pd au from ⟨hh8, HP.out.2.1, (HG.out.base (Nat.le_trans hBw HB1.out)).pen HP.out.notx (HG.out.other HP.out.1 (by decide) (by decide) (by decide) (by decide)) hu8, HM.out⟩)
      have H68 := Lib.hid (hu8.keep.has H6.out (fun e => by subst e; exact other_type H6.out HP.out.1 (by decide)))
      have HU8 := Lib.hid (show Upd (fun b => b = gp ∨ w.heap.size ≤ b) w w8 from ((Upd.ofBelow HBI.out).mono fun b _ e => .inr e).trans (hu8.mono fun b _ e => .inl e))
      have HG8 := Lib.hid (show GridAt w8 w.heap.size g2 gr2 nw Rk from (HG.out.base HB1.out).pen HP.out.notx (HG.out.other HP.out.1 (by decide) (by decide) (by decide) (by decide)) hu8)
      have HW8 := Lib.hid hw8
      obtain ⟨cc, hcc⟩ : ∃ cc, cc = min c2 (nw - 1) := ⟨_, rfl⟩
      obtain ⟨ra, hra⟩ : ∃ ra, ra = r2 - top := ⟨_, rfl⟩
      have HCC := Lib.hid hcc
      have HRA := Lib.hid hra
      have hwr : IntKind.i64.wrap ((r2 : Int) - (top : Int)) = (ra : Int) := by rw [IntKind.wrap_i64]; omega
      have hwn : IntKind.i64.wrap ((nw : Int) - 1) = (nw : Int) - 1 := by rw [IntKind.wrap_i64]; omega
      have hmc : min (c2 : Int) ((nw : Int) - 1) = (cc : Int) := by omega
      clear hu8 hh8 hw8 hcc hra
      go_upto_region 10 with (fail)
      rw [← HW8.out]
      clear q0 q0f g1 HW8 H HP HG HBI H6 HG4 H64 HM
      obtain ⟨Erge, hErge⟩ : ∃ EE : Nat → Value → World → Prop, EE = fun jj xx ww => match jj with
          | 0 => xx = .pointer (some ⟨gp, 0, none⟩)
          | 1 => xx = .pointer (some ⟨g6, 0, none⟩)
          | 2 => xx = .int .i64 r2
          | 3 => xx = .int .i64 top
          | 4 => xx = .int .i64 ra
          | 5 => xx = .pointer (some ⟨g6, 1, none⟩)
          | 6 => xx = .int .i64 c2
          | 7 => xx = .pointer (some ⟨g2, 0, none⟩)
          | 8 => xx = .int .i64 nw
          | 9 => xx = .int .i64 ((nw : Int) - 1)
          | 10 => xx = .int .i64 cc
          | 11 => xx = .agg #[.int .i64 ra, .int .i64 cc, .bool false]
          | 12 => xx = .pointer (some ⟨gp, 0, none⟩)
          | 13 => xx = .pointer (some ⟨gp, 1, none⟩)
          | 14 => xx = undef
          | _ => True := ⟨_, rfl⟩
      have erge0 : ∀ xx ww, Erge 0 xx ww = (xx = .pointer (some ⟨gp, 0, none⟩)) := fun xx ww => congrFun (congrFun (congrFun hErge 0) xx) ww
      have erge1 : ∀ xx ww, Erge 1 xx ww = (xx = .pointer (some ⟨g6, 0, none⟩)) := fun xx ww => congrFun (congrFun (congrFun hErge 1) xx) ww
      have erge2 : ∀ xx ww, Erge 2 xx ww = (xx = .int .i64 r2) := fun xx ww => congrFun (congrFun (congrFun hErge 2) xx) ww
      have erge3 : ∀ xx ww, Erge 3 xx ww = (xx = .int .i64 top) := fun xx ww => congrFun (congrFun (congrFun hErge 3) xx) ww
      have erge4 : ∀ xx ww, Erge 4 xx ww = (xx = .int .i64 ra) := fun xx ww => congrFun (congrFun (congrFun hErge 4) xx) ww
      have erge5 : ∀ xx ww, Erge 5 xx ww = (xx = .pointer (some ⟨g6, 1, none⟩)) := fun xx ww => congrFun (congrFun (congrFun hErge 5) xx) ww
      have erge6 : ∀ xx ww, Erge 6 xx ww = (xx = .int .i64 c2) := fun xx ww => congrFun (congrFun (congrFun hErge 6) xx) ww
      have erge7 : ∀ xx ww, Erge 7 xx ww = (xx = .pointer (some ⟨g2, 0, none⟩)) := fun xx ww => congrFun (congrFun (congrFun hErge 7) xx) ww
      have erge8 : ∀ xx ww, Erge 8 xx ww = (xx = .int .i64 nw) := fun xx ww => congrFun (congrFun (congrFun hErge 8) xx) ww
      have erge9 : ∀ xx ww, Erge 9 xx ww = (xx = .int .i64 ((nw : Int) - 1)) := fun xx ww => congrFun (congrFun (congrFun hErge 9) xx) ww
      have erge10 : ∀ xx ww, Erge 10 xx ww = (xx = .int .i64 cc) := fun xx ww => congrFun (congrFun (congrFun hErge 10) xx) ww
      have erge11 : ∀ xx ww, Erge 11 xx ww = (xx = .agg #[.int .i64 ra, .int .i64 cc, .bool false]) := fun xx ww => congrFun (congrFun (congrFun hErge 11) xx) ww
      have erge12 : ∀ xx ww, Erge 12 xx ww = (xx = .pointer (some ⟨gp, 0, none⟩)) := fun xx ww => congrFun (congrFun (congrFun hErge 12) xx) ww
      have erge13 : ∀ xx ww, Erge 13 xx ww = (xx = .pointer (some ⟨gp, 1, none⟩)) := fun xx ww => congrFun (congrFun (congrFun hErge 13) xx) ww
      have erge14 : ∀ xx ww, Erge 14 xx ww = (xx = undef) := fun xx ww => congrFun (congrFun (congrFun hErge 14) xx) ww
      obtain ⟨Crge, hCrge⟩ : ∃ CC : Array Bool → World → Prop, CC = fun L8 w' => (∃ r9 c9 pd9, PenAt w' B gp g2 gr2 nw Rk (szL Ls nw nh top i) r9 c9 pd9 au ∧ GridAt w' w.heap.size g2 gr2 nw Rk) ∧ Has w' g6 [.int .i64 r2, .int .i64 c2, .bool pd2] 24 ∧ Upd (fun b => b = gp ∨ w.heap.size ≤ b) w w' ∧ (Mix.one L8 14 = 1 → PenAt w' B gp g2 gr2 nw Rk (szL Ls nw nh top i) ra cc false au) := ⟨_, rfl⟩
      have krge : ∀ i L w, i ≠ 14 →  Crge L w → Crge (L.setIfInBounds i true) w := by
        intro i L w q14 h
        rw [hCrge] at h ⊢
        simp only [Mix.one_ne q14]; exact h
      obtain ⟨Xrge, hXrge⟩ : ∃ XX : World → World → Prop, XX = fun _ _ => True := ⟨_, rfl⟩
      have xrge : ∀ w, Xrge w w := fun w => by rw [hXrge]; exact trivial
      have strge : ∀ j x w w1, Xrge w w1 → Erge j x w → Erge j x w1 := by
        intro j x w w1 hx h
        rw [hXrge] at hx
        match j with
        | 0 => rw [erge0] at h ⊢; exact h
        | 1 => rw [erge1] at h ⊢; exact h
        | 2 => rw [erge2] at h ⊢; exact h
        | 3 => rw [erge3] at h ⊢; exact h
        | 4 => rw [erge4] at h ⊢; exact h
        | 5 => rw [erge5] at h ⊢; exact h
        | 6 => rw [erge6] at h ⊢; exact h
        | 7 => rw [erge7] at h ⊢; exact h
        | 8 => rw [erge8] at h ⊢; exact h
        | 9 => rw [erge9] at h ⊢; exact h
        | 10 => rw [erge10] at h ⊢; exact h
        | 11 => rw [erge11] at h ⊢; exact h
        | 12 => rw [erge12] at h ⊢; exact h
        | 13 => rw [erge13] at h ⊢; exact h
        | 14 => rw [erge14] at h ⊢; exact h
        | j + 15 => rw [hErge]; trivial
      have crge : Crge (Array.replicate 15 false) w8.drew := by rw [hCrge]; exact ⟨⟨_, _, _, HP8.out.below (Below.refl _ _).drew, HG8.out.below (Below.refl _ _).drew⟩, H68.out.below (Below.refl w8.heap.size _).drew H68.out.lt, HU8.out.trans ((Upd.ofBelow (Below.refl w8.heap.size _).drew).mono fun b _ e => .inr (Nat.le_trans HU8.out.size e)), fun e => absurd e (by decide)⟩
      have brge : ∀ L w w1, Crge L w → Below w.heap.size w w1 → Crge L w1 := by
        intro L w w1 h hb
        rw [hCrge] at h ⊢
        (obtain ⟨⟨r9, c9, pd9, q1, q5⟩, q2, q3, q4⟩ := h; exact ⟨⟨r9, c9, pd9, q1.below hb, q5.below hb⟩, q2.below hb q2.lt, q3.trans ((Upd.ofBelow hb).mono fun b _ e => .inr (Nat.le_trans q3.size e)), fun e => (q4 e).below hb⟩)
      have xbrge : ∀ w w1, Below w.heap.size w w1 → Xrge w w1 := by
        intro w w1 hb
        rw [hXrge]
        trivial
      have Hrgeb := Lib.hid brge
      have Hrgexb := Lib.hid xbrge
      clear brge xbrge
      clear hErge
      have Hrgek := Lib.hid krge
      have Hrgex := Lib.hid xrge
      have Hrgest := Lib.hid strge
      have Hrgec := Lib.hid crge
      have HrgehC := Lib.hid hCrge
      have HrgehX := Lib.hid hXrge
      have Hrgee0 := Lib.hid erge0
      have Hrgee1 := Lib.hid erge1
      have Hrgee2 := Lib.hid erge2
      have Hrgee3 := Lib.hid erge3
      have Hrgee4 := Lib.hid erge4
      have Hrgee5 := Lib.hid erge5
      have Hrgee6 := Lib.hid erge6
      have Hrgee7 := Lib.hid erge7
      have Hrgee8 := Lib.hid erge8
      have Hrgee9 := Lib.hid erge9
      have Hrgee10 := Lib.hid erge10
      have Hrgee11 := Lib.hid erge11
      have Hrgee12 := Lib.hid erge12
      have Hrgee13 := Lib.hid erge13
      have Hrgee14 := Lib.hid erge14
      clear krge xrge strge crge hCrge hXrge erge0 erge1 erge2 erge3 erge4 erge5 erge6 erge7 erge8 erge9 erge10 erge11 erge12 erge13 erge14
      go_wp2_with fail
      refine Reg.regionF Erge Crge Xrge Hrgest.out (by kernel_rfl) (by kernel_rfl) (by kernel_rfl) Hrgec.out (fun Frge hFrge => ?_)
      simp only [Reg.frame, Reg.dsts, List.map_cons, List.map_nil, Mix.put_lit, Reg.put_none, List.set_cons_succ, List.set_cons_zero, Nat.zero_add, Nat.reduceAdd] at hFrge
      refine ⟨?_, ?_⟩
      · refine ⟨?_, ?_, ?_, ?_, ?_, ?_, ?_, ?_, ?_, ?_, ?_, ?_, ?_, ?_, ?_, trivial⟩
        · intro Lq wq xq hh
          simp only [hFrge]
          refine .inl ⟨rfl, ?_⟩
          unfold Reg.upon
          have hk := Hrgek.out 0 Lq wq (by decide)  hh.cls
          have hx := Hrgex.out wq
          have he : Erge 0 (.pointer (some ⟨gp, 0, none⟩)) wq := by rw [Hrgee0.out]
          have HK := Lib.hid (And.intro hk (And.intro he hx))
          clear hk hx he
          go_simp
          exact HK.out
        · intro Lq wq xq hh
          simp only [hFrge]
          refine .inl ⟨rfl, ?_⟩
          unfold Reg.upon
          have hk := Hrgek.out 1 Lq wq (by decide)  hh.cls
          have hx := Hrgex.out wq
          have he : Erge 1 (.pointer (some ⟨g6, 0, none⟩)) wq := by rw [Hrgee1.out]
          have HK := Lib.hid (And.intro hk (And.intro he hx))
          clear hk hx he
          go_simp
          exact HK.out
        · intro Lq wq xq hh
          have d1 : Erge 1 (xq 1) wq := hh.val 1 (by kernel_rfl) (by kernel_rfl)
          rw [Hrgee1.out] at d1
          simp only [hFrge, d1]
          clear d1
          refine .inl ⟨rfl, ?_⟩
          unfold Reg.upon
          have hc : Crge Lq wq := hh.cls
          rw [HrgehC.out] at hc
          have y0 := hc.2.1.cell 0 _ rfl
          clear hc
          have hk := Hrgek.out 2 Lq wq (by decide)  hh.cls
          have hx := Hrgex.out wq
          have he : Erge 2 (.int .i64 r2) wq := by rw [Hrgee2.out]
          have HK := Lib.hid (And.intro hk (And.intro he hx))
          clear hk hx he
          go_simp
          exact HK.out
        · intro Lq wq xq hh
          simp only [hFrge]
          refine .inl ⟨rfl, ?_⟩
          unfold Reg.upon
          have hk := Hrgek.out 3 Lq wq (by decide)  hh.cls
          have hx := Hrgex.out wq
          have he : Erge 3 (.int .i64 top) wq := by rw [Hrgee3.out]
          have HK := Lib.hid (And.intro hk (And.intro he hx))
          clear hk hx he
          go_simp
          exact HK.out
        · intro Lq wq xq hh
          have d2 : Erge 2 (xq 2) wq := hh.val 2 (by kernel_rfl) (by kernel_rfl)
          rw [Hrgee2.out] at d2
          have d3 : Erge 3 (xq 3) wq := hh.val 3 (by kernel_rfl) (by kernel_rfl)
          rw [Hrgee3.out] at d3
          simp only [hFrge, d2, d3]
          clear d2 d3
          refine .inl ⟨rfl, ?_⟩
          unfold Reg.upon
          have hk := Hrgek.out 4 Lq wq (by decide)  hh.cls
          have hx := Hrgex.out wq
          have he : Erge 4 (.int .i64 ra) wq := by rw [Hrgee4.out]
          have HK := Lib.hid (And.intro hk (And.intro he hx))
          clear hk hx he
          go_simp
          exact HK.out
        · intro Lq wq xq hh
          simp only [hFrge]
          refine .inl ⟨rfl, ?_⟩
          unfold Reg.upon
          have hk := Hrgek.out 5 Lq wq (by decide)  hh.cls
          have hx := Hrgex.out wq
          have he : Erge 5 (.pointer (some ⟨g6, 1, none⟩)) wq := by rw [Hrgee5.out]
          have HK := Lib.hid (And.intro hk (And.intro he hx))
          clear hk hx he
          go_simp
          exact HK.out
        · intro Lq wq xq hh
          have d5 : Erge 5 (xq 5) wq := hh.val 5 (by kernel_rfl) (by kernel_rfl)
          rw [Hrgee5.out] at d5
          simp only [hFrge, d5]
          clear d5
          refine .inl ⟨rfl, ?_⟩
          unfold Reg.upon
          have hc : Crge Lq wq := hh.cls
          rw [HrgehC.out] at hc
          have y0 := hc.2.1.cell 1 _ rfl
          clear hc
          have hk := Hrgek.out 6 Lq wq (by decide)  hh.cls
          have hx := Hrgex.out wq
          have he : Erge 6 (.int .i64 c2) wq := by rw [Hrgee6.out]
          have HK := Lib.hid (And.intro hk (And.intro he hx))
          clear hk hx he
          go_simp
          exact HK.out
        · intro Lq wq xq hh
          simp only [hFrge]
          refine .inl ⟨rfl, ?_⟩
          unfold Reg.upon
          have hk := Hrgek.out 7 Lq wq (by decide)  hh.cls
          have hx := Hrgex.out wq
          have he : Erge 7 (.pointer (some ⟨g2, 0, none⟩)) wq := by rw [Hrgee7.out]
          have HK := Lib.hid (And.intro hk (And.intro he hx))
          clear hk hx he
          go_simp
          exact HK.out
        · intro Lq wq xq hh
          have d7 : Erge 7 (xq 7) wq := hh.val 7 (by kernel_rfl) (by kernel_rfl)
          rw [Hrgee7.out] at d7
          simp only [hFrge, d7]
          clear d7
          refine .inl ⟨rfl, ?_⟩
          unfold Reg.upon
          have hc : Crge Lq wq := hh.cls
          rw [HrgehC.out] at hc
          obtain ⟨⟨r9, c9, pd9, y0, _⟩, _⟩ := hc
          go_simp
          refine (gwide_any B g2 gr2 nw Rk wq y0.2.2.1).mono ?_
          rintro e w2 ⟨rfl, rfl⟩
          exact ⟨_, rfl, Hrgek.out 8 Lq wq (by decide)  hh.cls, (by rw [Hrgee8.out]; try rfl), Hrgex.out _⟩
        · intro Lq wq xq hh
          have d8 : Erge 8 (xq 8) wq := hh.val 8 (by kernel_rfl) (by kernel_rfl)
          rw [Hrgee8.out] at d8
          simp only [hFrge, d8]
          clear d8
          refine .inl ⟨rfl, ?_⟩
          unfold Reg.upon
          have hk := Hrgek.out 9 Lq wq (by decide)  hh.cls
          have hx := Hrgex.out wq
          have he : Erge 9 (.int .i64 ((nw : Int) - 1)) wq := by rw [Hrgee9.out]
          have HK := Lib.hid (And.intro hk (And.intro he hx))
          clear hk hx he
          go_simp
          exact HK.out
        · intro Lq wq xq hh
          have d6 : Erge 6 (xq 6) wq := hh.val 6 (by kernel_rfl) (by kernel_rfl)
          rw [Hrgee6.out] at d6
          have d9 : Erge 9 (xq 9) wq := hh.val 9 (by kernel_rfl) (by kernel_rfl)
          rw [Hrgee9.out] at d9
          simp only [hFrge, d6, d9]
          clear d6 d9
          refine .inl ⟨rfl, ?_⟩
          unfold Reg.upon
          have hk := Hrgek.out 10 Lq wq (by decide)  hh.cls
          have hx := Hrgex.out wq
          have he : Erge 10 (.int .i64 cc) wq := by rw [Hrgee10.out]
          have HK := Lib.hid (And.intro hk (And.intro he hx))
          clear hk hx he
          go_simp
          exact HK.out
        · intro Lq wq xq hh
          have d4 : Erge 4 (xq 4) wq := hh.val 4 (by kernel_rfl) (by kernel_rfl)
          rw [Hrgee4.out] at d4
          have d10 : Erge 10 (xq 10) wq := hh.val 10 (by kernel_rfl) (by kernel_rfl)
          rw [Hrgee10.out] at d10
          simp only [hFrge, d4, d10]
          clear d4 d10
          refine .inl ⟨rfl, ?_⟩
          unfold Reg.upon
          have hk := Hrgek.out 11 Lq wq (by decide)  hh.cls
          have hx := Hrgex.out wq
          have he : Erge 11 (.agg #[.int .i64 ra, .int .i64 cc, .bool false]) wq := by rw [Hrgee11.out]
          have HK := Lib.hid (And.intro hk (And.intro he hx))
          clear hk hx he
          go_simp
          exact HK.out
        · intro Lq wq xq hh
          have d0 : Erge 0 (xq 0) wq := hh.val 0 (by kernel_rfl) (by kernel_rfl)
          rw [Hrgee0.out] at d0
          simp only [hFrge, d0]
          clear d0
          refine .inl ⟨rfl, ?_⟩
          unfold Reg.upon
          have hk := Hrgek.out 12 Lq wq (by decide)  hh.cls
          have hx := Hrgex.out wq
          have he : Erge 12 (.pointer (some ⟨gp, 0, none⟩)) wq := by rw [Hrgee12.out]
          have HK := Lib.hid (And.intro hk (And.intro he hx))
          clear hk hx he
          go_simp
          exact HK.out
        · intro Lq wq xq hh
          have d12 : Erge 12 (xq 12) wq := hh.val 12 (by kernel_rfl) (by kernel_rfl)
          rw [Hrgee12.out] at d12
          simp only [hFrge, d12]
          clear d12
          refine .inl ⟨rfl, ?_⟩
          unfold Reg.upon
          have hk := Hrgek.out 13 Lq wq (by decide)  hh.cls
          have hx := Hrgex.out wq
          have he : Erge 13 (.pointer (some ⟨gp, 1, none⟩)) wq := by rw [Hrgee13.out]
          have HK := Lib.hid (And.intro hk (And.intro he hx))
          clear hk hx he
          go_simp
          exact HK.out
        · intro Lq wq xq hh
          have d11 : Erge 11 (xq 11) wq := hh.val 11 (by kernel_rfl) (by kernel_rfl)
          rw [Hrgee11.out] at d11
          have d13 : Erge 13 (xq 13) wq := hh.val 13 (by kernel_rfl) (by kernel_rfl)
          rw [Hrgee13.out] at d13
          simp only [hFrge, d11, d13]
          clear d11 d13
          refine .inl ⟨rfl, ?_⟩
          unfold Reg.upon
          have hc : Crge Lq wq := hh.cls
          rw [HrgehC.out] at hc
          obtain ⟨⟨r9, c9, pd9, hz, hgz⟩, e2, e3, e4⟩ := hc
          have q1 := hz.1.cell 1 _ rfl
          have q2 := hz.1.cell 2 _ rfl
          have q3 := hz.1.cell 3 _ rfl
          have g1 := hz.1.free 1
          have g2 := hz.1.free 2
          have g3 := hz.1.free 3
          have hs := pen_set3 hz.1 (.int .i64 ra) (.int .i64 cc) (.bool false)
          have ht := hz.turn hs.1 hs.2
          have hgt := hgz.pen hz.notx (hgz.other hz.1 (by decide) (by decide) (by decide) (by decide)) hs.2
          have hF : Crge (Lq.setIfInBounds 14 true) (((wq.setCell ⟨gp, 1, none⟩ (.int .i64 ra)).setCell ⟨gp, 2, none⟩ (.int .i64 cc)).setCell ⟨gp, 3, none⟩ (.bool false)) := by
            rw [HrgehC.out]
            exact ⟨⟨_, _, _, ht, hgt⟩, hs.2.keep.has e2 (fun e => by subst e; exact other_type e2 hz.1 (by decide)), e3.trans (hs.2.mono fun b _ e => .inl e), fun _ => ht⟩
          have hE : Erge 14 undef (((wq.setCell ⟨gp, 1, none⟩ (.int .i64 ra)).setCell ⟨gp, 2, none⟩ (.int .i64 cc)).setCell ⟨gp, 3, none⟩ (.bool false)) := by rw [Hrgee14.out]
          have hX : Xrge wq (((wq.setCell ⟨gp, 1, none⟩ (.int .i64 ra)).setCell ⟨gp, 2, none⟩ (.int .i64 cc)).setCell ⟨gp, 3, none⟩ (.bool false)) := by rw [HrgehX.out]; trivial
          clear e2 e3 e4 hs ht hz hgz hgt
          go_simp
          exact ⟨hF, hE, hX⟩
      intro xq wrge hcrge hvrge
      rw [HrgehC.out] at hcrge
      simp only [hFrge]
      clear hvrge hFrge Hrgek Hrgex Hrgest Hrgec HrgehC HrgehX Hrgeb Hrgexb Hrgee0 Hrgee1 Hrgee2 Hrgee3 Hrgee4 Hrgee5 Hrgee6 Hrgee7 Hrgee8 Hrgee9 Hrgee10 Hrgee11 Hrgee12 Hrgee13 Hrgee14
      have HF := Lib.hid (hcrge.2.2.2 (by kernel_rfl))
      have HUF := Lib.hid hcrge.2.2.1
      have HGF := Lib.hid (show GridAt wrge w.heap.size g2 gr2 nw Rk from by obtain ⟨⟨_, _, _, _, h⟩, _⟩ := hcrge; exact h)
      clear hcrge
      go_wp2
      refine bodyPost_end (by kernel_rfl) rfl ⟨rfl, g2, gr2, Rk, ?_, HUF.out, HGF.out⟩
      rw [← HTOP.out, ← HKK.out, ← HCC.out, ← HRA.out]
      exact HF.out
theorem psize_any (B gp gg gr wd : Nat) (Rs : List Rw) (Ls : List Ln) (r c : Int) (pd au : Bool) (a b : Int) (w : World) (h : PenAt w B gp gg gr wd Rs Ls r c pd au) (hBw : B ≤ w.heap.size) (r2 c2 : Nat) (hr2 : inI r (sideI Ls.length) = (r2 : Int)) (hc2 : inI c (sideI wd) = (c2 : Int)) (hlr : r2 < Ls.length) (hlc : c2 < wd) (nw nh : Nat) (hnw : rowN a = nw) (hnh : rowN b = nh) :
    Calls Tryd.prog 11 #[.pointer (some ⟨gp, 0, none⟩), .int .i64 a, .int .i64 b] w (fun e w' => e = .returned (.tuple #[]) ∧ ∃ g2 gr2 R2, PenAt w' B gp g2 gr2 nw R2 (szL Ls nw nh (r2 + 1 - nh) (min nh (Ls.length - (r2 + 1 - nh)))) ((r2 - (r2 + 1 - nh) : Nat)) ((min c2 (nw - 1) : Nat)) false au ∧ Upd (fun x => x = gp ∨ w.heap.size ≤ x) w w') :=
  (psize_full B gp gg gr wd Rs Ls r c pd au a b w h hBw r2 c2 hr2 hc2 hlr hlc nw nh hnw hnh).mono fun _ _ ⟨e, g2, gr2, R2, k1, k2, _⟩ => ⟨e, g2, gr2, R2, k1, k2⟩
end Go.Proofs.YtgndolgihplngaaDoor
