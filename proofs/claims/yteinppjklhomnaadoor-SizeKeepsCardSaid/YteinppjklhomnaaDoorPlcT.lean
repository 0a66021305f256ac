/- The reference's pen: Paint. -/
import Derived.Test.YteinppjklhomnaaDoorMg8
import Derived.Test.YteinppjklhomnaaDoorRowR
namespace Go.Proofs.YteinppjklhomnaaDoor
open Go.RowKit Go.ChangeShapes Go.WideShapes
theorem lines_len {Z : Zone} {w : World} {v : Value} {L : List Ln} (h : HeldE lineE Z w v L) : ∃ ao cap, v = .slice ao L.length cap ∧ L.length ≤ cap ∧ ∀ i, i < L.length → ∃ b off cv, ao = some ⟨b, off, none⟩ ∧ b < w.heap.size ∧ Z b ∧ w.cell? ⟨b, off + i * 2, none⟩ = some cv ∧ w.cell? ⟨b, off + i * 2 + 1, none⟩ = some (.bool (L.getD i zl).2) ∧ HeldE cellE Z w cv (L.getD i zl).1 := by
  obtain ⟨ao, cap, rfl⟩ := h.len
  exact ⟨ao, cap, rfl, (lines_at h).2.1, (lines_at h).2.2⟩
/-- The result's box, five cells. -/
theorem pres_upd {W : World} (g : Nat) (a b c d e : Value) : Upd (fun x => x = g) W (((((W.setCell ⟨g, 0, none⟩ a).setCell ⟨g, 1, none⟩ b).setCell ⟨g, 2, none⟩ c).setCell ⟨g, 3, none⟩ d).setCell ⟨g, 4, none⟩ e) :=
  (((((Upd.refl (fun x => x = g) W).setCell (p := ⟨g, 0, none⟩) (.inl rfl) a).setCell (p := ⟨g, 1, none⟩) (.inl rfl) b).setCell (p := ⟨g, 2, none⟩) (.inl rfl) c).setCell (p := ⟨g, 3, none⟩) (.inl rfl) d).setCell (p := ⟨g, 4, none⟩) (.inl rfl) e
theorem pres_has {W : World} {g : Nat} {x0 x1 x2 x3 x4 : Value} (h : Has W g [x0, x1, x2, x3, x4] 31) (a b c d e : Value) : Has (((((W.setCell ⟨g, 0, none⟩ a).setCell ⟨g, 1, none⟩ b).setCell ⟨g, 2, none⟩ c).setCell ⟨g, 3, none⟩ d).setCell ⟨g, 4, none⟩ e) g [a, b, c, d, e] 31 := ((((h.set 0 a).set 1 b).set 2 c).set 3 d).set 4 e
set_option maxRecDepth 100000 in
set_option maxHeartbeats 3000000 in
theorem rpp_any (Z : Zone) (v : Value) (Ls : List Ln) (r c : Int) (pd au : Bool) (i a : Nat) (pv : Value) (p : List Cl) (w : World) (hv : HeldE lineE Z w v Ls) (hp : HeldE cellE Z w pv p) (hZ : ∀ b, Z b → b < w.heap.size) (hi : i < Ls.length) (hl : Ls.length ≤ 1000) (h0 : 0 < (Ls.getD i zl).1.length) (h1 : (Ls.getD i zl).1.length ≤ 1024) (hle : a + p.length ≤ (Ls.getD i zl).1.length) :
    Calls Tryd.prog 55 #[.agg #[v, .int .i64 r, .int .i64 c, .bool pd, .bool au], .int .i64 i, .int .i64 a, pv] w (RPen Z w (pntL Ls i a p) r c pd au) := by
  obtain ⟨ao, ca, rfl, hcap, hc⟩ := lines_len hv
  obtain ⟨b, off, cv, rfl, hbb, _, z0, z1, hz0⟩ := hc i hi
  obtain ⟨co, cc, rfl⟩ := hz0.len
  obtain ⟨po, pc, rfl⟩ := hp.len
  obtain ⟨pn, hpn⟩ : ∃ pn, pn = p.length := ⟨_, rfl⟩
  have hpl : pntL Ls i a p = Ls.set i (paintL (Ls.getD i zl).1 p a, (Ls.getD i zl).2 && !lastHit (Ls.getD i zl).1 p a) := rfl
  obtain ⟨⟨L, q⟩, hLq⟩ : ∃ y, y = Ls.getD i zl := ⟨_, rfl⟩
  rw [← hLq] at z0 z1 hz0 h0 h1 hle hpl
  simp only at z0 z1 hz0 h0 h1 hle hpl
  obtain ⟨W, hW, hb, hr, hl0⟩ := pboxes w (.slice (some ⟨b, off, none⟩) Ls.length ca) (.int .i64 r) (.int .i64 c) (.bool pd) (.bool au) (.slice none 0 0) (.int .i64 0) (.int .i64 0) (.bool false) (.bool false)
  have hs : W.heap.size = w.heap.size + 2 := by rw [hW]; simp
  have HB := Lib.hid hb
  have HR := Lib.hid hr
  have HL := Lib.hid hl0
  have HS := Lib.hid hs
  have HZ := Lib.hid hZ
  have HBB := Lib.hid (show b < W.heap.size from by omega)
  have Z0 := Lib.hid ((hl0.cell (p := ⟨b, off + i * 2, none⟩) hbb).trans z0)
  have Z1 := Lib.hid ((hl0.cell (p := ⟨b, off + i * 2 + 1, none⟩) hbb).trans z1)
  have HV := Lib.hid (hv.below hl0)
  have HPT := Lib.hid (show ∀ w' : World, Below W.heap.size W w' → Calls Tryd.prog 95 #[.slice co L.length cc, .bool q, .int .i64 a, .slice po p.length pc] w' (Painted (fun x => Z x ∨ W.heap.size ≤ x) w' (paintL L p a) (q && !lastHit L p a)) from fun w' hb' => rfpaint_any (fun x => Z x ∨ W.heap.size ≤ x) (.slice co L.length cc) (.slice po p.length pc) L p q a w' (fun x hx => .inr (Nat.le_trans hb'.size hx)) (((hz0.below hl0).below hb').zone fun x _ hz => .inl hz) (((hp.below hl0).below hb').zone fun x _ hz => .inl hz) h0 (by omega) hle)
  have HPL := Lib.hid hpl
  have HPN := Lib.hid (paint_len L p a)
  have HWT := Lib.hid (fun (w' : World) (v' : Value) (q' : Bool) (hb' : Below W.heap.size W w') (hc' : HeldE cellE (fun x => Z x ∨ (W.heap.size ≤ x ∧ x < w'.heap.size)) w' v' (paintL L p a)) => rpwith_any (fun x => Z x ∨ (W.heap.size ≤ x ∧ x < w'.heap.size)) (.slice (some ⟨b, off, none⟩) Ls.length ca) Ls r c pd au i v' (paintL L p a) q' w' (((hv.below hl0).below hb').zone fun x _ hz => .inl hz) hc' (fun x hx => by have := hb'.size; rcases hx with hx | hx; have := hZ x hx; omega; omega) hi hl)
  obtain ⟨n, hn⟩ : ∃ n, n = Ls.length := ⟨_, rfl⟩
  obtain ⟨ln, hln⟩ : ∃ ln, ln = L.length := ⟨_, rfl⟩
  rw [← hln] at HPT Z0 h0 h1 hle
  rw [← hn] at hW HB HWT hcap hi hl
  rw [← hpn] at HPT hle
  rw [← hn, ← hpn]
  obtain ⟨qq, hqq⟩ : ∃ qq, qq = (q && !lastHit L p a) := ⟨_, rfl⟩
  rw [← hqq] at HPT hpl
  obtain ⟨PL, hPL⟩ : ∃ PL, PL = paintL L p a := ⟨_, rfl⟩
  rw [← hPL] at HPT HWT hpl
  rw [hpl]
  have hii : (i : Int) < (n : Int) := by omega
  clear hv hc hz0 hp hb hr hl0 hs hZ hbb z0 z1 hLq hn hln hpn HPL hpl hqq hPL HPN
  go_enter Tryd.func55, Tryd.ntmps55
  go_upto_region 1 with (fail)
  rw [← hW]
  clear hW
  obtain ⟨Erg, hErg⟩ : ∃ EE : Nat → Value → World → Prop, EE = fun jj xx ww => match jj with
      | 0 => xx = .pointer (some ⟨w.heap.size, 0, none⟩)
      | 1 => xx = .slice (some ⟨b, off, none⟩) n ca
      | 2 => xx = .int .i64 i
      | 3 => xx = .pointer (some ⟨b, off + i * 2, none⟩)
      | 4 => xx = .pointer (some ⟨b, off + i * 2, none⟩)
      | 5 => xx = .slice co ln cc
      | 6 => xx = .pointer (some ⟨w.heap.size, 0, none⟩)
      | 7 => xx = .slice (some ⟨b, off, none⟩) n ca
      | 8 => xx = .int .i64 i
      | 9 => xx = .pointer (some ⟨b, off + i * 2, none⟩)
      | 10 => xx = .pointer (some ⟨b, off + i * 2 + 1, none⟩)
      | 11 => xx = .bool q
      | 12 => xx = .int .i64 a
      | 13 => xx = .slice po pn pc
      | 14 => (fun x w' => ∃ v', x = .tuple #[v', .bool qq] ∧ HeldE cellE (fun x => Z x ∨ W.heap.size ≤ x) w' v' PL) xx ww
      | 15 => (fun x w' => ∃ v', x = .tuple #[v', .bool qq] ∧ HeldE cellE (fun x => Z x ∨ W.heap.size ≤ x) w' v' PL) xx ww
      | 16 => (fun x w' => HeldE cellE (fun x => Z x ∨ W.heap.size ≤ x) w' x PL) xx ww
      | 17 => xx = .bool qq
      | 18 => (fun x w' => HeldE cellE (fun x => Z x ∨ W.heap.size ≤ x) w' x PL) xx ww
      | 19 => xx = .bool qq
      | _ => True := ⟨_, rfl⟩
  have erg0 : ∀ xx ww, Erg 0 xx ww = (xx = .pointer (some ⟨w.heap.size, 0, none⟩)) := fun xx ww => congrFun (congrFun (congrFun hErg 0) xx) ww
  have erg1 : ∀ xx ww, Erg 1 xx ww = (xx = .slice (some ⟨b, off, none⟩) n ca) := fun xx ww => congrFun (congrFun (congrFun hErg 1) xx) ww
  have erg2 : ∀ xx ww, Erg 2 xx ww = (xx = .int .i64 i) := fun xx ww => congrFun (congrFun (congrFun hErg 2) xx) ww
  have erg3 : ∀ xx ww, Erg 3 xx ww = (xx = .pointer (some ⟨b, off + i * 2, none⟩)) := fun xx ww => congrFun (congrFun (congrFun hErg 3) xx) ww
  have erg4 : ∀ xx ww, Erg 4 xx ww = (xx = .pointer (some ⟨b, off + i * 2, none⟩)) := fun xx ww => congrFun (congrFun (congrFun hErg 4) xx) ww
  have erg5 : ∀ xx ww, Erg 5 xx ww = (xx = .slice co ln cc) := fun xx ww => congrFun (congrFun (congrFun hErg 5) xx) ww
  have erg6 : ∀ xx ww, Erg 6 xx ww = (xx = .pointer (some ⟨w.heap.size, 0, none⟩)) := fun xx ww => congrFun (congrFun (congrFun hErg 6) xx) ww
  have erg7 : ∀ xx ww, Erg 7 xx ww = (xx = .slice (some ⟨b, off, none⟩) n ca) := fun xx ww => congrFun (congrFun (congrFun hErg 7) xx) ww
  have erg8 : ∀ xx ww, Erg 8 xx ww = (xx = .int .i64 i) := fun xx ww => congrFun (congrFun (congrFun hErg 8) xx) ww
  have erg9 : ∀ xx ww, Erg 9 xx ww = (xx = .pointer (some ⟨b, off + i * 2, none⟩)) := fun xx ww => congrFun (congrFun (congrFun hErg 9) xx) ww
  have erg10 : ∀ xx ww, Erg 10 xx ww = (xx = .pointer (some ⟨b, off + i * 2 + 1, none⟩)) := fun xx ww => congrFun (congrFun (congrFun hErg 10) xx) ww
  have erg11 : ∀ xx ww, Erg 11 xx ww = (xx = .bool q) := fun xx ww => congrFun (congrFun (congrFun hErg 11) xx) ww
  have erg12 : ∀ xx ww, Erg 12 xx ww = (xx = .int .i64 a) := fun xx ww => congrFun (congrFun (congrFun hErg 12) xx) ww
  have erg13 : ∀ xx ww, Erg 13 xx ww = (xx = .slice po pn pc) := fun xx ww => congrFun (congrFun (congrFun hErg 13) xx) ww
  have erg14 : ∀ xx ww, Erg 14 xx ww = ((fun x w' => ∃ v', x = .tuple #[v', .bool qq] ∧ HeldE cellE (fun x => Z x ∨ W.heap.size ≤ x) w' v' PL) xx ww) := fun xx ww => congrFun (congrFun (congrFun hErg 14) xx) ww
  have erg15 : ∀ xx ww, Erg 15 xx ww = ((fun x w' => ∃ v', x = .tuple #[v', .bool qq] ∧ HeldE cellE (fun x => Z x ∨ W.heap.size ≤ x) w' v' PL) xx ww) := fun xx ww => congrFun (congrFun (congrFun hErg 15) xx) ww
  have erg16 : ∀ xx ww, Erg 16 xx ww = ((fun x w' => HeldE cellE (fun x => Z x ∨ W.heap.size ≤ x) w' x PL) xx ww) := fun xx ww => congrFun (congrFun (congrFun hErg 16) xx) ww
  have erg17 : ∀ xx ww, Erg 17 xx ww = (xx = .bool qq) := fun xx ww => congrFun (congrFun (congrFun hErg 17) xx) ww
  have erg18 : ∀ xx ww, Erg 18 xx ww = ((fun x w' => HeldE cellE (fun x => Z x ∨ W.heap.size ≤ x) w' x PL) xx ww) := fun xx ww => congrFun (congrFun (congrFun hErg 18) xx) ww
  have erg19 : ∀ xx ww, Erg 19 xx ww = (xx = .bool qq) := fun xx ww => congrFun (congrFun (congrFun hErg 19) xx) ww
  obtain ⟨Crg, hCrg⟩ : ∃ CC : Array Bool → World → Prop, CC = fun L8 w' => Below W.heap.size W w' := ⟨_, rfl⟩
  have krg : ∀ i L w,  Crg L w → Crg (L.setIfInBounds i true) w := by
    intro i L w  h
    rw [hCrg] at h ⊢
    exact h
  obtain ⟨Xrg, hXrg⟩ : ∃ XX : World → World → Prop, XX = fun x y => Below x.heap.size x y := ⟨_, rfl⟩
  have xrg : ∀ w, Xrg w w := fun w => by rw [hXrg]; exact Below.refl _ _
  have strg : ∀ j x w w1, Xrg w w1 → Erg j x w → Erg j x w1 := by
    intro j x w w1 hx h
    rw [hXrg] at hx
    match j with
    | 0 => rw [erg0] at h ⊢; exact h
    | 1 => rw [erg1] at h ⊢; exact h
    | 2 => rw [erg2] at h ⊢; exact h
    | 3 => rw [erg3] at h ⊢; exact h
    | 4 => rw [erg4] at h ⊢; exact h
    | 5 => rw [erg5] at h ⊢; exact h
    | 6 => rw [erg6] at h ⊢; exact h
    | 7 => rw [erg7] at h ⊢; exact h
    | 8 => rw [erg8] at h ⊢; exact h
    | 9 => rw [erg9] at h ⊢; exact h
    | 10 => rw [erg10] at h ⊢; exact h
    | 11 => rw [erg11] at h ⊢; exact h
    | 12 => rw [erg12] at h ⊢; exact h
    | 13 => rw [erg13] at h ⊢; exact h
    | 14 => rw [erg14] at h ⊢; (first | exact HeldE.below h hx | (obtain ⟨v', e, h⟩ := h; exact ⟨v', e, HeldE.below h hx⟩))
    | 15 => rw [erg15] at h ⊢; (first | exact HeldE.below h hx | (obtain ⟨v', e, h⟩ := h; exact ⟨v', e, HeldE.below h hx⟩))
    | 16 => rw [erg16] at h ⊢; (first | exact HeldE.below h hx | (obtain ⟨v', e, h⟩ := h; exact ⟨v', e, HeldE.below h hx⟩))
    | 17 => rw [erg17] at h ⊢; exact h
    | 18 => rw [erg18] at h ⊢; (first | exact HeldE.below h hx | (obtain ⟨v', e, h⟩ := h; exact ⟨v', e, HeldE.below h hx⟩))
    | 19 => rw [erg19] at h ⊢; exact h
    | j + 20 => rw [hErg]; trivial
  have crg : Crg (Array.replicate 20 false) W.drew := by rw [hCrg]; exact (Below.refl _ _).drew
  have brg : ∀ L w w1, Crg L w → Below w.heap.size w w1 → Crg L w1 := by
    intro L w w1 h hb
    rw [hCrg] at h ⊢
    exact h.trans (hb.mono h.size)
  have xbrg : ∀ w w1, Below w.heap.size w w1 → Xrg w w1 := by
    intro w w1 hb
    rw [hXrg]
    exact hb
  have Hrgb := Lib.hid brg
  have Hrgxb := Lib.hid xbrg
  clear brg xbrg
  clear hErg
  have Hrgk := Lib.hid krg
  have Hrgx := Lib.hid xrg
  have Hrgst := Lib.hid strg
  have Hrgc := Lib.hid crg
  have HrghC := Lib.hid hCrg
  have HrghX := Lib.hid hXrg
  have Hrge0 := Lib.hid erg0
  have Hrge1 := Lib.hid erg1
  have Hrge2 := Lib.hid erg2
  have Hrge3 := Lib.hid erg3
  have Hrge4 := Lib.hid erg4
  have Hrge5 := Lib.hid erg5
  have Hrge6 := Lib.hid erg6
  have Hrge7 := Lib.hid erg7
  have Hrge8 := Lib.hid erg8
  have Hrge9 := Lib.hid erg9
  have Hrge10 := Lib.hid erg10
  have Hrge11 := Lib.hid erg11
  have Hrge12 := Lib.hid erg12
  have Hrge13 := Lib.hid erg13
  have Hrge14 := Lib.hid erg14
  have Hrge15 := Lib.hid erg15
  have Hrge16 := Lib.hid erg16
  have Hrge17 := Lib.hid erg17
  have Hrge18 := Lib.hid erg18
  have Hrge19 := Lib.hid erg19
  clear krg xrg strg crg hCrg hXrg erg0 erg1 erg2 erg3 erg4 erg5 erg6 erg7 erg8 erg9 erg10 erg11 erg12 erg13 erg14 erg15 erg16 erg17 erg18 erg19
  go_wp2_with fail
  refine Reg.regionF Erg Crg Xrg Hrgst.out (by kernel_rfl) (by kernel_rfl) (by kernel_rfl) Hrgc.out (fun Frg hFrg => ?_)
  simp only [Reg.frame, Reg.dsts, List.map_cons, List.map_nil, Mix.put_lit, List.set_cons_succ, List.set_cons_zero, Nat.zero_add, Nat.reduceAdd] at hFrg
  refine ⟨?_, ?_⟩
  · refine ⟨?_, ?_, ?_, ?_, ?_, ?_, ?_, ?_, ?_, ?_, ?_, ?_, ?_, ?_, ?_, ?_, ?_, ?_, ?_, ?_, trivial⟩
    · intro Lq wq xq hh
      simp only [hFrg]
      refine .inl ⟨rfl, ?_⟩
      unfold Reg.upon
      have hk := Hrgk.out 0 Lq wq  hh.cls
      have hx := Hrgx.out wq
      have he : Erg 0 (.pointer (some ⟨w.heap.size, 0, none⟩)) wq := by rw [Hrge0.out]
      have HK := Lib.hid (And.intro hk (And.intro he hx))
      clear hk hx he
      go_simp
      exact HK.out
    · intro Lq wq xq hh
      have d0 : Erg 0 (xq 0) wq := hh.val 0 (by kernel_rfl) (by kernel_rfl)
      rw [Hrge0.out] at d0
      simp only [hFrg, d0]
      clear d0
      refine .inl ⟨rfl, ?_⟩
      unfold Reg.upon
      have hc : Crg Lq wq := hh.cls
      rw [HrghC.out] at hc
      have q0 := (HB.out.below hc HB.out.lt).cell 0 _ rfl
      clear hc
      have hk := Hrgk.out 1 Lq wq  hh.cls
      have hx := Hrgx.out wq
      have he : Erg 1 (.slice (some ⟨b, off, none⟩) n ca) wq := by rw [Hrge1.out]
      have HK := Lib.hid (And.intro hk (And.intro he hx))
      clear hk hx he
      go_simp
      exact HK.out
    · intro Lq wq xq hh
      simp only [hFrg]
      refine .inl ⟨rfl, ?_⟩
      unfold Reg.upon
      have hk := Hrgk.out 2 Lq wq  hh.cls
      have hx := Hrgx.out wq
      have he : Erg 2 (.int .i64 i) wq := by rw [Hrge2.out]
      have HK := Lib.hid (And.intro hk (And.intro he hx))
      clear hk hx he
      go_simp
      exact HK.out
    · intro Lq wq xq hh
      have d1 : Erg 1 (xq 1) wq := hh.val 1 (by kernel_rfl) (by kernel_rfl)
      rw [Hrge1.out] at d1
      have d2 : Erg 2 (xq 2) wq := hh.val 2 (by kernel_rfl) (by kernel_rfl)
      rw [Hrge2.out] at d2
      simp only [hFrg, d1, d2]
      clear d1 d2
      refine .inl ⟨rfl, ?_⟩
      unfold Reg.upon
      have hk := Hrgk.out 3 Lq wq  hh.cls
      have hx := Hrgx.out wq
      have he : Erg 3 (.pointer (some ⟨b, off + i * 2, none⟩)) wq := by rw [Hrge3.out]
      have HK := Lib.hid (And.intro hk (And.intro he hx))
      clear hk hx he
      go_simp
      exact HK.out
    · intro Lq wq xq hh
      have d3 : Erg 3 (xq 3) wq := hh.val 3 (by kernel_rfl) (by kernel_rfl)
      rw [Hrge3.out] at d3
      simp only [hFrg, d3]
      clear d3
      refine .inl ⟨rfl, ?_⟩
      unfold Reg.upon
      have hk := Hrgk.out 4 Lq wq  hh.cls
      have hx := Hrgx.out wq
      have he : Erg 4 (.pointer (some ⟨b, off + i * 2, none⟩)) wq := by rw [Hrge4.out]
      have HK := Lib.hid (And.intro hk (And.intro he hx))
      clear hk hx he
      go_simp
      exact HK.out
    · intro Lq wq xq hh
      have d4 : Erg 4 (xq 4) wq := hh.val 4 (by kernel_rfl) (by kernel_rfl)
      rw [Hrge4.out] at d4
      simp only [hFrg, d4]
      clear d4
      refine .inl ⟨rfl, ?_⟩
      unfold Reg.upon
      have hc : Crg Lq wq := hh.cls
      rw [HrghC.out] at hc
      have q0 := (hc.cell (p := ⟨b, off + i * 2, none⟩) HBB.out).trans Z0.out
      clear hc
      have hk := Hrgk.out 5 Lq wq  hh.cls
      have hx := Hrgx.out wq
      have he : Erg 5 (.slice co ln cc) wq := by rw [Hrge5.out]
      have HK := Lib.hid (And.intro hk (And.intro he hx))
      clear hk hx he
      go_simp
      exact HK.out
    · intro Lq wq xq hh
      simp only [hFrg]
      refine .inl ⟨rfl, ?_⟩
      unfold Reg.upon
      have hk := Hrgk.out 6 Lq wq  hh.cls
      have hx := Hrgx.out wq
      have he : Erg 6 (.pointer (some ⟨w.heap.size, 0, none⟩)) wq := by rw [Hrge6.out]
      have HK := Lib.hid (And.intro hk (And.intro he hx))
      clear hk hx he
      go_simp
      exact HK.out
    · intro Lq wq xq hh
      have d6 : Erg 6 (xq 6) wq := hh.val 6 (by kernel_rfl) (by kernel_rfl)
      rw [Hrge6.out] at d6
      simp only [hFrg, d6]
      clear d6
      refine .inl ⟨rfl, ?_⟩
      unfold Reg.upon
      have hc : Crg Lq wq := hh.cls
      rw [HrghC.out] at hc
      have q0 := (HB.out.below hc HB.out.lt).cell 0 _ rfl
      clear hc
      have hk := Hrgk.out 7 Lq wq  hh.cls
      have hx := Hrgx.out wq
      have he : Erg 7 (.slice (some ⟨b, off, none⟩) n ca) wq := by rw [Hrge7.out]
      have HK := Lib.hid (And.intro hk (And.intro he hx))
      clear hk hx he
      go_simp
      exact HK.out
    · intro Lq wq xq hh
      simp only [hFrg]
      refine .inl ⟨rfl, ?_⟩
      unfold Reg.upon
      have hk := Hrgk.out 8 Lq wq  hh.cls
      have hx := Hrgx.out wq
      have he : Erg 8 (.int .i64 i) wq := by rw [Hrge8.out]
      have HK := Lib.hid (And.intro hk (And.intro he hx))
      clear hk hx he
      go_simp
      exact HK.out
    · intro Lq wq xq hh
      have d7 : Erg 7 (xq 7) wq := hh.val 7 (by kernel_rfl) (by kernel_rfl)
      rw [Hrge7.out] at d7
      have d8 : Erg 8 (xq 8) wq := hh.val 8 (by kernel_rfl) (by kernel_rfl)
      rw [Hrge8.out] at d8
      simp only [hFrg, d7, d8]
      clear d7 d8
      refine .inl ⟨rfl, ?_⟩
      unfold Reg.upon
      have hk := Hrgk.out 9 Lq wq  hh.cls
      have hx := Hrgx.out wq
      have he : Erg 9 (.pointer (some ⟨b, off + i * 2, none⟩)) wq := by rw [Hrge9.out]
      have HK := Lib.hid (And.intro hk (And.intro he hx))
      clear hk hx he
      go_simp
      exact HK.out
    · intro Lq wq xq hh
      have d9 : Erg 9 (xq 9) wq := hh.val 9 (by kernel_rfl) (by kernel_rfl)
      rw [Hrge9.out] at d9
      simp only [hFrg, d9]
      clear d9
      refine .inl ⟨rfl, ?_⟩
      unfold Reg.upon
      have hk := Hrgk.out 10 Lq wq  hh.cls
      have hx := Hrgx.out wq
      have he : Erg 10 (.pointer (some ⟨b, off + i * 2 + 1, none⟩)) wq := by rw [Hrge10.out]
      have HK := Lib.hid (And.intro hk (And.intro he hx))
      clear hk hx he
      go_simp
      exact HK.out
    · intro Lq wq xq hh
      have d10 : Erg 10 (xq 10) wq := hh.val 10 (by kernel_rfl) (by kernel_rfl)
      rw [Hrge10.out] at d10
      simp only [hFrg, d10]
      clear d10
      refine .inl ⟨rfl, ?_⟩
      unfold Reg.upon
      have hc : Crg Lq wq := hh.cls
      rw [HrghC.out] at hc
      have q0 := (hc.cell (p := ⟨b, off + i * 2 + 1, none⟩) HBB.out).trans Z1.out
      clear hc
      have hk := Hrgk.out 11 Lq wq  hh.cls
      have hx := Hrgx.out wq
      have he : Erg 11 (.bool q) wq := by rw [Hrge11.out]
      have HK := Lib.hid (And.intro hk (And.intro he hx))
      clear hk hx he
      go_simp
      exact HK.out
    · intro Lq wq xq hh
      simp only [hFrg]
      refine .inl ⟨rfl, ?_⟩
      unfold Reg.upon
      have hk := Hrgk.out 12 Lq wq  hh.cls
      have hx := Hrgx.out wq
      have he : Erg 12 (.int .i64 a) wq := by rw [Hrge12.out]
      have HK := Lib.hid (And.intro hk (And.intro he hx))
      clear hk hx he
      go_simp
      exact HK.out
    · intro Lq wq xq hh
      simp only [hFrg]
      refine .inl ⟨rfl, ?_⟩
      unfold Reg.upon
      have hk := Hrgk.out 13 Lq wq  hh.cls
      have hx := Hrgx.out wq
      have he : Erg 13 (.slice po pn pc) wq := by rw [Hrge13.out]
      have HK := Lib.hid (And.intro hk (And.intro he hx))
      clear hk hx he
      go_simp
      exact HK.out
    · intro Lq wq xq hh
      have d5 : Erg 5 (xq 5) wq := hh.val 5 (by kernel_rfl) (by kernel_rfl)
      rw [Hrge5.out] at d5
      have d11 : Erg 11 (xq 11) wq := hh.val 11 (by kernel_rfl) (by kernel_rfl)
      rw [Hrge11.out] at d11
      have d12 : Erg 12 (xq 12) wq := hh.val 12 (by kernel_rfl) (by kernel_rfl)
      rw [Hrge12.out] at d12
      have d13 : Erg 13 (xq 13) wq := hh.val 13 (by kernel_rfl) (by kernel_rfl)
      rw [Hrge13.out] at d13
      simp only [hFrg, d5, d11, d12, d13]
      clear d5 d11 d12 d13
      refine .inl ⟨rfl, ?_⟩
      unfold Reg.upon
      have hc : Crg Lq wq := hh.cls
      rw [HrghC.out] at hc
      go_simp
      refine (HPT.out wq hc).mono ?_
      rintro e w2 ⟨v2, rfl, ho2, hb2⟩
      exact ⟨_, rfl, Hrgk.out 14 Lq w2 (Hrgb.out Lq wq w2 hh.cls hb2), (by rw [Hrge14.out]; exact ⟨v2, rfl, ho2.held fun x hx _ => .inr (Nat.le_trans hc.size hx)⟩), Hrgxb.out wq w2 hb2⟩
    · intro Lq wq xq hh
      have d14 : Erg 14 (xq 14) wq := hh.val 14 (by kernel_rfl) (by kernel_rfl)
      rw [Hrge14.out] at d14
      simp only [hFrg]
      refine .inl ⟨rfl, ?_⟩
      unfold Reg.upon
      go_simp
      exact ⟨Hrgk.out 15 Lq wq hh.cls, (by rw [Hrge15.out]; exact d14), Hrgx.out _⟩
    · intro Lq wq xq hh
      have d15 : Erg 15 (xq 15) wq := hh.val 15 (by kernel_rfl) (by kernel_rfl)
      rw [Hrge15.out] at d15
      simp only [hFrg]
      refine .inl ⟨rfl, ?_⟩
      unfold Reg.upon
      obtain ⟨v9, e9, h9⟩ := d15
      rw [e9]
      go_simp
      exact ⟨Hrgk.out 16 Lq wq hh.cls, (by rw [Hrge16.out]; exact h9), Hrgx.out _⟩
    · intro Lq wq xq hh
      have d15 : Erg 15 (xq 15) wq := hh.val 15 (by kernel_rfl) (by kernel_rfl)
      rw [Hrge15.out] at d15
      simp only [hFrg]
      refine .inl ⟨rfl, ?_⟩
      unfold Reg.upon
      obtain ⟨v9, e9, h9⟩ := d15
      rw [e9]
      go_simp
      exact ⟨Hrgk.out 17 Lq wq hh.cls, (by rw [Hrge17.out]), Hrgx.out _⟩
    · intro Lq wq xq hh
      have d16 : Erg 16 (xq 16) wq := hh.val 16 (by kernel_rfl) (by kernel_rfl)
      rw [Hrge16.out] at d16
      simp only [hFrg]
      refine .inl ⟨rfl, ?_⟩
      unfold Reg.upon
      go_simp
      exact ⟨Hrgk.out 18 Lq wq hh.cls, (by rw [Hrge18.out]; exact d16), Hrgx.out _⟩
    · intro Lq wq xq hh
      have d17 : Erg 17 (xq 17) wq := hh.val 17 (by kernel_rfl) (by kernel_rfl)
      rw [Hrge17.out] at d17
      simp only [hFrg, d17]
      clear d17
      refine .inl ⟨rfl, ?_⟩
      unfold Reg.upon
      have hk := Hrgk.out 19 Lq wq  hh.cls
      have hx := Hrgx.out wq
      have he : Erg 19 (.bool qq) wq := by rw [Hrge19.out]
      have HK := Lib.hid (And.intro hk (And.intro he hx))
      clear hk hx he
      go_simp
      exact HK.out
  intro xq wrg hcrg hvrg
  rw [HrghC.out] at hcrg
  simp only [hFrg]
  have vrg18 : Erg 18 (xq 18) wrg := hvrg 18 (by decide)
  rw [Hrge18.out] at vrg18
  have vrg19 : Erg 19 (xq 19) wrg := hvrg 19 (by decide)
  rw [Hrge19.out] at vrg19
  rw [vrg19]
  clear hvrg hFrg Hrgk Hrgx Hrgst Hrgc HrghC HrghX Hrgb Hrgxb Hrge0 Hrge1 Hrge2 Hrge3 Hrge4 Hrge5 Hrge6 Hrge7 Hrge8 Hrge9 Hrge10 Hrge11 Hrge12 Hrge13 Hrge14 Hrge15 Hrge16 Hrge17 Hrge18 Hrge19
  have hw := HWT.out wrg (xq 18) qq hcrg (vrg18.zone fun x hx hz => by rcases hz with hz | hz; exact .inl hz; exact .inr ⟨hz, hx⟩)
  obtain ⟨xo, xc, ex⟩ := vrg18.len
  rw [ex] at hw ⊢
  have hb1 := HB.out.below hcrg HB.out.lt
  have HR1 := Lib.hid (HR.out.below hcrg HR.out.lt)
  have HC1 := Lib.hid hcrg
  have c0 := hb1.cell 0 _ rfl
  have c1 := hb1.cell 1 _ rfl
  have c2 := hb1.cell 2 _ rfl
  have c3 := hb1.cell 3 _ rfl
  have c4 := hb1.cell 4 _ rfl
  clear hcrg vrg18 vrg19 hb1 ex
  go_wp2_with fail
  refine hw.mono ?_
  rintro e w5 ⟨v5, rfl, h5, b5⟩
  obtain ⟨o5, p5, ev5⟩ := h5.len
  clear c0 c1 c2 c3 c4 hw
  have hr5 := HR1.out.below b5 HR1.out.lt
  have hl5 : Below w.heap.size w w5 := (HL.out.trans (HC1.out.mono HL.out.size)).trans (b5.mono (Nat.le_trans HL.out.size HC1.out.size))
  have hs1 := HC1.out.size
  have k0 := hr5.cell 0 _ rfl
  have k1 := hr5.cell 1 _ rfl
  have k2 := hr5.cell 2 _ rfl
  have k3 := hr5.cell 3 _ rfl
  have k4 := hr5.cell 4 _ rfl
  have g0 := hr5.free 0
  have g1 := hr5.free 1
  have g2 := hr5.free 2
  have g3 := hr5.free 3
  have g4 := hr5.free 4
  have hlt := hr5.lt
  have hbl := pres (g := w.heap.size + 1) hl5 (by omega) v5 (.int .i64 r) (.int .i64 c) (.bool pd) (.bool au)
  have hhe := (h5.upd (pres_upd (w.heap.size + 1) v5 (.int .i64 r) (.int .i64 c) (.bool pd) (.bool au)) (fun x hx e => by
    have := HS.out
    rcases hx with (hx | hx) | hx
    · have := HZ.out x hx; omega
    · omega
    · omega)).zone (Y := fun x => Z x ∨ (w.heap.size ≤ x ∧ x < (((((w5.setCell ⟨w.heap.size + 1, 0, none⟩ v5).setCell ⟨w.heap.size + 1, 1, none⟩ (.int .i64 r)).setCell ⟨w.heap.size + 1, 2, none⟩ (.int .i64 c)).setCell ⟨w.heap.size + 1, 3, none⟩ (.bool pd)).setCell ⟨w.heap.size + 1, 4, none⟩ (.bool au)).heap.size)) (fun x hlt hx => by
    have := HS.out
    rcases hx with (hx | hx) | hx
    · exact .inl hx
    · exact .inr ⟨by omega, hlt⟩
    · exact .inr ⟨by omega, hlt⟩)
  have HF := Lib.hid (And.intro hhe hbl)
  clear hhe hbl hr5 hl5 h5 b5
  rw [List.length_set] at ev5
  subst ev5
  go_wp2
  exact bodyPost_ret (v := .agg #[.slice o5 Ls.length p5, .int .i64 r, .int .i64 c, .bool pd, .bool au]) (by simp [results, Tryd.results55, go_sem, k0, k1, k2, k3, k4]) rfl ⟨_, rfl, HF.out.1, HF.out.2⟩
end Go.Proofs.YteinppjklhomnaaDoor
