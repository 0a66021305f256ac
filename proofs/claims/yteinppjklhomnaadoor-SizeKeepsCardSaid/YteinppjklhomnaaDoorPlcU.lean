/- The reference's pen: NewLine, GoOn. -/
import Derived.Test.YteinppjklhomnaaDoorPlcT
import Derived.Test.YteinppjklhomnaaDoorPlcC
namespace Go.Proofs.YteinppjklhomnaaDoor
open Go.RowKit Go.ChangeShapes Go.WideShapes
set_option maxRecDepth 100000 in
set_option maxHeartbeats 3000000 in
theorem rpnl_any (Z : Zone) (v : Value) (Ls : List Ln) (r c : Int) (pd au : Bool) (w : World) (wd : Nat) (hv : HeldE lineE Z w v Ls) (hZ : ∀ b, Z b → b < w.heap.size) (hev : Even Ls wd) (r2 c2 : Nat) (hr2 : inI r (sideI Ls.length) = (r2 : Int)) (hc2 : inI c (sideI wd) = (c2 : Int)) (hlt : r2 < Ls.length) :
    Calls Tryd.prog 16 #[.agg #[v, .int .i64 r, .int .i64 c, .bool pd, .bool au]] w (RPen Z w (downL Ls r2) (downR Ls r2 : Nat) c2 false au) := by
  obtain ⟨ao, ca, rfl⟩ := hv.len
  obtain ⟨W, hW, hb, hr, hl0⟩ := pboxes w (.slice ao Ls.length ca) (.int .i64 r) (.int .i64 c) (.bool pd) (.bool au) (.slice none 0 0) (.int .i64 0) (.int .i64 0) (.bool false) (.bool false)
  have hs : W.heap.size = w.heap.size + 2 := by rw [hW]; simp
  have HV := Lib.hid (hv.below hl0)
  have HH := Lib.hid (rph_any Z (.slice ao Ls.length ca) Ls r c pd au W (hv.below hl0) hev.1 wd (hev.2.2.2.2 0 hev.1))
  rw [hr2, hc2] at HH
  obtain ⟨pd2, hpd⟩ : ∃ pd2, pd2 = holdP c pd wd := ⟨_, rfl⟩
  rw [← hpd] at HH
  have HB := Lib.hid hb
  have HR := Lib.hid hr
  have HL := Lib.hid hl0
  have HS := Lib.hid hs
  have HZ := Lib.hid hZ
  have HEV := Lib.hid hev
  obtain ⟨n, hn⟩ : ∃ n, n = Ls.length := ⟨_, rfl⟩
  have HN := Lib.hid hn
  rw [← hn] at hW hb HB HH HV hlt ⊢
  have c0 := hb.cell 0 _ rfl
  have c1 := hb.cell 1 _ rfl
  have c2' := hb.cell 2 _ rfl
  have c3 := hb.cell 3 _ rfl
  have c4 := hb.cell 4 _ rfl
  have hn1000 : n ≤ 1000 := by have := hev.2.1; omega
  clear hv hZ hev hr2 hc2 hb hr hl0 hs hpd hn
  go_enter Tryd.func16, Tryd.ntmps16
  go_upto_region 1 with (fail)
  rw [← hW]
  clear hW
  go_wp2_with fail
  refine HH.out.mono ?_
  rintro e w1 ⟨rfl, b1⟩
  clear c0 c1 c2' c3 c4
  have h1 := HB.out.below b1 HB.out.lt
  have r1 := HR.out.below b1 HR.out.lt
  have l1 : Below w.heap.size w w1 := HL.out.trans (b1.mono HL.out.size)
  have hs1 := b1.size
  have c0 := h1.cell 0 _ rfl
  have c1 := h1.cell 1 _ rfl
  have c2' := h1.cell 2 _ rfl
  have c3 := h1.cell 3 _ rfl
  have c4 := h1.cell 4 _ rfl
  have f0 := h1.free 0
  have f1 := h1.free 1
  have f2 := h1.free 2
  have f3 := h1.free 3
  have f4 := h1.free 4
  have hv2 := ((HV.out.below b1).upd (pres_upd w.heap.size (.slice ao n ca) (.int .i64 r2) (.int .i64 c2) (.bool pd2) (.bool au)) (fun x hx e => by have := HZ.out x hx; omega))
  have h2 := pres_has h1 (.slice ao n ca) (.int .i64 r2) (.int .i64 c2) (.bool pd2) (.bool au)
  have r2' := (pres_upd (W := w1) w.heap.size (.slice ao n ca) (.int .i64 r2) (.int .i64 c2) (.bool pd2) (.bool au)).keep.has r1 (fun e => by omega)
  have l2 := pres (g := w.heap.size) l1 (Nat.le_refl _) (.slice ao n ca) (.int .i64 r2) (.int .i64 c2) (.bool pd2) (.bool au)
  have hsz2 := (pres_upd (W := w1) w.heap.size (.slice ao n ca) (.int .i64 r2) (.int .i64 c2) (.bool pd2) (.bool au)).size
  obtain ⟨W2, hW2⟩ : ∃ W2, W2 = (((((w1.setCell ⟨w.heap.size, 0, none⟩ (.slice ao n ca)).setCell ⟨w.heap.size, 1, none⟩ (.int .i64 r2)).setCell ⟨w.heap.size, 2, none⟩ (.int .i64 c2)).setCell ⟨w.heap.size, 3, none⟩ (.bool pd2)).setCell ⟨w.heap.size, 4, none⟩ (.bool au)) := ⟨_, rfl⟩
  rw [← hW2] at hv2 h2 r2' l2 hsz2
  have hu3 := (Upd.refl (fun x => x = w.heap.size) W2).setCell (p := ⟨w.heap.size, 3, none⟩) (.inl rfl) (.bool false)
  have HV3 := Lib.hid (hv2.upd hu3 (fun x hx e => by have := HZ.out x hx; omega))
  have HB3 := Lib.hid (show Has (W2.setCell ⟨w.heap.size, 3, none⟩ (.bool false)) w.heap.size [.slice ao n ca, .int .i64 r2, .int .i64 c2, .bool false, .bool au] 31 from h2.set 3 _)
  have HR3 := Lib.hid (hu3.keep.has r2' (fun e => by omega))
  have HL3 := Lib.hid (l2.trans (((Upd.refl (fun b => w.heap.size ≤ b) W2).setCell (p := ⟨w.heap.size, 3, none⟩) (.inl (Nat.le_refl _)) (.bool false)).below l2.size fun _ e => e))
  have HS3 := Lib.hid (show w.heap.size + 2 ≤ (W2.setCell ⟨w.heap.size, 3, none⟩ (.bool false)).heap.size from by have := hu3.size; have := HS.out; omega)
  have p3 := h2.cell 3 _ rfl
  have s3 := h2.free 3
  clear h1 r1 l1 hv2 h2 r2' l2 hu3 b1 HB HR HV HL
  go_upto_region 2 with (fail)
  rw [← hW2]
  clear c0 c1 c2' c3 c4 f0 f1 f2 f3 f4 hW2
  go_upto_region 3 with (fail)
  obtain ⟨W3, hW3⟩ : ∃ W3, W3 = W2.setCell ⟨w.heap.size, 3, none⟩ (.bool false) := ⟨_, rfl⟩
  rw [← hW3] at HV3 HB3 HR3 HL3 HS3 ⊢
  clear hW3 p3 s3
  have q0 := HB3.out.cell 0 _ rfl
  have q1 := HB3.out.cell 1 _ rfl
  have s0 := HB3.out.free 0
  have s1 := HB3.out.free 1
  by_cases hm : r2 + 1 < n
  · have g1 : decide ((r2 : Int) + 1 < (n : Int)) = true := by rw [decide_eq_true_eq]; omega
    have hwr : IntKind.i64.wrap ((r2 : Int) + 1) = (r2 : Int) + 1 := by rw [IntKind.wrap_i64]; omega
    have HE := Lib.hid (down_more (show r2 + 1 < Ls.length from by rw [← HN.out]; exact hm))
    have hu4 := (Upd.refl (fun x => x = w.heap.size) W3).setCell (p := ⟨w.heap.size, 1, none⟩) (.inl rfl) (.int .i64 ((r2 : Int) + 1))
    have HV4 := Lib.hid (HV3.out.upd hu4 (fun x hx e => by have := HZ.out x hx; omega))
    have hb4 := (show Has (W3.setCell ⟨w.heap.size, 1, none⟩ (.int .i64 ((r2 : Int) + 1))) w.heap.size [.slice ao n ca, .int .i64 ((r2 : Int) + 1), .int .i64 c2, .bool false, .bool au] 31 from HB3.out.set 1 _)
    have hr4 := hu4.keep.has HR3.out (fun e => by omega)
    have hl4 := HL3.out.trans (((Upd.refl (fun b => w.heap.size ≤ b) W3).setCell (p := ⟨w.heap.size, 1, none⟩) (.inl (Nat.le_refl _)) (.int .i64 ((r2 : Int) + 1))).below HL3.out.size fun _ e => e)
    have HB4 := Lib.hid hb4
    have HR4 := Lib.hid hr4
    have HL4 := Lib.hid hl4
    clear hb4 hr4 hl4 hu4 hm
    go_upto_region 5 with (fail)
    obtain ⟨W4, hW4⟩ : ∃ W4, W4 = W3.setCell ⟨w.heap.size, 1, none⟩ (.int .i64 ((r2 : Int) + 1)) := ⟨_, rfl⟩
    rw [← hW4] at HV4 HB4 HR4 HL4 ⊢
    clear hW4 q0 q1 s0 s1
    have hb4 := HB4.out
    have hr4 := HR4.out
    have c0 := hb4.cell 0 _ rfl
    have c1 := hb4.cell 1 _ rfl
    have c2' := hb4.cell 2 _ rfl
    have c3 := hb4.cell 3 _ rfl
    have c4 := hb4.cell 4 _ rfl
    have k0 := hr4.cell 0 _ rfl
    have k1 := hr4.cell 1 _ rfl
    have k2 := hr4.cell 2 _ rfl
    have k3 := hr4.cell 3 _ rfl
    have k4 := hr4.cell 4 _ rfl
    have g0 := hr4.free 0
    have g1 := hr4.free 1
    have g2 := hr4.free 2
    have g3 := hr4.free 3
    have g4 := hr4.free 4
    have hlt := hr4.lt
    have hbl := pres (g := w.heap.size + 1) HL4.out (by omega) (.slice ao n ca) (.int .i64 ((r2 : Int) + 1)) (.int .i64 c2) (.bool false) (.bool au)
    have hhe := ((HV4.out).upd (pres_upd (w.heap.size + 1) (.slice ao n ca) (.int .i64 ((r2 : Int) + 1)) (.int .i64 c2) (.bool false) (.bool au)) (fun x hx e => by
      have := HS.out
      have := HZ.out x hx; omega)).zone (Y := fun x => Z x ∨ (w.heap.size ≤ x ∧ x < (((((W4.setCell ⟨w.heap.size + 1, 0, none⟩ (.slice ao n ca)).setCell ⟨w.heap.size + 1, 1, none⟩ (.int .i64 ((r2 : Int) + 1))).setCell ⟨w.heap.size + 1, 2, none⟩ (.int .i64 c2)).setCell ⟨w.heap.size + 1, 3, none⟩ (.bool false)).setCell ⟨w.heap.size + 1, 4, none⟩ (.bool au)).heap.size)) (fun x hlt hx => by
      have := HS.out
      exact .inl hx)
    have HF := Lib.hid (And.intro hhe hbl)
    clear hhe hbl
    go_wp2
    exact bodyPost_ret (v := .agg #[.slice ao n ca, .int .i64 ((r2 : Int) + 1), .int .i64 c2, .bool false, .bool au]) (by simp [results, Tryd.results16, go_sem, k0, k1, k2, k3, k4]) rfl ⟨.slice ao n ca, by rw [HE.out.2, show ((r2 + 1 : Nat) : Int) = (r2 : Int) + 1 from by omega], by rw [HE.out.1]; exact HF.out.1, HF.out.2⟩
  · have g1 : decide ((r2 : Int) + 1 < (n : Int)) = false := by rw [decide_eq_false_iff_not]; omega
    have hwr : IntKind.i64.wrap ((r2 : Int) + 1) = (r2 : Int) + 1 := by rw [IntKind.wrap_i64]; omega
    have HE := Lib.hid (down_end (show ¬ r2 + 1 < Ls.length from by rw [← HN.out]; exact hm))
    have hmv := rmove_all (.slice ao n ca) Z Ls 0 n 1 true W3 HV3.out (fun b hb => by have := HZ.out b hb; have := HS3.out; omega) HEV.out.2.1 HEV.out.short
    rw [HN.out] at hmv
    rw [HN.out] at q0 g1 ⊢
    go_wp2_with fail
    refine hmv.mono ?_
    rintro e w5 ⟨v5, rfl, h5, b5⟩
    obtain ⟨o5, p5, ev5⟩ := h5.len
    rw [mvd_len] at ev5
    subst ev5
    have hb5 := HB3.out.below b5 HB3.out.lt
    have hr5 := HR3.out.below b5 HR3.out.lt
    have hl5 := HL3.out.trans (b5.mono HL3.out.size)
    have hu6 := (Upd.refl (fun x => x = w.heap.size) w5).setCell (p := ⟨w.heap.size, 0, none⟩) (.inl rfl) (.slice o5 Ls.length p5)
    have HV6 := Lib.hid (h5.upd hu6 (fun x hx e => by have := HS3.out; rcases hx with hx | hx; have := HZ.out x hx; omega; omega))
    have HB6 := Lib.hid (show Has (w5.setCell ⟨w.heap.size, 0, none⟩ (.slice o5 Ls.length p5)) w.heap.size [.slice o5 Ls.length p5, .int .i64 r2, .int .i64 c2, .bool false, .bool au] 31 from hb5.set 0 _)
    have HR6 := Lib.hid (hu6.keep.has hr5 (fun e => by omega))
    have HL6 := Lib.hid (hl5.trans (((Upd.refl (fun b => w.heap.size ≤ b) w5).setCell (p := ⟨w.heap.size, 0, none⟩) (.inl (Nat.le_refl _)) (.slice o5 Ls.length p5)).below hl5.size fun _ e => e))
    have s0 := hb5.free 0
    have q0 := hb5.cell 0 _ rfl
    clear h5 b5 hb5 hr5 hl5 hu6 hmv q1 s1
    go_upto_region 7 with (fail)
    obtain ⟨W6, hW6⟩ : ∃ W6, W6 = w5.setCell ⟨w.heap.size, 0, none⟩ (.slice o5 Ls.length p5) := ⟨_, rfl⟩
    rw [← hW6] at HV6 HB6 HR6 HL6 ⊢
    clear hW6 q0 s0
    have hs3 := HS3.out
    have hb6 := HB6.out
    have hr6 := HR6.out
    have c0 := hb6.cell 0 _ rfl
    have c1 := hb6.cell 1 _ rfl
    have c2' := hb6.cell 2 _ rfl
    have c3 := hb6.cell 3 _ rfl
    have c4 := hb6.cell 4 _ rfl
    have k0 := hr6.cell 0 _ rfl
    have k1 := hr6.cell 1 _ rfl
    have k2 := hr6.cell 2 _ rfl
    have k3 := hr6.cell 3 _ rfl
    have k4 := hr6.cell 4 _ rfl
    have g0 := hr6.free 0
    have g1 := hr6.free 1
    have g2 := hr6.free 2
    have g3 := hr6.free 3
    have g4 := hr6.free 4
    have hlt := hr6.lt
    have hbl := pres (g := w.heap.size + 1) HL6.out (by omega) (.slice o5 Ls.length p5) (.int .i64 r2) (.int .i64 c2) (.bool false) (.bool au)
    have hhe := ((HV6.out).upd (pres_upd (w.heap.size + 1) (.slice o5 Ls.length p5) (.int .i64 r2) (.int .i64 c2) (.bool false) (.bool au)) (fun x hx e => by
      have := HS.out
      rcases hx with hx | hx; have := HZ.out x hx; omega; omega)).zone (Y := fun x => Z x ∨ (w.heap.size ≤ x ∧ x < (((((W6.setCell ⟨w.heap.size + 1, 0, none⟩ (.slice o5 Ls.length p5)).setCell ⟨w.heap.size + 1, 1, none⟩ (.int .i64 r2)).setCell ⟨w.heap.size + 1, 2, none⟩ (.int .i64 c2)).setCell ⟨w.heap.size + 1, 3, none⟩ (.bool false)).setCell ⟨w.heap.size + 1, 4, none⟩ (.bool au)).heap.size)) (fun x hlt hx => by
      have := HS.out
      rcases hx with hx | hx; exact .inl hx; exact .inr ⟨by omega, hlt⟩)
    have HF := Lib.hid (And.intro hhe hbl)
    clear hhe hbl
    go_wp2
    exact bodyPost_ret (v := .agg #[.slice o5 Ls.length p5, .int .i64 r2, .int .i64 c2, .bool false, .bool au]) (by simp [results, Tryd.results16, go_sem, k0, k1, k2, k3, k4]) rfl ⟨.slice o5 Ls.length p5, by rw [HE.out.2], by rw [HE.out.1]; exact HF.out.1, HF.out.2⟩
end Go.Proofs.YteinppjklhomnaaDoor
