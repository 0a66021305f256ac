/- The reference's pen: GoOn. -/
import Derived.Test.YteinppjklhomnaaDoorPlcU
namespace Go.Proofs.YteinppjklhomnaaDoor
open Go.RowKit Go.ChangeShapes Go.WideShapes
theorem in_self {r n : Nat} (h : r < n) (hn : n ≤ 1024) : inI (r : Int) (sideI n) = (r : Int) := by
  have hs : sideI n = (n : Int) := by unfold sideI; omega
  rw [hs]
  unfold inI
  rw [if_neg (by omega), if_neg (by omega)]
theorem in_zero {n : Nat} (h : 0 < n) (hn : n ≤ 1024) : inI 0 (sideI n) = ((0 : Nat) : Int) := in_self (r := 0) h hn
set_option maxRecDepth 100000 in
set_option maxHeartbeats 3000000 in
theorem rpgo_any (Z : Zone) (v : Value) (Ls : List Ln) (r : Nat) (c : Int) (pd au : Bool) (w : World) (wd : Nat) (hv : HeldE lineE Z w v Ls) (hZ : ∀ b, Z b → b < w.heap.size) (hev : Even Ls wd) (hlt : r < Ls.length) :
    Calls Tryd.prog 54 #[.agg #[v, .int .i64 r, .int .i64 c, .bool pd, .bool au]] w (RPen Z w (goL Ls r) (downR Ls r : Nat) 0 false au) := by
  obtain ⟨ao, ca, rfl, hcap, hc⟩ := lines_len hv
  obtain ⟨b, off, cv, rfl, hbb, _, z0, z1, hz0⟩ := hc r hlt
  obtain ⟨co, cc, rfl⟩ := hz0.len
  obtain ⟨W, hW, hb, hr, hl0⟩ := pboxes w (.slice (some ⟨b, off, none⟩) Ls.length ca) (.int .i64 r) (.int .i64 c) (.bool pd) (.bool au) (.slice none 0 0) (.int .i64 0) (.int .i64 0) (.bool false) (.bool false)
  have hs : W.heap.size = w.heap.size + 2 := by rw [hW]; simp
  have HS := Lib.hid hs
  have HZ := Lib.hid hZ
  have HB := Lib.hid hb
  have HR := Lib.hid hr
  have HL := Lib.hid hl0
  have HEM := Lib.hid (hev.mark hlt)
  have HWT := Lib.hid (fun (w' : World) (hb' : Below W.heap.size W w') => rpwith_any Z (.slice (some ⟨b, off, none⟩) Ls.length ca) Ls r c pd au r (.slice co (Ls.getD r zl).1.length cc) (Ls.getD r zl).1 true w' ((hv.below hl0).below hb') ((hz0.below hl0).below hb') (fun x hx => by have := hb'.size; have := hZ x hx; omega) hlt hev.2.1)
  have HDR := Lib.hid (show downR (markL Ls r) r = downR Ls r from by unfold downR; rw [mark_len])
  have HML := Lib.hid (show r < (markL Ls r).length from by rw [mark_len]; exact hlt)
  have HIN := Lib.hid (show inI (r : Int) (sideI (markL Ls r).length) = (r : Int) from by rw [mark_len]; exact in_self hlt (by have := hev.2.1; omega))
  have HI0 := Lib.hid (show inI 0 (sideI wd) = ((0 : Nat) : Int) from in_zero hev.2.2.1 hev.2.2.2.1)
  have e5 := ext_cell ((hl0.cell (p := ⟨b, off + r * 2, none⟩) hbb).trans z0)
  obtain ⟨n, hn⟩ : ∃ n, n = Ls.length := ⟨_, rfl⟩
  have HN := Lib.hid hn
  obtain ⟨m, hm⟩ : ∃ m, m = (Ls.getD r zl).1.length := ⟨_, rfl⟩
  rw [← hm] at HWT e5
  rw [← hn] at hW hb HB HWT hcap hlt ⊢
  have e0 := ext_cell (hb.cell 0 _ rfl)
  have e1 := ext_cell (hb.cell 1 _ rfl)
  have e2 := ext_cell (hb.cell 2 _ rfl)
  have e3 := ext_cell (hb.cell 3 _ rfl)
  have e4 := ext_cell (hb.cell 4 _ rfl)
  have hii : (r : Int) < (n : Int) := by omega
  have hrc : r < ca := by omega
  clear hv hZ hev hc hz0 z0 z1 hb hr hl0 hs hbb hn hm
  go_enter Tryd.func54, Tryd.ntmps54
  go_upto_region 1 with (fail)
  rw [← hW]
  clear hW
  refine wp_region_ext_tail 13 (by kernel_rfl) (by simp) (by kernel_rfl) (by kernel_rfl) (by kernel_rfl) (by kernel_rfl) (by kernel_rfl) ?_
  simp only [List.take_succ_cons, List.take_zero, List.drop_succ_cons, List.drop_zero]
  repeat (go_big_quiet_step ((fail)))
  refine wpQuiet_nil ?_
  intro _ hw'
  obtain ⟨u, hw''⟩ := hw'
  subst hw''
  obtain ⟨W1, hW1⟩ : ∃ W1, W1 = ext W u := ⟨_, rfl⟩
  have hbu : Below W.heap.size W W1 := by rw [hW1]; exact u.ok
  have hw := HWT.out W1 hbu
  have HB1 := Lib.hid (HB.out.below hbu HB.out.lt)
  have HR1 := Lib.hid (HR.out.below hbu HR.out.lt)
  have HL1 := Lib.hid (HL.out.trans (hbu.mono HL.out.size))
  have HS1 := Lib.hid (show w.heap.size + 2 ≤ W1.heap.size from by have := hbu.size; have := HS.out; omega)
  rw [← hW1]
  clear hbu hW1 e0 e1 e2 e3 e4 e5
  go_wp2_with fail
  refine hw.mono ?_
  rintro e w2 ⟨v2, rfl, h2, b2⟩
  rw [show Ls.set r ((Ls.getD r zl).1, true) = markL Ls r from rfl] at h2
  obtain ⟨o2, p2, ev2⟩ := h2.len
  rw [mark_len, ← HN.out] at ev2
  subst ev2
  have h1 := HB1.out.below b2 HB1.out.lt
  have r1 := HR1.out.below b2 HR1.out.lt
  have l1 := HL1.out.trans (b2.mono HL1.out.size)
  have hs2 := b2.size
  have c0 := h1.cell 0 _ rfl
  have c1 := h1.cell 1 _ rfl
  have c2' := h1.cell 2 _ rfl
  have c3 := h1.cell 3 _ rfl
  have c4 := h1.cell 4 _ rfl
  have f0 := h1.free 0
  have f1 := h1.free 1
  have f2 := h1.free 2
  have f3 := h1.free 3
  have f4 := h1.free 4
  have hv3 := h2.upd (pres_upd w.heap.size (.slice o2 n p2) (.int .i64 r) (.int .i64 c) (.bool pd) (.bool au)) (fun x hx e => by have := HS1.out; rcases hx with hx | hx; have := HZ.out x hx; omega; omega)
  have h3 := pres_has h1 (.slice o2 n p2) (.int .i64 r) (.int .i64 c) (.bool pd) (.bool au)
  have hu3 := pres_upd (W := w2) w.heap.size (.slice o2 n p2) (.int .i64 r) (.int .i64 c) (.bool pd) (.bool au)
  have r3 := hu3.keep.has r1 (fun e => by omega)
  have l3 := pres (g := w.heap.size) l1 (Nat.le_refl _) (.slice o2 n p2) (.int .i64 r) (.int .i64 c) (.bool pd) (.bool au)
  have hsz3 := hu3.size
  obtain ⟨W3, hW3⟩ : ∃ W3, W3 = (((((w2.setCell ⟨w.heap.size, 0, none⟩ (.slice o2 n p2)).setCell ⟨w.heap.size, 1, none⟩ (.int .i64 r)).setCell ⟨w.heap.size, 2, none⟩ (.int .i64 c)).setCell ⟨w.heap.size, 3, none⟩ (.bool pd)).setCell ⟨w.heap.size, 4, none⟩ (.bool au)) := ⟨_, rfl⟩
  rw [← hW3] at hv3 h3 r3 l3 hsz3
  obtain ⟨W4, hW4, h4, r4, l4, u4⟩ := pturn h3 r3 l3 (Nat.le_refl _) (.int .i64 r) (.int .i64 0) (.bool false)
  have hv4 := hv3.upd u4 (fun x hx e => by have := HS1.out; rcases hx with hx | hx; have := HZ.out x hx; omega; omega)
  have HS4 := Lib.hid (show w2.heap.size ≤ W4.heap.size from by have := u4.size; omega)
  have HS2 := Lib.hid hs2
  have q1 := h3.cell 1 _ rfl
  have s1 := h3.free 1
  have s2 := h3.free 2
  have s3 := h3.free 3
  have q2 := h3.cell 2 _ rfl
  have q3 := h3.cell 3 _ rfl
  have hnl := rpnl_any (fun x => Z x ∨ (W1.heap.size ≤ x ∧ x < w2.heap.size)) (.slice o2 n p2) (markL Ls r) r 0 false au W4 wd hv4 (fun x hx => by have := HS4.out; have := HS2.out; have := HS1.out; rcases hx with hx | hx; have := HZ.out x hx; omega; omega) HEM.out r 0 HIN.out HI0.out HML.out
  rw [HDR.out] at hnl
  have HNL := Lib.hid hnl
  have HB4 := Lib.hid h4
  have HR4 := Lib.hid r4
  have HL4 := Lib.hid l4
  have HW4 := Lib.hid hW4
  clear h1 r1 l1 hv3 h3 r3 l3 u4 hv4 h4 r4 l4 hW4 hnl h2 b2 hw hu3 HB HR HL HB1 HR1 HL1 HWT hs2
  go_upto_region 2 with (fail)
  rw [← hW3]
  clear c0 c1 c2' c3 c4 f0 f1 f2 f3 f4 hW3
  go_upto_region 3 with (fail)
  rw [← HW4.out]
  clear HW4 q1 q2 q3 s1 s2 s3
  have hb4 := HB4.out
  have c0 := hb4.cell 0 _ rfl
  have c1 := hb4.cell 1 _ rfl
  have c2' := hb4.cell 2 _ rfl
  have c3 := hb4.cell 3 _ rfl
  have c4 := hb4.cell 4 _ rfl
  clear hb4
  go_wp2_with fail
  refine HNL.out.mono ?_
  rintro e w6 ⟨v6, rfl, h6, b6⟩
  obtain ⟨o6, p6, ev6⟩ := h6.len
  rw [show (downL (markL Ls r) r).length = Ls.length from by rw [down_len, mark_len], ← HN.out] at ev6
  subst ev6
  have hb6 := HB4.out.below b6 HB4.out.lt
  have hr6 := HR4.out.below b6 HR4.out.lt
  have hl6 := HL4.out.trans (b6.mono HL4.out.size)
  have hs4 := HS4.out
  have hs2 := HS2.out
  have hs1 := HS1.out
  have HV6 := Lib.hid h6
  have HL6 := Lib.hid hl6
  clear c0 c1 c2' c3 c4 h6 b6 hl6
  have HE := Lib.hid (show goL Ls r = downL (markL Ls r) r ∧ True from ⟨rfl, trivial⟩)
  have c0 := hb6.cell 0 _ rfl
  have c1 := hb6.cell 1 _ rfl
  have c2' := hb6.cell 2 _ rfl
  have c3 := hb6.cell 3 _ rfl
  have c4 := hb6.cell 4 _ rfl
  have k0 := hr6.cell 0 _ rfl
  have k1 := hr6.cell 1 _ rfl
  have k2 := hr6.cell 2 _ rfl
  have k3 := hr6.cell 3 _ rfl
  have k4 := hr6.cell 4 _ rfl
  have g0 := hr6.free 0
  have g1 := hr6.free 1
  have g2 := hr6.free 2
  have g3 := hr6.free 3
  have g4 := hr6.free 4
  have hlt := hr6.lt
  have hbl := pres (g := w.heap.size + 1) HL6.out (by omega) (.slice o6 n p6) (.int .i64 (downR Ls r : Nat)) (.int .i64 0) (.bool false) (.bool au)
  have hhe := ((HV6.out).upd (pres_upd (w.heap.size + 1) (.slice o6 n p6) (.int .i64 (downR Ls r : Nat)) (.int .i64 0) (.bool false) (.bool au)) (fun x hx e => by
    have := HS.out
    rcases hx with (hx | hx) | hx
    · have := HZ.out x hx; omega
    · omega
    · omega)).zone (Y := fun x => Z x ∨ (w.heap.size ≤ x ∧ x < (((((w6.setCell ⟨w.heap.size + 1, 0, none⟩ (.slice o6 n p6)).setCell ⟨w.heap.size + 1, 1, none⟩ (.int .i64 (downR Ls r : Nat))).setCell ⟨w.heap.size + 1, 2, none⟩ (.int .i64 0)).setCell ⟨w.heap.size + 1, 3, none⟩ (.bool false)).setCell ⟨w.heap.size + 1, 4, none⟩ (.bool au)).heap.size)) (fun x hlt hx => by
    have := HS.out
    rcases hx with (hx | hx) | hx
    · exact .inl hx
    · exact .inr ⟨by omega, hlt⟩
    · exact .inr ⟨by omega, hlt⟩)
  have HF := Lib.hid (And.intro hhe hbl)
  clear hhe hbl
  go_wp2
  exact bodyPost_ret (v := .agg #[.slice o6 n p6, .int .i64 (downR Ls r : Nat), .int .i64 0, .bool false, .bool au]) (by simp [results, Tryd.results54, go_sem, k0, k1, k2, k3, k4]) rfl ⟨.slice o6 n p6, rfl, by rw [HE.out.1]; exact HF.out.1, HF.out.2⟩
end Go.Proofs.YteinppjklhomnaaDoor
