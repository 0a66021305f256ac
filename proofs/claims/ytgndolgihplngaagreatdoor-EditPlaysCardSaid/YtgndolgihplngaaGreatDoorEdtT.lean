/- The reference's edits: Do. -/
import Derived.Test.YtgndolgihplngaaGreatDoorEdtS
import Derived.Test.YtgndolgihplngaaGreatDoorEdtD
import Derived.Test.YtgndolgihplngaaGreatDoorShfS
namespace Go.Proofs.YtgndolgihplngaaGreatDoor
open Go.RowKit Go.ChangeShapes Go.WideShapes
theorem rboxes3 (w : World) (a0 a1 a2 a3 a4 x0 x1 x2 x3 : Value) : ∃ W, W = ((w.alloc (.cells #[a0, a1, a2, a3, a4] 39)).alloc (.cells #[x0, x1, x2, x3] 43)).alloc (.cells #[Value.slice none 0 0, .int .i64 0, .int .i64 0, .bool false, .bool false] 39) ∧
    Has W w.heap.size [a0, a1, a2, a3, a4] 39 ∧ Has W (w.heap.size + 1) [x0, x1, x2, x3] 43 ∧ Has W (w.heap.size + 2) [Value.slice none 0 0, .int .i64 0, .int .i64 0, .bool false, .bool false] 39 ∧ Below w.heap.size w W := by
  refine ⟨_, rfl, ((Has.new w _ _).alloc _).alloc _, ?_, ?_, (((Below.refl _ _).alloc (Nat.le_refl _) _).alloc (by simp) _).alloc (by simp <;> omega) _⟩
  · have := Has.new (w.alloc (.cells #[a0, a1, a2, a3, a4] 39)) [x0, x1, x2, x3] 43
    exact Has.alloc (by simpa using this) _
  · have := Has.new ((w.alloc (.cells #[a0, a1, a2, a3, a4] 39)).alloc (.cells #[x0, x1, x2, x3] 43)) [Value.slice none 0 0, .int .i64 0, .int .i64 0, .bool false, .bool false] 39
    simpa using this
theorem set_self (Ls : List Ln) (i : Nat) (h : i < Ls.length) : Ls.set i (Ls.getD i zl) = Ls := by
  refine ln_ext (by rw [List.length_set]) (fun j hj => ?_)
  rw [set_at Ls i j _ h]
  split
  · rename_i e; rw [e]
  · rfl
theorem ins_cases (L : List Cl) (wrap : Bool) (c n : Int) : (doneB L c n = false ∧ insA L wrap c n = (L, wrap) ∧ delA L wrap c n = (L, wrap)) ∨ (doneB L c n = true ∧ insA L wrap c n = ((insA L wrap c n).1, false) ∧ delA L wrap c n = ((delA L wrap c n).1, false)) := by
  unfold doneB insA delA
  by_cases h : c < 0 ∨ (L.length : Int) ≤ c ∨ n < 1
  · left; simp [h]
  · right; simp [h]
set_option maxRecDepth 100000 in
set_option maxHeartbeats 12000000 in
theorem redo_any (Z : Zone) (v : Value) (Ls : List Ln) (r c : Int) (pd au : Bool) (K A C : Int) (bo : Option Addr) (bn bk : Nat) (w : World) (hv : HeldE lineE Z w v Ls) (hZ : ∀ b, Z b → b < w.heap.size) (wd : Nat) (hev : Even Ls wd) (r2 c2 : Nat) (hr2 : inI r (sideI Ls.length) = (r2 : Int)) (hc2 : inI c (sideI wd) = (c2 : Int)) (hlr : r2 < Ls.length) (hk : wrC K A = 0) :
    Calls Tryz.prog 8 #[.agg #[v, .int .i64 r, .int .i64 c, .bool pd, .bool au], .agg #[.int .i64 K, .int .i64 A, .int .i64 C, .slice bo bn bk]] w (RPen Z w (edL Ls r2 c2 K A) (edR r2 K A Ls.length) (edC c2 K C wd) false (edU K A au)) := by
  have hkk : 2 ≤ K ∧ K ≤ 12 ∧ ((K ≠ 3 ∧ K ≠ 4) ∨ (0 ≤ A ∧ A ≤ 2)) := by rcases wrC_cases K A with q | q | q <;> omega
  have HKK := Lib.hid hkk
  obtain ⟨ao, ca, rfl, hcap, hcl⟩ := lines_len hv
  obtain ⟨bL, oL, cv, rfl, hbL, _, z0, _, hcv⟩ := hcl r2 hlr
  obtain ⟨co, cc9, ecv⟩ := hcv.len
  rw [hev.2.2.2.2 r2 hlr] at ecv
  subst ecv
  obtain ⟨n, hn⟩ : ∃ n, n = Ls.length := ⟨_, rfl⟩
  obtain ⟨W, hW, hb, hx, hz, hl0⟩ := rboxes3 w (.slice (some ⟨bL, oL, none⟩) Ls.length ca) (.int .i64 r) (.int .i64 c) (.bool pd) (.bool au) (.int .i64 K) (.int .i64 A) (.int .i64 C) (.slice bo bn bk)
  obtain ⟨gb, hgb⟩ : ∃ gb, gb = w.heap.size := ⟨_, rfl⟩
  obtain ⟨go, hgo⟩ : ∃ go, go = w.heap.size + 1 := ⟨_, rfl⟩
  obtain ⟨gz, hgz⟩ : ∃ gz, gz = w.heap.size + 1 + 1 := ⟨_, rfl⟩
  have HG := Lib.hid (And.intro hgb (And.intro hgo hgz))
  have hrb : RB w Z gb gz Ls r c pd au (some ⟨bL, oL, none⟩) ca W := by
    refine ⟨by rw [hgb]; exact hb, (hv.below hl0).zone (fun x _ hx => ⟨.inl hx, ?_, ?_⟩), by rw [hgz]; exact hz, hl0, by omega, by omega, by omega⟩
    · have := hZ x hx; omega
    · have := hZ x hx; omega
  have HRB := Lib.hid hrb
  have HO := Lib.hid (show Has W go [.int .i64 K, .int .i64 A, .int .i64 C, .slice bo bn bk] 43 from by rw [hgo]; exact hx)
  have HEV := Lib.hid hev
  have HN := Lib.hid hn
  have HLR := Lib.hid (show r2 < n from by rw [hn]; exact hlr)
  have HNN := Lib.hid (show n ≤ 1000 from by rw [hn]; exact hev.2.1)
  have hw0 : (Ls.getD 0 zl).1.length = wd := hev.2.2.2.2 0 hev.1
  have HW0 := Lib.hid hw0
  have HHO := Lib.hid (show Calls Tryz.prog 21 #[.agg #[.slice (some ⟨bL, oL, none⟩) n ca, .int .i64 r, .int .i64 c, .bool pd, .bool au]] W (Gives W (.agg #[.slice (some ⟨bL, oL, none⟩) n ca, .int .i64 r2, .int .i64 c2, .bool (holdP c pd wd), .bool au])) from by
    have h9 := rph_any _ (.slice (some ⟨bL, oL, none⟩) Ls.length ca) Ls r c pd au W hrb.2.1 hev.1 wd hw0
    rw [hr2, hc2] at h9
    rw [hn]
    exact h9)
  have HCV := Lib.hid hcv
  have HZ0 := Lib.hid z0
  have HBL := Lib.hid hbL
  have HZZ := Lib.hid hZ
  obtain ⟨pd2, hpd2⟩ : ∃ pd2, pd2 = holdP c pd wd := ⟨_, rfl⟩
  rw [← hpd2] at HHO
  obtain ⟨RL, hRL⟩ : ∃ RL, RL = edL Ls r2 c2 K A := ⟨_, rfl⟩
  obtain ⟨rr, hrr⟩ : ∃ rr, rr = edR r2 K A Ls.length := ⟨_, rfl⟩
  obtain ⟨cc, hcc⟩ : ∃ cc, cc = edC c2 K C wd := ⟨_, rfl⟩
  obtain ⟨uu, huu⟩ : ∃ uu, uu = edU K A au := ⟨_, rfl⟩
  have HQ := Lib.hid (And.intro hRL (And.intro hrr (And.intro hcc huu)))
  rw [← hRL, ← hrr, ← hcc, ← huu]
  rw [← hn] at hW hcap ⊢
  have hri : (r2 : Int) < (n : Int) := by have := HLR.out; omega
  have hrn : r2 < ca := by have := HLR.out; omega
  clear hkk hv hZ hev hr2 hc2 hlr hk hcl z0 hbL hcv hb hx hz hl0 hgb hgo hgz hrb hn hw0 hpd2 hRL hrr hcc huu hcap
  go_enter Tryz.func8, Tryz.ntmps8
  go_upto_region 1 with (fail)
  rw [← hW]
  clear hW
  rw [← HG.out.2.2]
  rw [← HG.out.2.1]
  rw [← HG.out.1]
  have q0 := HRB.out.1.cell 0 _ rfl
  rw [← HN.out] at q0
  have q1 := HRB.out.1.cell 1 _ rfl
  have q2 := HRB.out.1.cell 2 _ rfl
  have q3 := HRB.out.1.cell 3 _ rfl
  have q4 := HRB.out.1.cell 4 _ rfl
  go_wp2_with fail
  refine HHO.out.mono ?_
  rintro e w1 ⟨rfl, b1⟩
  have h1 := HRB.out.below b1
  have ho1 := HO.out.below b1 HO.out.lt
  clear q0 q1 q2 q3 q4
  have q0 := h1.1.cell 0 _ rfl
  rw [← HN.out] at q0
  have q1 := h1.1.cell 1 _ rfl
  have q2 := h1.1.cell 2 _ rfl
  have q3 := h1.1.cell 3 _ rfl
  have q4 := h1.1.cell 4 _ rfl
  have f0 := h1.1.free 0
  have f1 := h1.1.free 1
  have f2 := h1.1.free 2
  have f3 := h1.1.free 3
  have f4 := h1.1.free 4
  obtain ⟨W3, hW3⟩ : ∃ W3, W3 = (((((w1.setCell ⟨gb, 0, none⟩ (.slice (some ⟨bL, oL, none⟩) n ca)).setCell ⟨gb, 1, none⟩ (.int .i64 r2)).setCell ⟨gb, 2, none⟩ (.int .i64 c2)).setCell ⟨gb, 3, none⟩ (.bool pd2)).setCell ⟨gb, 4, none⟩ (.bool au)).setCell ⟨gb, 3, none⟩ (.bool false) := ⟨_, rfl⟩
  have hu3 : Upd (fun b => b = gb) w1 W3 := by rw [hW3]; exact (pres_upd gb _ _ _ _ _).setCell (p := ⟨gb, 3, none⟩) (.inl rfl) _
  have h3 : RB w Z gb gz Ls r2 c2 false au (some ⟨bL, oL, none⟩) ca W3 := h1.own hu3 (by rw [hW3, HN.out]; exact (pres_has h1.1 _ _ _ _ _).set 3 _)
  have H3 := Lib.hid h3
  have HO3 := Lib.hid (hu3.keep.has ho1 (fun e => by have := HG.out; omega))
  have HW3 := Lib.hid hW3
  clear h1 ho1 b1 hu3 h3 hW3 HHO HRB HO
  go_upto_region 3 with (fail)
  rw [← HW3.out]
  clear q0 q1 q2 q3 q4 f0 f1 f2 f3 f4 HW3
  have q0 := H3.out.1.cell 0 _ rfl
  rw [← HN.out] at q0
  have q1 := H3.out.1.cell 1 _ rfl
  have z1 := (H3.out.2.2.2.1.cell (p := ⟨bL, oL + r2 * 2, none⟩) HBL.out).trans HZ0.out
  have x0 := HO3.out.cell 0 _ rfl
  go_upto_region 6 with (fail)
  clear z1 q1
  have x1 := HO3.out.cell 1 _ rfl
  have x2 := HO3.out.cell 2 _ rfl
  have q1 := H3.out.1.cell 1 _ rfl
  have q2 := H3.out.1.cell 2 _ rfl
  have q3 := H3.out.1.cell 3 _ rfl
  have q4 := H3.out.1.cell 4 _ rfl
  obtain rfl | hk2 : K = 2 ∨ K ≠ 2 := by omega
  · have HWD := Lib.hid (show ∀ u : Growth W3, Calls Tryz.prog 23 #[.agg #[.slice (some ⟨bL, oL, none⟩) n ca, .int .i64 r2, .int .i64 c2, .bool false, .bool au]] (ext W3 u) (Gives (ext W3 u) (.int .i64 wd)) from fun u => by
      have h9 := rpw_any _ (.slice (some ⟨bL, oL, none⟩) Ls.length ca) Ls r2 c2 false au (ext W3 u) (H3.out.2.1.below u.ok) HEV.out.1
      rw [HW0.out, ← HN.out] at h9
      exact h9)
    have HRH := Lib.hid (show ∀ w', Calls Tryz.prog 22 #[.agg #[.int .i64 A, .int .i64 C, .bool false], .int .i64 wd, .int .i64 n] w' (Gives w' (.agg #[.int .i64 (inI A (sideI n)), .int .i64 (inI C (sideI wd)), .bool false])) from fun w' => rhold_any A C false wd n w')
    have HE := Lib.hid (show RL = Ls ∧ rr = inI A (sideI n) ∧ cc = inI C (sideI wd) ∧ uu = au from by
      obtain ⟨e1, e2, e3, e4⟩ := HQ.out
      obtain ⟨q1, q2, q3, q4⟩ := ed_2 Ls r2 c2 wd A C au
      exact ⟨e1.trans (q1), e2.trans (q2.trans (by rw [HN.out])), e3.trans q3, e4.trans q4⟩)
    have hl := H3.out.1.lt
    have e0 := ext_cell q0
    have e1 := ext_cell q1
    have e2 := ext_cell q2
    have e3 := ext_cell q3
    have e4 := ext_cell q4
    have d1 := ext_cell x1
    have d2 := ext_cell x2
    have f1 := ext_free (a := ⟨gb, 1, none⟩) hl (H3.out.1.free 1)
    have f2 := ext_free (a := ⟨gb, 2, none⟩) hl (H3.out.1.free 2)
    have f3 := ext_free (a := ⟨gb, 3, none⟩) hl (H3.out.1.free 3)
    clear q0 q1 q2 q3 q4 x1 x2 hl
    go_wp2_with fail
    refine wp_region_ext_tail 12 (by kernel_rfl) (by simp) (by kernel_rfl) (by kernel_rfl) (by kernel_rfl) (by kernel_rfl) (by kernel_rfl) ?_
    simp only [List.take_succ_cons, List.take_zero, List.drop_succ_cons, List.drop_zero]
    repeat (go_big_quiet_step ((first | (go_at_call 23; exact callx (HWD.out _)) | (go_at_call 22; exact callx (HRH.out _)))))
    refine wpQuiet_nil ?_
    intro _ hw'
    obtain ⟨u, hw''⟩ := hw'
    subst hw''
    obtain ⟨W5, hW5⟩ : ∃ W5, W5 = ext W3 u := ⟨_, rfl⟩
    have h5 : RB w Z gb gz Ls r2 c2 false au (some ⟨bL, oL, none⟩) ca W5 := by rw [hW5]; exact H3.out.below u.ok
    have hu6 : Upd (fun b => b = gb) W5 (((W5.setCell ⟨gb, 1, none⟩ (.int .i64 (inI A (sideI n)))).setCell ⟨gb, 2, none⟩ (.int .i64 (inI C (sideI wd)))).setCell ⟨gb, 3, none⟩ (.bool false)) := (((Upd.refl (fun b => b = gb) W5).setCell (p := ⟨gb, 1, none⟩) (.inl rfl) _).setCell (p := ⟨gb, 2, none⟩) (.inl rfl) _).setCell (p := ⟨gb, 3, none⟩) (.inl rfl) _
    obtain ⟨W6, hW6⟩ : ∃ W6, W6 = (((W5.setCell ⟨gb, 1, none⟩ (.int .i64 (inI A (sideI n)))).setCell ⟨gb, 2, none⟩ (.int .i64 (inI C (sideI wd)))).setCell ⟨gb, 3, none⟩ (.bool false)) := ⟨_, rfl⟩
    rw [← hW6] at hu6
    have H6 := Lib.hid (show RB w Z gb gz Ls (inI A (sideI n)) (inI C (sideI wd)) false au (some ⟨bL, oL, none⟩) ca W6 from h5.own hu6 (by rw [hW6]; exact ((h5.1.set 1 _).set 2 _).set 3 _))
    have HW5 := Lib.hid hW5
    have HW6 := Lib.hid hW6
    clear h5 hu6 hW5 hW6
    go_upto_region 29 with (fail)
    rw [← HW5.out]
    rw [← HW6.out]
    clear e0 e1 e2 e3 e4 d1 d2 f1 f2 f3 HW5 HW6 x0
    have p0 := H6.out.1.cell 0 _ rfl
    have p1 := H6.out.1.cell 1 _ rfl
    have p2 := H6.out.1.cell 2 _ rfl
    have p3 := H6.out.1.cell 3 _ rfl
    have p4 := H6.out.1.cell 4 _ rfl
    have k0 := H6.out.2.2.1.cell 0 _ rfl
    have k1 := H6.out.2.2.1.cell 1 _ rfl
    have k2 := H6.out.2.2.1.cell 2 _ rfl
    have k3 := H6.out.2.2.1.cell 3 _ rfl
    have k4 := H6.out.2.2.1.cell 4 _ rfl
    have y0 := H6.out.2.2.1.free 0
    have y1 := H6.out.2.2.1.free 1
    have y2 := H6.out.2.2.1.free 2
    have y3 := H6.out.2.2.1.free 3
    have y4 := H6.out.2.2.1.free 4
    have hlt := H6.out.2.2.1.lt
    have HF := Lib.hid H6.out.fin
    rw [← HN.out] at p0 HF
    go_wp2
    refine bodyPost_ret (v := .agg #[.slice (some ⟨bL, oL, none⟩) n ca, .int .i64 (inI A (sideI n)), .int .i64 (inI C (sideI wd)), .bool false, .bool au]) (by simp [results, Tryz.results8, go_sem, k0, k1, k2, k3, k4]) rfl ?_
    rw [HE.out.1, HE.out.2.1, HE.out.2.2.1, HE.out.2.2.2]
    exact ⟨_, rfl, HF.out.1, HF.out.2⟩
  obtain rfl | hk12 : K = 12 ∨ K ≠ 12 := by omega
  · have hu6 := (Upd.refl (fun b => b = gb) W3).setCell (p := ⟨gb, 4, none⟩) (.inl rfl) (.bool (A != 0))
    obtain ⟨W6, hW6⟩ : ∃ W6, W6 = W3.setCell ⟨gb, 4, none⟩ (.bool (A != 0)) := ⟨_, rfl⟩
    rw [← hW6] at hu6
    have H6 := Lib.hid (show RB w Z gb gz Ls r2 c2 false (A != 0) (some ⟨bL, oL, none⟩) ca W6 from H3.out.own hu6 (by rw [hW6]; exact H3.out.1.set 4 _))
    have HW6 := Lib.hid hW6
    have f4 := H3.out.1.free 4
    have HE := Lib.hid (show RL = Ls ∧ rr = (r2 : Int) ∧ cc = (c2 : Int) ∧ uu = (A != 0) from by
      obtain ⟨e1, e2, e3, e4⟩ := HQ.out
      obtain ⟨q1, q2, q3, q4⟩ := ed_12 Ls r2 c2 wd A C au
      exact ⟨e1.trans (q1), e2.trans (q2), e3.trans q3, e4.trans q4⟩)
    clear hu6 hW6
    go_upto_region 29 with (fail)
    rw [← HW6.out]
    clear q0 q1 q2 q3 q4 x0 x1 x2 f4 HW6
    have p0 := H6.out.1.cell 0 _ rfl
    have p1 := H6.out.1.cell 1 _ rfl
    have p2 := H6.out.1.cell 2 _ rfl
    have p3 := H6.out.1.cell 3 _ rfl
    have p4 := H6.out.1.cell 4 _ rfl
    have k0 := H6.out.2.2.1.cell 0 _ rfl
    have k1 := H6.out.2.2.1.cell 1 _ rfl
    have k2 := H6.out.2.2.1.cell 2 _ rfl
    have k3 := H6.out.2.2.1.cell 3 _ rfl
    have k4 := H6.out.2.2.1.cell 4 _ rfl
    have y0 := H6.out.2.2.1.free 0
    have y1 := H6.out.2.2.1.free 1
    have y2 := H6.out.2.2.1.free 2
    have y3 := H6.out.2.2.1.free 3
    have y4 := H6.out.2.2.1.free 4
    have hlt := H6.out.2.2.1.lt
    have HF := Lib.hid H6.out.fin
    rw [← HN.out] at p0 HF
    go_wp2
    refine bodyPost_ret (v := .agg #[.slice (some ⟨bL, oL, none⟩) n ca, .int .i64 r2, .int .i64 c2, .bool false, .bool (A != 0)]) (by simp [results, Tryz.results8, go_sem, k0, k1, k2, k3, k4]) rfl ?_
    rw [HE.out.1, HE.out.2.1, HE.out.2.2.1, HE.out.2.2.2]
    exact ⟨_, rfl, HF.out.1, HF.out.2⟩
  obtain rfl | hk3 : K = 3 ∨ K ≠ 3 := by omega
  · obtain ⟨m, hm⟩ : ∃ m : Nat, A = (m : Int) := ⟨A.toNat, by have := HKK.out; omega⟩
    have hca := rlines_any (fun b => ((Z b ∨ w.heap.size ≤ b) ∧ b ≠ gb ∧ b ≠ gz) ∧ b < W3.heap.size) (.slice (some ⟨bL, oL, none⟩) Ls.length ca) Ls r2 c2 false au 3 (by decide) m (by have := HKK.out; omega) W3 H3.out.arg (fun x hx => hx.2) wd HEV.out (by rw [← HN.out]; exact HLR.out)
    rw [if_neg (by decide), ← hm, ← HN.out] at hca
    have HCA := Lib.hid hca
    clear hca hm
    have HE := Lib.hid (show RL = edN Ls r2 c2 A ∧ rr = (r2 : Int) ∧ cc = (c2 : Int) ∧ uu = au from by
      obtain ⟨e1, e2, e3, e4⟩ := HQ.out
      obtain ⟨q1, q2, q3, q4⟩ := ed_3 Ls r2 c2 wd A C au
      exact ⟨e1.trans (q1), e2.trans (q2), e3.trans q3, e4.trans q4⟩)
    go_wp2_with fail
    refine HCA.out.mono ?_
    rintro e w5 ⟨v5, rfl, h5, b5⟩
    clear q0 q1 q2 q3 q4 x0 x1 x2
    obtain ⟨o5, k5, ev5⟩ := h5.len
    have hst := RB.store (r3 := r2) (c3 := c2) (pd3 := false) (au3 := au) H3.out b5 (by rw [← ev5]; exact h5)
    have hk5 := H3.out.below b5
    rw [edN_len, ← HN.out] at ev5 hst
    subst ev5
    obtain ⟨W6, hW6⟩ : ∃ W6, W6 = (((((w5.setCell ⟨gb, 0, none⟩ (.slice o5 n k5)).setCell ⟨gb, 1, none⟩ (.int .i64 r2)).setCell ⟨gb, 2, none⟩ (.int .i64 c2)).setCell ⟨gb, 3, none⟩ (.bool false)).setCell ⟨gb, 4, none⟩ (.bool au)) := ⟨_, rfl⟩
    rw [← hW6] at hst
    have H6 := Lib.hid hst
    have HW6 := Lib.hid hW6
    have s0 := hk5.1.cell 0 _ rfl
    have s1 := hk5.1.cell 1 _ rfl
    have s2 := hk5.1.cell 2 _ rfl
    have s3 := hk5.1.cell 3 _ rfl
    have s4 := hk5.1.cell 4 _ rfl
    have f0 := hk5.1.free 0
    have f1 := hk5.1.free 1
    have f2 := hk5.1.free 2
    have f3 := hk5.1.free 3
    have f4 := hk5.1.free 4
    clear h5 b5 hst hk5 hW6
    go_upto_region 29 with (fail)
    rw [← HW6.out]
    clear s0 s1 s2 s3 s4 f0 f1 f2 f3 f4 HW6
    have p0 := H6.out.1.cell 0 _ rfl
    have p1 := H6.out.1.cell 1 _ rfl
    have p2 := H6.out.1.cell 2 _ rfl
    have p3 := H6.out.1.cell 3 _ rfl
    have p4 := H6.out.1.cell 4 _ rfl
    have k0 := H6.out.2.2.1.cell 0 _ rfl
    have k1 := H6.out.2.2.1.cell 1 _ rfl
    have k2 := H6.out.2.2.1.cell 2 _ rfl
    have k3 := H6.out.2.2.1.cell 3 _ rfl
    have k4 := H6.out.2.2.1.cell 4 _ rfl
    have y0 := H6.out.2.2.1.free 0
    have y1 := H6.out.2.2.1.free 1
    have y2 := H6.out.2.2.1.free 2
    have y3 := H6.out.2.2.1.free 3
    have y4 := H6.out.2.2.1.free 4
    have hlt := H6.out.2.2.1.lt
    have HF := Lib.hid H6.out.fin
    rw [edN_len, ← HN.out] at p0 HF
    go_wp2
    refine bodyPost_ret (v := .agg #[.slice o5 n k5, .int .i64 r2, .int .i64 c2, .bool false, .bool au]) (by simp [results, Tryz.results8, go_sem, k0, k1, k2, k3, k4]) rfl ?_
    rw [HE.out.1, HE.out.2.1, HE.out.2.2.1, HE.out.2.2.2]
    exact ⟨_, rfl, HF.out.1, HF.out.2⟩
  obtain rfl | hk4 : K = 4 ∨ K ≠ 4 := by omega
  · obtain ⟨m, hm⟩ : ∃ m : Nat, A = (m : Int) := ⟨A.toNat, by have := HKK.out; omega⟩
    have hca := rlines_any (fun b => ((Z b ∨ w.heap.size ≤ b) ∧ b ≠ gb ∧ b ≠ gz) ∧ b < W3.heap.size) (.slice (some ⟨bL, oL, none⟩) Ls.length ca) Ls r2 c2 false au 4 (by decide) m (by have := HKK.out; omega) W3 H3.out.arg (fun x hx => hx.2) wd HEV.out (by rw [← HN.out]; exact HLR.out)
    rw [if_pos rfl, ← hm, ← HN.out] at hca
    have HCA := Lib.hid hca
    clear hca hm
    have HE := Lib.hid (show RL = edS Ls r2 c2 A ∧ rr = (r2 : Int) ∧ cc = (c2 : Int) ∧ uu = au from by
      obtain ⟨e1, e2, e3, e4⟩ := HQ.out
      obtain ⟨q1, q2, q3, q4⟩ := ed_4 Ls r2 c2 wd A C au
      exact ⟨e1.trans (q1), e2.trans (q2), e3.trans q3, e4.trans q4⟩)
    go_wp2_with fail
    refine HCA.out.mono ?_
    rintro e w5 ⟨v5, rfl, h5, b5⟩
    clear q0 q1 q2 q3 q4 x0 x1 x2
    obtain ⟨o5, k5, ev5⟩ := h5.len
    have hst := RB.store (r3 := r2) (c3 := c2) (pd3 := false) (au3 := au) H3.out b5 (by rw [← ev5]; exact h5)
    have hk5 := H3.out.below b5
    rw [show (edS Ls r2 c2 A).length = Ls.length from by unfold edS; rw [blk_len, edN_len], ← HN.out] at ev5 hst
    subst ev5
    obtain ⟨W6, hW6⟩ : ∃ W6, W6 = (((((w5.setCell ⟨gb, 0, none⟩ (.slice o5 n k5)).setCell ⟨gb, 1, none⟩ (.int .i64 r2)).setCell ⟨gb, 2, none⟩ (.int .i64 c2)).setCell ⟨gb, 3, none⟩ (.bool false)).setCell ⟨gb, 4, none⟩ (.bool au)) := ⟨_, rfl⟩
    rw [← hW6] at hst
    have H6 := Lib.hid hst
    have HW6 := Lib.hid hW6
    have s0 := hk5.1.cell 0 _ rfl
    have s1 := hk5.1.cell 1 _ rfl
    have s2 := hk5.1.cell 2 _ rfl
    have s3 := hk5.1.cell 3 _ rfl
    have s4 := hk5.1.cell 4 _ rfl
    have f0 := hk5.1.free 0
    have f1 := hk5.1.free 1
    have f2 := hk5.1.free 2
    have f3 := hk5.1.free 3
    have f4 := hk5.1.free 4
    clear h5 b5 hst hk5 hW6
    go_upto_region 29 with (fail)
    rw [← HW6.out]
    clear s0 s1 s2 s3 s4 f0 f1 f2 f3 f4 HW6
    have p0 := H6.out.1.cell 0 _ rfl
    have p1 := H6.out.1.cell 1 _ rfl
    have p2 := H6.out.1.cell 2 _ rfl
    have p3 := H6.out.1.cell 3 _ rfl
    have p4 := H6.out.1.cell 4 _ rfl
    have k0 := H6.out.2.2.1.cell 0 _ rfl
    have k1 := H6.out.2.2.1.cell 1 _ rfl
    have k2 := H6.out.2.2.1.cell 2 _ rfl
    have k3 := H6.out.2.2.1.cell 3 _ rfl
    have k4 := H6.out.2.2.1.cell 4 _ rfl
    have y0 := H6.out.2.2.1.free 0
    have y1 := H6.out.2.2.1.free 1
    have y2 := H6.out.2.2.1.free 2
    have y3 := H6.out.2.2.1.free 3
    have y4 := H6.out.2.2.1.free 4
    have hlt := H6.out.2.2.1.lt
    have HF := Lib.hid H6.out.fin
    rw [show (edS Ls r2 c2 A).length = Ls.length from by unfold edS; rw [blk_len, edN_len], ← HN.out] at p0 HF
    go_wp2
    refine bodyPost_ret (v := .agg #[.slice o5 n k5, .int .i64 r2, .int .i64 c2, .bool false, .bool au]) (by simp [results, Tryz.results8, go_sem, k0, k1, k2, k3, k4]) rfl ?_
    rw [HE.out.1, HE.out.2.1, HE.out.2.2.1, HE.out.2.2.2]
    exact ⟨_, rfl, HF.out.1, HF.out.2⟩
  obtain rfl | hk5 : K = 5 ∨ K ≠ 5 := by omega
  · have hca := ract_any (fun b => ((Z b ∨ w.heap.size ≤ b) ∧ b ≠ gb ∧ b ≠ gz) ∧ b < W3.heap.size) (.slice (some ⟨bL, oL, none⟩) Ls.length ca) Ls r2 c2 false au r2 4 c2 A W3 H3.out.arg (fun x hx => hx.2) (by rw [← HN.out]; exact HLR.out) HEV.out.2.1 (by rw [HEV.out.2.2.2.2 r2 (by rw [← HN.out]; exact HLR.out)]; exact HEV.out.2.2.2.1)
    rw [← HN.out] at hca
    have HCA := Lib.hid hca
    clear hca
    have HE := Lib.hid (show RL = edA Ls r2 4 c2 A ∧ rr = (r2 : Int) ∧ cc = (c2 : Int) ∧ uu = au from by
      obtain ⟨e1, e2, e3, e4⟩ := HQ.out
      obtain ⟨q1, q2, q3, q4⟩ := ed_5 Ls r2 c2 wd A C au
      exact ⟨e1.trans (q1), e2.trans (q2), e3.trans q3, e4.trans q4⟩)
    go_wp2_with fail
    refine HCA.out.mono ?_
    rintro e w5 ⟨v5, rfl, h5, b5⟩
    clear q0 q1 q2 q3 q4 x0 x1 x2
    obtain ⟨o5, k5, ev5⟩ := h5.len
    have hst := RB.store (r3 := r2) (c3 := c2) (pd3 := false) (au3 := au) H3.out b5 (by rw [← ev5]; exact h5)
    have hk5 := H3.out.below b5
    rw [edA_len, ← HN.out] at ev5 hst
    subst ev5
    obtain ⟨W6, hW6⟩ : ∃ W6, W6 = (((((w5.setCell ⟨gb, 0, none⟩ (.slice o5 n k5)).setCell ⟨gb, 1, none⟩ (.int .i64 r2)).setCell ⟨gb, 2, none⟩ (.int .i64 c2)).setCell ⟨gb, 3, none⟩ (.bool false)).setCell ⟨gb, 4, none⟩ (.bool au)) := ⟨_, rfl⟩
    rw [← hW6] at hst
    have H6 := Lib.hid hst
    have HW6 := Lib.hid hW6
    have s0 := hk5.1.cell 0 _ rfl
    have s1 := hk5.1.cell 1 _ rfl
    have s2 := hk5.1.cell 2 _ rfl
    have s3 := hk5.1.cell 3 _ rfl
    have s4 := hk5.1.cell 4 _ rfl
    have f0 := hk5.1.free 0
    have f1 := hk5.1.free 1
    have f2 := hk5.1.free 2
    have f3 := hk5.1.free 3
    have f4 := hk5.1.free 4
    clear h5 b5 hst hk5 hW6
    go_upto_region 29 with (fail)
    rw [← HW6.out]
    clear s0 s1 s2 s3 s4 f0 f1 f2 f3 f4 HW6
    have p0 := H6.out.1.cell 0 _ rfl
    have p1 := H6.out.1.cell 1 _ rfl
    have p2 := H6.out.1.cell 2 _ rfl
    have p3 := H6.out.1.cell 3 _ rfl
    have p4 := H6.out.1.cell 4 _ rfl
    have k0 := H6.out.2.2.1.cell 0 _ rfl
    have k1 := H6.out.2.2.1.cell 1 _ rfl
    have k2 := H6.out.2.2.1.cell 2 _ rfl
    have k3 := H6.out.2.2.1.cell 3 _ rfl
    have k4 := H6.out.2.2.1.cell 4 _ rfl
    have y0 := H6.out.2.2.1.free 0
    have y1 := H6.out.2.2.1.free 1
    have y2 := H6.out.2.2.1.free 2
    have y3 := H6.out.2.2.1.free 3
    have y4 := H6.out.2.2.1.free 4
    have hlt := H6.out.2.2.1.lt
    have HF := Lib.hid H6.out.fin
    rw [edA_len, ← HN.out] at p0 HF
    go_wp2
    refine bodyPost_ret (v := .agg #[.slice o5 n k5, .int .i64 r2, .int .i64 c2, .bool false, .bool au]) (by simp [results, Tryz.results8, go_sem, k0, k1, k2, k3, k4]) rfl ?_
    rw [HE.out.1, HE.out.2.1, HE.out.2.2.1, HE.out.2.2.2]
    exact ⟨_, rfl, HF.out.1, HF.out.2⟩
  obtain rfl | hk6 : K = 6 ∨ K ≠ 6 := by omega
  · have hcv3 : HeldE cellE (fun b => (Z b ∨ w.heap.size ≤ b) ∧ b ≠ gb ∧ b ≠ gz) W3 (.slice co wd cc9) (Ls.getD r2 zl).1 := (HCV.out.below H3.out.2.2.2.1).zone fun b _ hz => ⟨.inl hz, by have := HZZ.out b hz; have := HG.out; omega, by have := HZZ.out b hz; have := HG.out; omega⟩
    have hca := rins_any (fun b => (Z b ∨ w.heap.size ≤ b) ∧ b ≠ gb ∧ b ≠ gz) (.slice co wd cc9) (Ls.getD r2 zl).1 (Ls.getD r2 zl).2 c2 A W3 (fun b hb => by have := H3.out.1.lt; have := H3.out.2.2.1.lt; have := H3.out.2.2.2.1.size; exact ⟨.inr (by omega), by omega, by omega⟩) hcv3 (by rw [HEV.out.2.2.2.2 r2 (by rw [← HN.out]; exact HLR.out)]; have := HEV.out.2.2.2.1; omega)
    have hcs := ins_cases (Ls.getD r2 zl).1 (Ls.getD r2 zl).2 c2 A
    obtain ⟨dn, hdn⟩ : ∃ dn, dn = doneB (Ls.getD r2 zl).1 c2 A := ⟨_, rfl⟩
    rw [← hdn] at hca hcs
    have HCA := Lib.hid hca
    have HCS := Lib.hid hcs
    clear hca hcs hdn hcv3
    rcases HCS.out with ⟨rfl, hE1⟩ | ⟨rfl, hE1⟩
    · have hsame : edI Ls r2 c2 A = Ls := by unfold edI; rw [hE1.1]; exact set_self Ls r2 (by rw [← HN.out]; exact HLR.out)
      have HE := Lib.hid (show RL = Ls ∧ rr = (r2 : Int) ∧ cc = (c2 : Int) ∧ uu = au from by
        obtain ⟨e1, e2, e3, e4⟩ := HQ.out
        obtain ⟨q1, q2, q3, q4⟩ := ed_6 Ls r2 c2 wd A C au
        exact ⟨e1.trans (q1.trans hsame), e2.trans (q2), e3.trans q3, e4.trans q4⟩)
      clear hsame hE1 HCS
      go_wp2_with fail
      refine HCA.out.mono ?_
      rintro e w5 ⟨v5, rfl, h5, b5⟩
      have H6 := Lib.hid (H3.out.below b5)
      clear q0 q1 q2 q3 q4 x0 x1 x2 h5 b5
      go_upto_region 29 with (fail)
      have p0 := H6.out.1.cell 0 _ rfl
      have p1 := H6.out.1.cell 1 _ rfl
      have p2 := H6.out.1.cell 2 _ rfl
      have p3 := H6.out.1.cell 3 _ rfl
      have p4 := H6.out.1.cell 4 _ rfl
      have k0 := H6.out.2.2.1.cell 0 _ rfl
      have k1 := H6.out.2.2.1.cell 1 _ rfl
      have k2 := H6.out.2.2.1.cell 2 _ rfl
      have k3 := H6.out.2.2.1.cell 3 _ rfl
      have k4 := H6.out.2.2.1.cell 4 _ rfl
      have y0 := H6.out.2.2.1.free 0
      have y1 := H6.out.2.2.1.free 1
      have y2 := H6.out.2.2.1.free 2
      have y3 := H6.out.2.2.1.free 3
      have y4 := H6.out.2.2.1.free 4
      have hlt := H6.out.2.2.1.lt
      have HF := Lib.hid H6.out.fin
      rw [← HN.out] at p0 HF
      go_wp2
      refine bodyPost_ret (v := .agg #[.slice (some ⟨bL, oL, none⟩) n ca, .int .i64 r2, .int .i64 c2, .bool false, .bool au]) (by simp [results, Tryz.results8, go_sem, k0, k1, k2, k3, k4]) rfl ?_
      rw [HE.out.1, HE.out.2.1, HE.out.2.2.1, HE.out.2.2.2]
      exact ⟨_, rfl, HF.out.1, HF.out.2⟩
    · have hsame : edI Ls r2 c2 A = Ls.set r2 ((insA (Ls.getD r2 zl).1 (Ls.getD r2 zl).2 c2 A).1, false) := by unfold edI; exact congrArg (Ls.set r2) hE1.1
      have HE := Lib.hid (show RL = Ls.set r2 ((insA (Ls.getD r2 zl).1 (Ls.getD r2 zl).2 c2 A).1, false) ∧ rr = (r2 : Int) ∧ cc = (c2 : Int) ∧ uu = au from by
        obtain ⟨e1, e2, e3, e4⟩ := HQ.out
        obtain ⟨q1, q2, q3, q4⟩ := ed_6 Ls r2 c2 wd A C au
        exact ⟨e1.trans (q1.trans hsame), e2.trans (q2), e3.trans q3, e4.trans q4⟩)
      clear hsame hE1 HCS
      go_wp2_with fail
      refine HCA.out.mono ?_
      rintro e w5 ⟨v5, rfl, h5, b5⟩
      obtain ⟨o9, k9, e9⟩ := h5.len
      obtain ⟨m9, hm9⟩ : ∃ m9, m9 = (insA (Ls.getD r2 zl).1 (Ls.getD r2 zl).2 c2 A).1.length := ⟨_, rfl⟩
      rw [← hm9] at e9
      subst e9
      clear hm9
      have h35 := H3.out.below b5
      have H35 := Lib.hid h35
      have hwi := rpwith_any (fun b => ((Z b ∨ w.heap.size ≤ b) ∧ b ≠ gb ∧ b ≠ gz) ∧ b < w5.heap.size) (.slice (some ⟨bL, oL, none⟩) Ls.length ca) Ls r2 c2 false au r2 (.slice o9 m9 k9) (insA (Ls.getD r2 zl).1 (Ls.getD r2 zl).2 c2 A).1 false w5 h35.arg (h5.zone fun b hlt hz => ⟨hz, hlt⟩) (fun x hx => hx.2) (by rw [← HN.out]; exact HLR.out) HEV.out.2.1
      rw [← HN.out] at hwi
      have HWI := Lib.hid hwi
      clear q0 q1 q2 q3 q4 x0 x1 x2
      have q0 := h35.1.cell 0 _ rfl
      rw [← HN.out] at q0
      have q1 := h35.1.cell 1 _ rfl
      have q2 := h35.1.cell 2 _ rfl
      have q3 := h35.1.cell 3 _ rfl
      have q4 := h35.1.cell 4 _ rfl
      clear h35 hwi h5 b5
      go_wp2_with fail
      refine HWI.out.mono ?_
      rintro e w7 ⟨v7, rfl, h7, b7⟩
      clear q0 q1 q2 q3 q4
      obtain ⟨o5, k5, ev5⟩ := h7.len
      have hst := RB.store (r3 := r2) (c3 := c2) (pd3 := false) (au3 := au) H35.out b7 (by rw [← ev5]; exact h7)
      have hk5 := H35.out.below b7
      rw [List.length_set, ← HN.out] at ev5 hst
      subst ev5
      obtain ⟨W6, hW6⟩ : ∃ W6, W6 = (((((w7.setCell ⟨gb, 0, none⟩ (.slice o5 n k5)).setCell ⟨gb, 1, none⟩ (.int .i64 r2)).setCell ⟨gb, 2, none⟩ (.int .i64 c2)).setCell ⟨gb, 3, none⟩ (.bool false)).setCell ⟨gb, 4, none⟩ (.bool au)) := ⟨_, rfl⟩
      rw [← hW6] at hst
      have H6 := Lib.hid hst
      have HW6 := Lib.hid hW6
      have s0 := hk5.1.cell 0 _ rfl
      have s1 := hk5.1.cell 1 _ rfl
      have s2 := hk5.1.cell 2 _ rfl
      have s3 := hk5.1.cell 3 _ rfl
      have s4 := hk5.1.cell 4 _ rfl
      have f0 := hk5.1.free 0
      have f1 := hk5.1.free 1
      have f2 := hk5.1.free 2
      have f3 := hk5.1.free 3
      have f4 := hk5.1.free 4
      clear h7 b7 hst hk5 hW6
      go_upto_region 29 with (fail)
      rw [← HW6.out]
      clear s0 s1 s2 s3 s4 f0 f1 f2 f3 f4 HW6
      have p0 := H6.out.1.cell 0 _ rfl
      have p1 := H6.out.1.cell 1 _ rfl
      have p2 := H6.out.1.cell 2 _ rfl
      have p3 := H6.out.1.cell 3 _ rfl
      have p4 := H6.out.1.cell 4 _ rfl
      have k0 := H6.out.2.2.1.cell 0 _ rfl
      have k1 := H6.out.2.2.1.cell 1 _ rfl
      have k2 := H6.out.2.2.1.cell 2 _ rfl
      have k3 := H6.out.2.2.1.cell 3 _ rfl
      have k4 := H6.out.2.2.1.cell 4 _ rfl
      have y0 := H6.out.2.2.1.free 0
      have y1 := H6.out.2.2.1.free 1
      have y2 := H6.out.2.2.1.free 2
      have y3 := H6.out.2.2.1.free 3
      have y4 := H6.out.2.2.1.free 4
      have hlt := H6.out.2.2.1.lt
      have HF := Lib.hid H6.out.fin
      rw [List.length_set, ← HN.out] at p0 HF
      go_wp2
      refine bodyPost_ret (v := .agg #[.slice o5 n k5, .int .i64 r2, .int .i64 c2, .bool false, .bool au]) (by simp [results, Tryz.results8, go_sem, k0, k1, k2, k3, k4]) rfl ?_
      rw [HE.out.1, HE.out.2.1, HE.out.2.2.1, HE.out.2.2.2]
      exact ⟨_, rfl, HF.out.1, HF.out.2⟩
  obtain rfl | hk7 : K = 7 ∨ K ≠ 7 := by omega
  · have hcv3 : HeldE cellE (fun b => (Z b ∨ w.heap.size ≤ b) ∧ b ≠ gb ∧ b ≠ gz) W3 (.slice co wd cc9) (Ls.getD r2 zl).1 := (HCV.out.below H3.out.2.2.2.1).zone fun b _ hz => ⟨.inl hz, by have := HZZ.out b hz; have := HG.out; omega, by have := HZZ.out b hz; have := HG.out; omega⟩
    have hca := rdel_any (fun b => (Z b ∨ w.heap.size ≤ b) ∧ b ≠ gb ∧ b ≠ gz) (.slice co wd cc9) (Ls.getD r2 zl).1 (Ls.getD r2 zl).2 c2 A W3 (fun b hb => by have := H3.out.1.lt; have := H3.out.2.2.1.lt; have := H3.out.2.2.2.1.size; exact ⟨.inr (by omega), by omega, by omega⟩) hcv3 (by rw [HEV.out.2.2.2.2 r2 (by rw [← HN.out]; exact HLR.out)]; have := HEV.out.2.2.2.1; omega)
    have hcs := ins_cases (Ls.getD r2 zl).1 (Ls.getD r2 zl).2 c2 A
    obtain ⟨dn, hdn⟩ : ∃ dn, dn = doneB (Ls.getD r2 zl).1 c2 A := ⟨_, rfl⟩
    rw [← hdn] at hca hcs
    have HCA := Lib.hid hca
    have HCS := Lib.hid hcs
    clear hca hcs hdn hcv3
    rcases HCS.out with ⟨rfl, hE1⟩ | ⟨rfl, hE1⟩
    · have hsame : edD Ls r2 c2 A = Ls := by unfold edD; rw [hE1.2]; exact set_self Ls r2 (by rw [← HN.out]; exact HLR.out)
      have HE := Lib.hid (show RL = Ls ∧ rr = (r2 : Int) ∧ cc = (c2 : Int) ∧ uu = au from by
        obtain ⟨e1, e2, e3, e4⟩ := HQ.out
        obtain ⟨q1, q2, q3, q4⟩ := ed_7 Ls r2 c2 wd A C au
        exact ⟨e1.trans (q1.trans hsame), e2.trans (q2), e3.trans q3, e4.trans q4⟩)
      clear hsame hE1 HCS
      go_wp2_with fail
      refine HCA.out.mono ?_
      rintro e w5 ⟨v5, rfl, h5, b5⟩
      have H6 := Lib.hid (H3.out.below b5)
      clear q0 q1 q2 q3 q4 x0 x1 x2 h5 b5
      go_upto_region 29 with (fail)
      have p0 := H6.out.1.cell 0 _ rfl
      have p1 := H6.out.1.cell 1 _ rfl
      have p2 := H6.out.1.cell 2 _ rfl
      have p3 := H6.out.1.cell 3 _ rfl
      have p4 := H6.out.1.cell 4 _ rfl
      have k0 := H6.out.2.2.1.cell 0 _ rfl
      have k1 := H6.out.2.2.1.cell 1 _ rfl
      have k2 := H6.out.2.2.1.cell 2 _ rfl
      have k3 := H6.out.2.2.1.cell 3 _ rfl
      have k4 := H6.out.2.2.1.cell 4 _ rfl
      have y0 := H6.out.2.2.1.free 0
      have y1 := H6.out.2.2.1.free 1
      have y2 := H6.out.2.2.1.free 2
      have y3 := H6.out.2.2.1.free 3
      have y4 := H6.out.2.2.1.free 4
      have hlt := H6.out.2.2.1.lt
      have HF := Lib.hid H6.out.fin
      rw [← HN.out] at p0 HF
      go_wp2
      refine bodyPost_ret (v := .agg #[.slice (some ⟨bL, oL, none⟩) n ca, .int .i64 r2, .int .i64 c2, .bool false, .bool au]) (by simp [results, Tryz.results8, go_sem, k0, k1, k2, k3, k4]) rfl ?_
      rw [HE.out.1, HE.out.2.1, HE.out.2.2.1, HE.out.2.2.2]
      exact ⟨_, rfl, HF.out.1, HF.out.2⟩
    · have hsame : edD Ls r2 c2 A = Ls.set r2 ((delA (Ls.getD r2 zl).1 (Ls.getD r2 zl).2 c2 A).1, false) := by unfold edD; exact congrArg (Ls.set r2) hE1.2
      have HE := Lib.hid (show RL = Ls.set r2 ((delA (Ls.getD r2 zl).1 (Ls.getD r2 zl).2 c2 A).1, false) ∧ rr = (r2 : Int) ∧ cc = (c2 : Int) ∧ uu = au from by
        obtain ⟨e1, e2, e3, e4⟩ := HQ.out
        obtain ⟨q1, q2, q3, q4⟩ := ed_7 Ls r2 c2 wd A C au
        exact ⟨e1.trans (q1.trans hsame), e2.trans (q2), e3.trans q3, e4.trans q4⟩)
      clear hsame hE1 HCS
      go_wp2_with fail
      refine HCA.out.mono ?_
      rintro e w5 ⟨v5, rfl, h5, b5⟩
      obtain ⟨o9, k9, e9⟩ := h5.len
      obtain ⟨m9, hm9⟩ : ∃ m9, m9 = (delA (Ls.getD r2 zl).1 (Ls.getD r2 zl).2 c2 A).1.length := ⟨_, rfl⟩
      rw [← hm9] at e9
      subst e9
      clear hm9
      have h35 := H3.out.below b5
      have H35 := Lib.hid h35
      have hwi := rpwith_any (fun b => ((Z b ∨ w.heap.size ≤ b) ∧ b ≠ gb ∧ b ≠ gz) ∧ b < w5.heap.size) (.slice (some ⟨bL, oL, none⟩) Ls.length ca) Ls r2 c2 false au r2 (.slice o9 m9 k9) (delA (Ls.getD r2 zl).1 (Ls.getD r2 zl).2 c2 A).1 false w5 h35.arg (h5.zone fun b hlt hz => ⟨hz, hlt⟩) (fun x hx => hx.2) (by rw [← HN.out]; exact HLR.out) HEV.out.2.1
      rw [← HN.out] at hwi
      have HWI := Lib.hid hwi
      clear q0 q1 q2 q3 q4 x0 x1 x2
      have q0 := h35.1.cell 0 _ rfl
      rw [← HN.out] at q0
      have q1 := h35.1.cell 1 _ rfl
      have q2 := h35.1.cell 2 _ rfl
      have q3 := h35.1.cell 3 _ rfl
      have q4 := h35.1.cell 4 _ rfl
      clear h35 hwi h5 b5
      go_wp2_with fail
      refine HWI.out.mono ?_
      rintro e w7 ⟨v7, rfl, h7, b7⟩
      clear q0 q1 q2 q3 q4
      obtain ⟨o5, k5, ev5⟩ := h7.len
      have hst := RB.store (r3 := r2) (c3 := c2) (pd3 := false) (au3 := au) H35.out b7 (by rw [← ev5]; exact h7)
      have hk5 := H35.out.below b7
      rw [List.length_set, ← HN.out] at ev5 hst
      subst ev5
      obtain ⟨W6, hW6⟩ : ∃ W6, W6 = (((((w7.setCell ⟨gb, 0, none⟩ (.slice o5 n k5)).setCell ⟨gb, 1, none⟩ (.int .i64 r2)).setCell ⟨gb, 2, none⟩ (.int .i64 c2)).setCell ⟨gb, 3, none⟩ (.bool false)).setCell ⟨gb, 4, none⟩ (.bool au)) := ⟨_, rfl⟩
      rw [← hW6] at hst
      have H6 := Lib.hid hst
      have HW6 := Lib.hid hW6
      have s0 := hk5.1.cell 0 _ rfl
      have s1 := hk5.1.cell 1 _ rfl
      have s2 := hk5.1.cell 2 _ rfl
      have s3 := hk5.1.cell 3 _ rfl
      have s4 := hk5.1.cell 4 _ rfl
      have f0 := hk5.1.free 0
      have f1 := hk5.1.free 1
      have f2 := hk5.1.free 2
      have f3 := hk5.1.free 3
      have f4 := hk5.1.free 4
      clear h7 b7 hst hk5 hW6
      go_upto_region 29 with (fail)
      rw [← HW6.out]
      clear s0 s1 s2 s3 s4 f0 f1 f2 f3 f4 HW6
      have p0 := H6.out.1.cell 0 _ rfl
      have p1 := H6.out.1.cell 1 _ rfl
      have p2 := H6.out.1.cell 2 _ rfl
      have p3 := H6.out.1.cell 3 _ rfl
      have p4 := H6.out.1.cell 4 _ rfl
      have k0 := H6.out.2.2.1.cell 0 _ rfl
      have k1 := H6.out.2.2.1.cell 1 _ rfl
      have k2 := H6.out.2.2.1.cell 2 _ rfl
      have k3 := H6.out.2.2.1.cell 3 _ rfl
      have k4 := H6.out.2.2.1.cell 4 _ rfl
      have y0 := H6.out.2.2.1.free 0
      have y1 := H6.out.2.2.1.free 1
      have y2 := H6.out.2.2.1.free 2
      have y3 := H6.out.2.2.1.free 3
      have y4 := H6.out.2.2.1.free 4
      have hlt := H6.out.2.2.1.lt
      have HF := Lib.hid H6.out.fin
      rw [List.length_set, ← HN.out] at p0 HF
      go_wp2
      refine bodyPost_ret (v := .agg #[.slice o5 n k5, .int .i64 r2, .int .i64 c2, .bool false, .bool au]) (by simp [results, Tryz.results8, go_sem, k0, k1, k2, k3, k4]) rfl ?_
      rw [HE.out.1, HE.out.2.1, HE.out.2.2.1, HE.out.2.2.2]
      exact ⟨_, rfl, HF.out.1, HF.out.2⟩
  obtain rfl | hk8 : K = 8 ∨ K ≠ 8 := by omega
  · have hca := rmove_all (.slice (some ⟨bL, oL, none⟩) Ls.length ca) (fun b => ((Z b ∨ w.heap.size ≤ b) ∧ b ≠ gb ∧ b ≠ gz) ∧ b < W3.heap.size) Ls r2 n A false W3 H3.out.arg (fun x hx => hx.2) HEV.out.2.1 HEV.out.short
    rw [← HN.out] at hca
    have HCA := Lib.hid hca
    clear hca
    have HE := Lib.hid (show RL = mvd Ls r2 n A false ∧ rr = (r2 : Int) ∧ cc = 0 ∧ uu = au from by
      obtain ⟨e1, e2, e3, e4⟩ := HQ.out
      obtain ⟨q1, q2, q3, q4⟩ := ed_8 Ls r2 c2 wd A C au
      exact ⟨e1.trans (q1.trans (by rw [HN.out])), e2.trans (q2), e3.trans q3, e4.trans q4⟩)
    go_wp2_with fail
    refine HCA.out.mono ?_
    rintro e w5 ⟨v5, rfl, h5, b5⟩
    obtain ⟨o5, k5, ev5⟩ := h5.len
    have h35 := H3.out.below b5
    have hu := ((Upd.refl (fun b => b = gb) w5).setCell (p := ⟨gb, 0, none⟩) (.inl rfl) (.slice o5 n k5)).setCell (p := ⟨gb, 2, none⟩) (.inl rfl) (.int .i64 0)
    obtain ⟨W6, hW6⟩ : ∃ W6, W6 = ((w5.setCell ⟨gb, 0, none⟩ (.slice o5 n k5)).setCell ⟨gb, 2, none⟩ (.int .i64 0)) := ⟨_, rfl⟩
    rw [← hW6] at hu
    rw [mvd_len, ← HN.out] at ev5
    subst ev5
    have hlm : (mvd Ls r2 n A false).length = n := by rw [mvd_len]; exact HN.out.symm
    have hst : RB w Z gb gz (mvd Ls r2 n A false) r2 0 false au o5 k5 W6 := H3.out.held b5 hu (by rw [hlm]; exact h5) (by rw [hlm, hW6]; exact (h35.1.set 0 _).set 2 _)
    have H6 := Lib.hid hst
    have HLM := Lib.hid hlm
    have HW6 := Lib.hid hW6
    clear q0 q1 q2 q3 q4 x0 x1 x2
    have s0 := h35.1.cell 0 _ rfl
    have s2 := h35.1.cell 2 _ rfl
    have f0 := h35.1.free 0
    have f2 := h35.1.free 2
    clear h5 b5 h35 hu hW6 hlm hst
    go_upto_region 29 with (fail)
    rw [← HW6.out]
    clear s0 s2 f0 f2 HW6
    have p0 := H6.out.1.cell 0 _ rfl
    have p1 := H6.out.1.cell 1 _ rfl
    have p2 := H6.out.1.cell 2 _ rfl
    have p3 := H6.out.1.cell 3 _ rfl
    have p4 := H6.out.1.cell 4 _ rfl
    have k0 := H6.out.2.2.1.cell 0 _ rfl
    have k1 := H6.out.2.2.1.cell 1 _ rfl
    have k2 := H6.out.2.2.1.cell 2 _ rfl
    have k3 := H6.out.2.2.1.cell 3 _ rfl
    have k4 := H6.out.2.2.1.cell 4 _ rfl
    have y0 := H6.out.2.2.1.free 0
    have y1 := H6.out.2.2.1.free 1
    have y2 := H6.out.2.2.1.free 2
    have y3 := H6.out.2.2.1.free 3
    have y4 := H6.out.2.2.1.free 4
    have hlt := H6.out.2.2.1.lt
    have HF := Lib.hid H6.out.fin
    rw [HLM.out] at p0 HF
    go_wp2
    refine bodyPost_ret (v := .agg #[.slice o5 n k5, .int .i64 r2, .int .i64 0, .bool false, .bool au]) (by simp [results, Tryz.results8, go_sem, k0, k1, k2, k3, k4]) rfl ?_
    rw [HE.out.1, HE.out.2.1, HE.out.2.2.1, HE.out.2.2.2]
    exact ⟨_, rfl, HF.out.1, HF.out.2⟩
  obtain rfl | hk9 : K = 9 ∨ K ≠ 9 := by omega
  · have hca := rmove_all (.slice (some ⟨bL, oL, none⟩) Ls.length ca) (fun b => ((Z b ∨ w.heap.size ≤ b) ∧ b ≠ gb ∧ b ≠ gz) ∧ b < W3.heap.size) Ls r2 n A true W3 H3.out.arg (fun x hx => hx.2) HEV.out.2.1 HEV.out.short
    rw [← HN.out] at hca
    have HCA := Lib.hid hca
    clear hca
    have HE := Lib.hid (show RL = mvd Ls r2 n A true ∧ rr = (r2 : Int) ∧ cc = 0 ∧ uu = au from by
      obtain ⟨e1, e2, e3, e4⟩ := HQ.out
      obtain ⟨q1, q2, q3, q4⟩ := ed_9 Ls r2 c2 wd A C au
      exact ⟨e1.trans (q1.trans (by rw [HN.out])), e2.trans (q2), e3.trans q3, e4.trans q4⟩)
    go_wp2_with fail
    refine HCA.out.mono ?_
    rintro e w5 ⟨v5, rfl, h5, b5⟩
    obtain ⟨o5, k5, ev5⟩ := h5.len
    have h35 := H3.out.below b5
    have hu := ((Upd.refl (fun b => b = gb) w5).setCell (p := ⟨gb, 0, none⟩) (.inl rfl) (.slice o5 n k5)).setCell (p := ⟨gb, 2, none⟩) (.inl rfl) (.int .i64 0)
    obtain ⟨W6, hW6⟩ : ∃ W6, W6 = ((w5.setCell ⟨gb, 0, none⟩ (.slice o5 n k5)).setCell ⟨gb, 2, none⟩ (.int .i64 0)) := ⟨_, rfl⟩
    rw [← hW6] at hu
    rw [mvd_len, ← HN.out] at ev5
    subst ev5
    have hlm : (mvd Ls r2 n A true).length = n := by rw [mvd_len]; exact HN.out.symm
    have hst : RB w Z gb gz (mvd Ls r2 n A true) r2 0 false au o5 k5 W6 := H3.out.held b5 hu (by rw [hlm]; exact h5) (by rw [hlm, hW6]; exact (h35.1.set 0 _).set 2 _)
    have H6 := Lib.hid hst
    have HLM := Lib.hid hlm
    have HW6 := Lib.hid hW6
    clear q0 q1 q2 q3 q4 x0 x1 x2
    have s0 := h35.1.cell 0 _ rfl
    have s2 := h35.1.cell 2 _ rfl
    have f0 := h35.1.free 0
    have f2 := h35.1.free 2
    clear h5 b5 h35 hu hW6 hlm hst
    go_upto_region 29 with (fail)
    rw [← HW6.out]
    clear s0 s2 f0 f2 HW6
    have p0 := H6.out.1.cell 0 _ rfl
    have p1 := H6.out.1.cell 1 _ rfl
    have p2 := H6.out.1.cell 2 _ rfl
    have p3 := H6.out.1.cell 3 _ rfl
    have p4 := H6.out.1.cell 4 _ rfl
    have k0 := H6.out.2.2.1.cell 0 _ rfl
    have k1 := H6.out.2.2.1.cell 1 _ rfl
    have k2 := H6.out.2.2.1.cell 2 _ rfl
    have k3 := H6.out.2.2.1.cell 3 _ rfl
    have k4 := H6.out.2.2.1.cell 4 _ rfl
    have y0 := H6.out.2.2.1.free 0
    have y1 := H6.out.2.2.1.free 1
    have y2 := H6.out.2.2.1.free 2
    have y3 := H6.out.2.2.1.free 3
    have y4 := H6.out.2.2.1.free 4
    have hlt := H6.out.2.2.1.lt
    have HF := Lib.hid H6.out.fin
    rw [HLM.out] at p0 HF
    go_wp2
    refine bodyPost_ret (v := .agg #[.slice o5 n k5, .int .i64 r2, .int .i64 0, .bool false, .bool au]) (by simp [results, Tryz.results8, go_sem, k0, k1, k2, k3, k4]) rfl ?_
    rw [HE.out.1, HE.out.2.1, HE.out.2.2.1, HE.out.2.2.2]
    exact ⟨_, rfl, HF.out.1, HF.out.2⟩
  obtain rfl | hk10 : K = 10 ∨ K ≠ 10 := by omega
  · have hca := rmove_all (.slice (some ⟨bL, oL, none⟩) Ls.length ca) (fun b => ((Z b ∨ w.heap.size ≤ b) ∧ b ≠ gb ∧ b ≠ gz) ∧ b < W3.heap.size) Ls 0 n A true W3 H3.out.arg (fun x hx => hx.2) HEV.out.2.1 HEV.out.short
    rw [← HN.out] at hca
    have HCA := Lib.hid hca
    clear hca
    have HE := Lib.hid (show RL = mvd Ls 0 n A true ∧ rr = (r2 : Int) ∧ cc = (c2 : Int) ∧ uu = au from by
      obtain ⟨e1, e2, e3, e4⟩ := HQ.out
      obtain ⟨q1, q2, q3, q4⟩ := ed_10 Ls r2 c2 wd A C au
      exact ⟨e1.trans (q1.trans (by rw [HN.out])), e2.trans (q2), e3.trans q3, e4.trans q4⟩)
    go_wp2_with fail
    refine HCA.out.mono ?_
    rintro e w5 ⟨v5, rfl, h5, b5⟩
    obtain ⟨o5, k5, ev5⟩ := h5.len
    have h35 := H3.out.below b5
    have hu := (Upd.refl (fun b => b = gb) w5).setCell (p := ⟨gb, 0, none⟩) (.inl rfl) (.slice o5 n k5)
    obtain ⟨W6, hW6⟩ : ∃ W6, W6 = (((w5.setCell ⟨gb, 0, none⟩ (.slice o5 n k5)))) := ⟨_, rfl⟩
    rw [← hW6] at hu
    rw [mvd_len, ← HN.out] at ev5
    subst ev5
    have hlm : (mvd Ls 0 n A true).length = n := by rw [mvd_len]; exact HN.out.symm
    have hst : RB w Z gb gz (mvd Ls 0 n A true) r2 c2 false au o5 k5 W6 := H3.out.held b5 hu (by rw [hlm]; exact h5) (by rw [hlm, hW6]; exact h35.1.set 0 _)
    have H6 := Lib.hid hst
    have HLM := Lib.hid hlm
    have HW6 := Lib.hid hW6
    clear q0 q1 q2 q3 q4 x0 x1 x2
    have s0 := h35.1.cell 0 _ rfl
    have s2 := h35.1.cell 2 _ rfl
    have f0 := h35.1.free 0
    have f2 := h35.1.free 2
    clear h5 b5 h35 hu hW6 hlm hst
    go_upto_region 29 with (fail)
    rw [← HW6.out]
    clear s0 s2 f0 f2 HW6
    have p0 := H6.out.1.cell 0 _ rfl
    have p1 := H6.out.1.cell 1 _ rfl
    have p2 := H6.out.1.cell 2 _ rfl
    have p3 := H6.out.1.cell 3 _ rfl
    have p4 := H6.out.1.cell 4 _ rfl
    have k0 := H6.out.2.2.1.cell 0 _ rfl
    have k1 := H6.out.2.2.1.cell 1 _ rfl
    have k2 := H6.out.2.2.1.cell 2 _ rfl
    have k3 := H6.out.2.2.1.cell 3 _ rfl
    have k4 := H6.out.2.2.1.cell 4 _ rfl
    have y0 := H6.out.2.2.1.free 0
    have y1 := H6.out.2.2.1.free 1
    have y2 := H6.out.2.2.1.free 2
    have y3 := H6.out.2.2.1.free 3
    have y4 := H6.out.2.2.1.free 4
    have hlt := H6.out.2.2.1.lt
    have HF := Lib.hid H6.out.fin
    rw [HLM.out] at p0 HF
    go_wp2
    refine bodyPost_ret (v := .agg #[.slice o5 n k5, .int .i64 r2, .int .i64 c2, .bool false, .bool au]) (by simp [results, Tryz.results8, go_sem, k0, k1, k2, k3, k4]) rfl ?_
    rw [HE.out.1, HE.out.2.1, HE.out.2.2.1, HE.out.2.2.2]
    exact ⟨_, rfl, HF.out.1, HF.out.2⟩
  obtain rfl | hk11 : K = 11 ∨ K ≠ 11 := by omega
  · have hca := rmove_all (.slice (some ⟨bL, oL, none⟩) Ls.length ca) (fun b => ((Z b ∨ w.heap.size ≤ b) ∧ b ≠ gb ∧ b ≠ gz) ∧ b < W3.heap.size) Ls 0 n A false W3 H3.out.arg (fun x hx => hx.2) HEV.out.2.1 HEV.out.short
    rw [← HN.out] at hca
    have HCA := Lib.hid hca
    clear hca
    have HE := Lib.hid (show RL = mvd Ls 0 n A false ∧ rr = (r2 : Int) ∧ cc = (c2 : Int) ∧ uu = au from by
      obtain ⟨e1, e2, e3, e4⟩ := HQ.out
      obtain ⟨q1, q2, q3, q4⟩ := ed_11 Ls r2 c2 wd A C au
      exact ⟨e1.trans (q1.trans (by rw [HN.out])), e2.trans (q2), e3.trans q3, e4.trans q4⟩)
    go_wp2_with fail
    refine HCA.out.mono ?_
    rintro e w5 ⟨v5, rfl, h5, b5⟩
    obtain ⟨o5, k5, ev5⟩ := h5.len
    have h35 := H3.out.below b5
    have hu := (Upd.refl (fun b => b = gb) w5).setCell (p := ⟨gb, 0, none⟩) (.inl rfl) (.slice o5 n k5)
    obtain ⟨W6, hW6⟩ : ∃ W6, W6 = (((w5.setCell ⟨gb, 0, none⟩ (.slice o5 n k5)))) := ⟨_, rfl⟩
    rw [← hW6] at hu
    rw [mvd_len, ← HN.out] at ev5
    subst ev5
    have hlm : (mvd Ls 0 n A false).length = n := by rw [mvd_len]; exact HN.out.symm
    have hst : RB w Z gb gz (mvd Ls 0 n A false) r2 c2 false au o5 k5 W6 := H3.out.held b5 hu (by rw [hlm]; exact h5) (by rw [hlm, hW6]; exact h35.1.set 0 _)
    have H6 := Lib.hid hst
    have HLM := Lib.hid hlm
    have HW6 := Lib.hid hW6
    clear q0 q1 q2 q3 q4 x0 x1 x2
    have s0 := h35.1.cell 0 _ rfl
    have s2 := h35.1.cell 2 _ rfl
    have f0 := h35.1.free 0
    have f2 := h35.1.free 2
    clear h5 b5 h35 hu hW6 hlm hst
    go_upto_region 29 with (fail)
    rw [← HW6.out]
    clear s0 s2 f0 f2 HW6
    have p0 := H6.out.1.cell 0 _ rfl
    have p1 := H6.out.1.cell 1 _ rfl
    have p2 := H6.out.1.cell 2 _ rfl
    have p3 := H6.out.1.cell 3 _ rfl
    have p4 := H6.out.1.cell 4 _ rfl
    have k0 := H6.out.2.2.1.cell 0 _ rfl
    have k1 := H6.out.2.2.1.cell 1 _ rfl
    have k2 := H6.out.2.2.1.cell 2 _ rfl
    have k3 := H6.out.2.2.1.cell 3 _ rfl
    have k4 := H6.out.2.2.1.cell 4 _ rfl
    have y0 := H6.out.2.2.1.free 0
    have y1 := H6.out.2.2.1.free 1
    have y2 := H6.out.2.2.1.free 2
    have y3 := H6.out.2.2.1.free 3
    have y4 := H6.out.2.2.1.free 4
    have hlt := H6.out.2.2.1.lt
    have HF := Lib.hid H6.out.fin
    rw [HLM.out] at p0 HF
    go_wp2
    refine bodyPost_ret (v := .agg #[.slice o5 n k5, .int .i64 r2, .int .i64 c2, .bool false, .bool au]) (by simp [results, Tryz.results8, go_sem, k0, k1, k2, k3, k4]) rfl ?_
    rw [HE.out.1, HE.out.2.1, HE.out.2.2.1, HE.out.2.2.2]
    exact ⟨_, rfl, HF.out.1, HF.out.2⟩
  exfalso
  have := HKK.out
  omega
end Go.Proofs.YtgndolgihplngaaGreatDoor
