/- The works of layer 26; a call of erase. -/
import Derived.Test.YtomfclkldmmmgaaDoorEra
import Derived.Test.YtomfclkldmmmgaaDoorRowO
import Derived.Test.YtomfclkldmmmgaaDoorCellP
import Derived.Test.YtomfclkldmmmgaaDoorCellU
import Derived.Test.YtomfclkldmmmgaaDoorFrame
import Derived.Test.YtomfclkldmmmgaaDoorReg
namespace Go.Proofs.YtomfclkldmmmgaaDoor
open Go.RowKit Go.ChangeShapes Go.WideShapes
theorem act_of (L : List Cl) (wrap : Bool) (a b : Int) : actL L wrap 0 a b = (eraL L a b, eraW L wrap a b) := by unfold actL; rw [if_pos rfl]
set_option maxRecDepth 100000 in
theorem edo_any (B g gc : Nat) (L : List Cl) (wrap : Bool) (k a b : Int) (w : World) (h : RowAt (fun _ => True) w B g gc L wrap) : Calls Tryd.prog 36 #[.pointer (some ⟨g, 0, none⟩), .agg #[.int .i64 k, .int .i64 a, .int .i64 b]] w (RowTurned (fun _ => True) w B g gc (actL L wrap k a b).1 (actL L wrap k a b).2) := by
  obtain ⟨W1, hW1⟩ : ∃ W1, W1 = w.alloc (.cells #[.int .i64 k, .int .i64 a, .int .i64 b] 60) := ⟨_, rfl⟩
  have b1 : Below w.heap.size w W1 := by rw [hW1]; exact (Below.refl _ _).alloc (Nat.le_refl _) _
  have hr := h.below b1
  have HU := Lib.hid (Upd.ofBelow (S := fun b => b = g ∨ b = gc) b1)
  clear h b1
  by_cases k0 : k = 0
  · subst k0
    rw [act_of]
    have H := Lib.hid (erange_any B g gc L wrap a b W1 hr)
    clear hr
    subst hW1
    go_enter Tryd.func36, Tryd.ntmps36
    go_wp2_with fail
    refine H.out.mono ?_
    rintro e w2 ⟨rfl, hr2, u2⟩
    have HE := Lib.hid (And.intro hr2 (HU.out.trans u2))
    clear hr2 u2
    go_wp2
    exact bodyPost_end (by kernel_rfl) rfl ⟨rfl, HE.out.1, HE.out.2⟩
  have d0 : (k == 0) = false := by rw [beq_eq_false_iff_ne]; exact k0
  by_cases k1 : k = 1
  · subst k1
    have H := Lib.hid (eleft_any B g gc L wrap a b W1 hr)
    clear hr k0 d0
    subst hW1
    go_enter Tryd.func36, Tryd.ntmps36
    go_wp2_with fail
    refine H.out.mono ?_
    rintro e w2 ⟨rfl, hr2, u2⟩
    have HE := Lib.hid (And.intro hr2 (HU.out.trans u2))
    clear hr2 u2
    go_wp2
    exact bodyPost_end (by kernel_rfl) rfl ⟨rfl, HE.out.1, HE.out.2⟩
  have d1 : (k == 1) = false := by rw [beq_eq_false_iff_ne]; exact k1
  by_cases k2 : k = 2
  · subst k2
    have H := Lib.hid (eright_any B g gc L wrap a b W1 hr)
    clear hr k0 d0 k1 d1
    subst hW1
    go_enter Tryd.func36, Tryd.ntmps36
    go_wp2_with fail
    refine H.out.mono ?_
    rintro e w2 ⟨rfl, hr2, u2⟩
    have HE := Lib.hid (And.intro hr2 (HU.out.trans u2))
    clear hr2 u2
    go_wp2
    exact bodyPost_end (by kernel_rfl) rfl ⟨rfl, HE.out.1, HE.out.2⟩
  have d2 : (k == 2) = false := by rw [beq_eq_false_iff_ne]; exact k2
  by_cases k3 : k = 3
  · subst k3
    have H := Lib.hid (eall_any B g gc L wrap a b W1 hr)
    clear hr k0 d0 k1 d1 k2 d2
    subst hW1
    go_enter Tryd.func36, Tryd.ntmps36
    go_wp2_with fail
    refine H.out.mono ?_
    rintro e w2 ⟨rfl, hr2, u2⟩
    have HE := Lib.hid (And.intro hr2 (HU.out.trans u2))
    clear hr2 u2
    go_wp2
    exact bodyPost_end (by kernel_rfl) rfl ⟨rfl, HE.out.1, HE.out.2⟩
  have d3 : (k == 3) = false := by rw [beq_eq_false_iff_ne]; exact k3
  have H := Lib.hid (ecells_any B g gc L wrap k a b ⟨k0, k1, k2, k3⟩ W1 hr)
  clear hr k0 k1 k2 k3
  subst hW1
  go_enter Tryd.func36, Tryd.ntmps36
  go_wp2_with fail
  refine H.out.mono ?_
  rintro e w2 ⟨rfl, hr2, u2⟩
  have HE := Lib.hid (And.intro hr2 (HU.out.trans u2))
  clear hr2 u2
  go_wp2
  exact bodyPost_end (by kernel_rfl) rfl ⟨rfl, HE.out.1, HE.out.2⟩
set_option maxRecDepth 100000 in
theorem edo_nil (k a b : Int) (w : World) : Calls Tryd.prog 36 #[.pointer none, .agg #[.int .i64 k, .int .i64 a, .int .i64 b]] w fun e w' => e = .returned (.tuple #[]) ∧ Below w.heap.size w w' := by
  have HB := Lib.hid ((Below.refl w.heap.size w).alloc (Nat.le_refl _) (.cells #[.int .i64 k, .int .i64 a, .int .i64 b] 60))
  by_cases k0 : k = 0
  · subst k0
    go_enter Tryd.func36, Tryd.ntmps36
    go_wp2_with fail
    refine (erange_nil _ _ _).mono ?_
    rintro e w' ⟨rfl, rfl⟩
    go_wp2
    exact bodyPost_end (by kernel_rfl) rfl ⟨rfl, HB.out⟩
  have d0 : (k == 0) = false := by rw [beq_eq_false_iff_ne]; exact k0
  by_cases k1 : k = 1
  · subst k1
    clear k0 d0
    go_enter Tryd.func36, Tryd.ntmps36
    go_wp2_with fail
    refine (eleft_nil _ _).mono ?_
    rintro e w' ⟨rfl, rfl⟩
    go_wp2
    exact bodyPost_end (by kernel_rfl) rfl ⟨rfl, HB.out⟩
  have d1 : (k == 1) = false := by rw [beq_eq_false_iff_ne]; exact k1
  by_cases k2 : k = 2
  · subst k2
    clear k0 d0 k1 d1
    go_enter Tryd.func36, Tryd.ntmps36
    go_wp2_with fail
    refine (eright_nil _ _).mono ?_
    rintro e w' ⟨rfl, rfl⟩
    go_wp2
    exact bodyPost_end (by kernel_rfl) rfl ⟨rfl, HB.out⟩
  have d2 : (k == 2) = false := by rw [beq_eq_false_iff_ne]; exact k2
  by_cases k3 : k = 3
  · subst k3
    clear k0 d0 k1 d1 k2 d2
    go_enter Tryd.func36, Tryd.ntmps36
    go_wp2_with fail
    refine (eall_nil _).mono ?_
    rintro e w' ⟨rfl, rfl⟩
    go_wp2
    exact bodyPost_end (by kernel_rfl) rfl ⟨rfl, HB.out⟩
  have d3 : (k == 3) = false := by rw [beq_eq_false_iff_ne]; exact k3
  clear k0 k1 k2 k3
  go_enter Tryd.func36, Tryd.ntmps36
  go_wp2_with fail
  refine (ecells_nil _ _ _).mono ?_
  rintro e w' ⟨rfl, rfl⟩
  go_wp2
  exact bodyPost_end (by kernel_rfl) rfl ⟨rfl, HB.out⟩
set_option maxRecDepth 100000 in
set_option maxHeartbeats 3000000 in
theorem works26_any (w : World) : Calls Tryd.prog 35 #[] w (Yes w) := by
  obtain ⟨i0, hi, hz0, hz1, hz2⟩ := info_parts info_cell
  have HI := Lib.hid (And.intro hi (And.intro hz0 (And.intro hz1 hz2)))
  clear hi hz0 hz1 hz2
  have hb1 := (Below.refl w.heap.size w).alloc (Nat.le_refl _) (.cells #[.int .i32 19968] 21)
  have HO := Lib.hid (rcof_any (fun _ => True) (fun _ => True) (fun _ => trivial) 2 (.slice (some ⟨w.heap.size, 0, none⟩) 1 1) [19968] (w.alloc (.cells #[.int .i32 19968] 21)) (heldE_one (Y := fun _ => False) [.int .i32 19968] 19968 rfl (fun _ _ h => h.elim) trivial))
  rw [show ofC 2 [19968] = [(2, [19968]), (3, [])] from by decide] at HO
  have HB1 := Lib.hid hb1
  clear hb1
  go_enter Tryd.func35, Tryd.ntmps35
  go_wp2_with fail
  refine HO.out.mono ?_
  rintro e w1 ⟨v1, rfl, ho1, b1⟩
  have HB2 := Lib.hid (HB1.out.trans (b1.mono HB1.out.size))
  have HP := Lib.hid (rof_ok _ _ _ _ (ho1.held (fun _ _ _ => trivial)) (by decide) (by decide) (by decide))
  clear ho1 b1
  go_wp2_with fail
  refine HP.out.mono ?_
  rintro e w2 ⟨g, gc, rfl, hr2, b2⟩
  have hr2 := hr2.keep (.refl _ _) (Y := fun _ => True) (fun _ _ _ => trivial)
  have HE := Lib.hid (ecells_any _ g gc _ _ 4 0 1 (by decide) w2 hr2)
  rw [show actL [(2, [19968]), (3, [])] false 4 0 1 = ([zc, zc], false) from by decide] at HE
  have hlt := hr2.lt
  have HB3 := Lib.hid (HB2.out.trans (b2.mono HB2.out.size))
  have HGL := Lib.hid (show w.heap.size ≤ g ∧ w.heap.size ≤ gc from by have := HB2.out.size; omega)
  clear hr2 hlt b2
  go_wp2_with fail
  refine HE.out.mono ?_
  rintro e w3 ⟨rfl, hr3, u3⟩
  have HR3 := Lib.hid hr3
  have HB4 := Lib.hid (HB3.out.upd u3 HB3.out.size (fun x e => by have := HGL.out; rcases e with e | e <;> omega))
  clear hr3 u3
  obtain ⟨Erg, hErg⟩ : ∃ EE : Nat → Value → World → Prop, EE = fun jj xx ww => match jj with
      | 0 => xx = .pointer (some ⟨g, 0, none⟩)
      | 1 => (fun x w' => HeldE cellE (fun _ => True) w' x [zc, zc]) xx ww
      | 2 => (fun x w' => HeldE cellE (fun _ => True) w' x [zc, zc]) xx ww
      | 3 => xx = .bool true
      | 4 => xx = .bool true
      | _ => True := ⟨_, rfl⟩
  have erg0 : ∀ xx ww, Erg 0 xx ww = (xx = .pointer (some ⟨g, 0, none⟩)) := fun xx ww => congrFun (congrFun (congrFun hErg 0) xx) ww
  have erg1 : ∀ xx ww, Erg 1 xx ww = ((fun x w' => HeldE cellE (fun _ => True) w' x [zc, zc]) xx ww) := fun xx ww => congrFun (congrFun (congrFun hErg 1) xx) ww
  have erg2 : ∀ xx ww, Erg 2 xx ww = ((fun x w' => HeldE cellE (fun _ => True) w' x [zc, zc]) xx ww) := fun xx ww => congrFun (congrFun (congrFun hErg 2) xx) ww
  have erg3 : ∀ xx ww, Erg 3 xx ww = (xx = .bool true) := fun xx ww => congrFun (congrFun (congrFun hErg 3) xx) ww
  have erg4 : ∀ xx ww, Erg 4 xx ww = (xx = .bool true) := fun xx ww => congrFun (congrFun (congrFun hErg 4) xx) ww
  obtain ⟨Crg, hCrg⟩ : ∃ CC : Array Bool → World → Prop, CC = fun L8 w' => Below w3.heap.size w3 w' := ⟨_, rfl⟩
  have krg : ∀ i L w,  Crg L w → Crg (L.setIfInBounds i true) w := by
    intro i L w  h
    rw [hCrg] at h ⊢
    exact h
  obtain ⟨Xrg, hXrg⟩ : ∃ XX : World → World → Prop, XX = fun x y => Below x.heap.size x y := ⟨_, rfl⟩
  have xrg : ∀ w, Xrg w w := fun w => by rw [hXrg]; exact Below.refl _ _
  have strg : ∀ j x w w1, Xrg w w1 → Erg j x w → Erg j x w1 := by
    intro j x w w1 hx h
    rw [hXrg] at hx
    match j with
    | 0 => rw [erg0] at h ⊢; exact h
    | 1 => rw [erg1] at h ⊢; (exact HeldE.below h hx)
    | 2 => rw [erg2] at h ⊢; (exact HeldE.below h hx)
    | 3 => rw [erg3] at h ⊢; exact h
    | 4 => rw [erg4] at h ⊢; exact h
    | j + 5 => rw [hErg]; trivial
  have crg : Crg (Array.replicate 5 false) w3.drew := by rw [hCrg]; exact (Below.refl _ _).drew
  have brg : ∀ L w w1, Crg L w → Below w.heap.size w w1 → Crg L w1 := by
    intro L w w1 h hb
    rw [hCrg] at h ⊢
    exact h.trans (hb.mono h.size)
  have xbrg : ∀ w w1, Below w.heap.size w w1 → Xrg w w1 := by
    intro w w1 hb
    rw [hXrg]
    exact hb
  have Hrgb := Lib.hid brg
  have Hrgxb := Lib.hid xbrg
  clear brg xbrg
  clear hErg
  have Hrgk := Lib.hid krg
  have Hrgx := Lib.hid xrg
  have Hrgst := Lib.hid strg
  have Hrgc := Lib.hid crg
  have HrghC := Lib.hid hCrg
  have HrghX := Lib.hid hXrg
  have Hrge0 := Lib.hid erg0
  have Hrge1 := Lib.hid erg1
  have Hrge2 := Lib.hid erg2
  have Hrge3 := Lib.hid erg3
  have Hrge4 := Lib.hid erg4
  clear krg xrg strg crg hCrg hXrg erg0 erg1 erg2 erg3 erg4
  go_wp2_with fail
  refine Reg.regionF Erg Crg Xrg Hrgst.out (by kernel_rfl) (by kernel_rfl) (by kernel_rfl) Hrgc.out (fun Frg hFrg => ?_)
  simp only [Reg.frame, Reg.dsts, List.map_cons, List.map_nil, Mix.put_lit, List.set_cons_succ, List.set_cons_zero, Nat.zero_add, Nat.reduceAdd] at hFrg
  refine ⟨?_, ?_⟩
  · refine ⟨?_, ?_, ?_, ?_, ?_, trivial⟩
    · intro Lq wq xq hh
      simp only [hFrg]
      refine .inl ⟨rfl, ?_⟩
      unfold Reg.upon
      have hk := Hrgk.out 0 Lq wq  hh.cls
      have hx := Hrgx.out wq
      have he : Erg 0 (.pointer (some ⟨g, 0, none⟩)) wq := by rw [Hrge0.out]
      have HK := Lib.hid (And.intro hk (And.intro he hx))
      clear hk hx he
      go_simp
      exact HK.out
    · intro Lq wq xq hh
      have d0 : Erg 0 (xq 0) wq := hh.val 0 (by kernel_rfl) (by kernel_rfl)
      rw [Hrge0.out] at d0
      simp only [hFrg, d0]
      clear d0
      refine .inl ⟨rfl, ?_⟩
      unfold Reg.upon
      have hc : Crg Lq wq := hh.cls
      rw [HrghC.out] at hc
      go_simp
      refine (rcells_any _ _ g gc _ _ _ (HR3.out.below hc)).mono ?_
      rintro e w2 ⟨v2, rfl, ho, hb⟩
      refine ⟨_, rfl, Hrgk.out 1 Lq w2 (Hrgb.out Lq wq w2 hh.cls hb), ?_, Hrgxb.out wq w2 hb⟩
      rw [Hrge1.out]
      exact (ho.held (fun _ h _ => h)).zone (fun _ _ _ => trivial)
    · intro Lq wq xq hh
      simp only [hFrg]
      refine .inl ⟨rfl, ?_⟩
      unfold Reg.upon
      obtain ⟨w9, hrun, r1, r2⟩ := run_make_full (P := Tryd.prog) wq wq.heap.size 22 27 i0 (.agg #[.int .i64 0, .slice none 0 0]) 2 Tryd.underlying22 HI.out.1 HI.out.2.1 HI.out.2.2.1 .i64 .i64 2 (by rw [HI.out.2.2.2]; omega) (by decide) (Nat.le_refl _)
      have b9 : Below wq.heap.size wq w9 := (Below.refl _ _).grown r2 (Nat.le_refl _) (by intro k hk; cases hk)
      have o9 := (blank_own (Z := fun _ => True) r1).held (fun _ _ _ => trivial)
      have H9 := Lib.hid o9
      clear o9 r1 r2
      simp at hrun
      go_simp
      exact ⟨Hrgk.out 2 Lq w9 (Hrgb.out Lq wq w9 hh.cls b9), (by rw [Hrge2.out]; exact H9.out), Hrgxb.out wq w9 b9⟩
    · intro Lq wq xq hh
      have d1 : Erg 1 (xq 1) wq := hh.val 1 (by kernel_rfl) (by kernel_rfl)
      rw [Hrge1.out] at d1
      have d2 : Erg 2 (xq 2) wq := hh.val 2 (by kernel_rfl) (by kernel_rfl)
      rw [Hrge2.out] at d2
      simp only [hFrg]
      refine .inl ⟨rfl, ?_⟩
      unfold Reg.upon
      have hc : Crg Lq wq := hh.cls
      rw [HrghC.out] at hc
      go_simp
      refine ((show Calls _ _ _ _ (Gives _ (.bool true)) from (sameC_self [zc, zc]) ▸ rcsame_any _ _ _ _ _ _ _ d1 d2)).mono ?_
      rintro e w2 ⟨rfl, hb⟩
      exact ⟨_, rfl, Hrgk.out 3 Lq w2  (Hrgb.out Lq wq w2 hh.cls hb), (by rw [Hrge3.out]; try rfl), Hrgxb.out wq w2 hb⟩
    · intro Lq wq xq hh
      have d3 : Erg 3 (xq 3) wq := hh.val 3 (by kernel_rfl) (by kernel_rfl)
      rw [Hrge3.out] at d3
      simp only [hFrg, d3]
      clear d3
      refine .inl ⟨rfl, ?_⟩
      unfold Reg.upon
      have hk := Hrgk.out 4 Lq wq  hh.cls
      have hx := Hrgx.out wq
      have he : Erg 4 (.bool true) wq := by rw [Hrge4.out]
      have HK := Lib.hid (And.intro hk (And.intro he hx))
      clear hk hx he
      go_simp
      exact HK.out
  intro xq wrg hcrg hvrg
  rw [HrghC.out] at hcrg
  simp only [hFrg]
  have vrg4 : Erg 4 (xq 4) wrg := hvrg 4 (by decide)
  rw [Hrge4.out] at vrg4
  rw [vrg4]
  clear hvrg hFrg Hrgk Hrgx Hrgst Hrgc HrghC HrghX Hrgb Hrgxb Hrge0 Hrge1 Hrge2 Hrge3 Hrge4
  go_wp2
  go_ret
  exact ⟨(ret_eq (by first | rfl | (simp <;> omega))), HB4.out.trans (hcrg.mono HB4.out.size)⟩
end Go.Proofs.YtomfclkldmmmgaaDoor
