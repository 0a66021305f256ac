/- Texts put together: RowO, TxtA, TxtB, TxtC, TxtM, TxtD. -/
import Derived.Test.YtmclmhdlnlcafaaDoorRowC
import Derived.Test.YtmclmhdlnlcafaaDoorErrS
import Derived.Test.YtmclmhdlnlcafaaDoorMg1
import Derived.Test.YtmclmhdlnlcafaaDoorItemR
import Derived.Test.YtmclmhdlnlcafaaDoorCellP
import Derived.Deep.Cut
/- Row.Copy, row.Of. -/
namespace Go.Proofs.YtmclmhdlnlcafaaDoor
open Go.RowKit Go.ChangeShapes Go.WideShapes
set_option maxRecDepth 100000 in
set_option maxHeartbeats 1600000 in
theorem rcopy_any (Z : Zone) (B g gc : Nat) (L : List Cl) (wrap : Bool) (w : World) (h : RowAt Z w B g gc L wrap) : Calls Tryd.prog 77 #[.pointer (some ⟨g, 0, none⟩)] w (RowMade (fun b => w.heap.size ≤ b) w L wrap) := by
  obtain ⟨hpos, hl, hs⟩ := h.len
  obtain ⟨cap, h1, h2⟩ := h.held
  have HC0 := Lib.hid (h1.cell 0 _ rfl)
  have HC1 := Lib.hid (h1.cell 1 _ rfl)
  have HGL := Lib.hid h1.lt
  have H2 := Lib.hid h2
  have HSH := Lib.hid (sound_short hs)
  have HSD := Lib.hid hs
  clear h h1 h2 hs
  go_enter Tryd.func77, Tryd.ntmps77
  go_wp2
  obtain ⟨Erg, hErg⟩ : ∃ EE : Nat → Value → World → Prop, EE = fun jj xx ww => match jj with
      | 0 => xx = .pointer (some ⟨g, 0, none⟩)
      | 1 => xx = .pointer (some ⟨g, 0, none⟩)
      | 2 => xx = .pointer (some ⟨g, 0, none⟩)
      | 3 => xx = .slice (some ⟨gc, 0, none⟩) L.length cap
      | 4 => (fun x w' => OwnE cellE (fun b => w.heap.size ≤ b) w' w.heap.size 40 x L) xx ww
      | 5 => xx = .pointer (some ⟨g, 0, none⟩)
      | 6 => xx = .pointer (some ⟨g, 0, none⟩)
      | 7 => xx = .pointer (some ⟨g, 1, none⟩)
      | 8 => xx = .bool wrap
      | 9 => (fun x w' => ∃ gc9 cap9, x = .agg #[.slice (some ⟨gc9, 0, none⟩) L.length cap9, .bool wrap] ∧ OwnE cellE (fun b => w.heap.size ≤ b) w' w.heap.size 40 (.slice (some ⟨gc9, 0, none⟩) L.length cap9) L) xx ww
      | 10 => (fun x w' => ∃ g9 gc9, x = .pointer (some ⟨g9, 0, none⟩) ∧ RowAt (fun b => w.heap.size ≤ b) w' w.heap.size g9 gc9 L wrap) xx ww
      | 11 => (fun x w' => ∃ g9 gc9, x = .pointer (some ⟨g9, 0, none⟩) ∧ RowAt (fun b => w.heap.size ≤ b) w' w.heap.size g9 gc9 L wrap) xx ww
      | _ => True := ⟨_, rfl⟩
  have erg0 : ∀ xx ww, Erg 0 xx ww = (xx = .pointer (some ⟨g, 0, none⟩)) := fun xx ww => congrFun (congrFun (congrFun hErg 0) xx) ww
  have erg1 : ∀ xx ww, Erg 1 xx ww = (xx = .pointer (some ⟨g, 0, none⟩)) := fun xx ww => congrFun (congrFun (congrFun hErg 1) xx) ww
  have erg2 : ∀ xx ww, Erg 2 xx ww = (xx = .pointer (some ⟨g, 0, none⟩)) := fun xx ww => congrFun (congrFun (congrFun hErg 2) xx) ww
  have erg3 : ∀ xx ww, Erg 3 xx ww = (xx = .slice (some ⟨gc, 0, none⟩) L.length cap) := fun xx ww => congrFun (congrFun (congrFun hErg 3) xx) ww
  have erg4 : ∀ xx ww, Erg 4 xx ww = ((fun x w' => OwnE cellE (fun b => w.heap.size ≤ b) w' w.heap.size 40 x L) xx ww) := fun xx ww => congrFun (congrFun (congrFun hErg 4) xx) ww
  have erg5 : ∀ xx ww, Erg 5 xx ww = (xx = .pointer (some ⟨g, 0, none⟩)) := fun xx ww => congrFun (congrFun (congrFun hErg 5) xx) ww
  have erg6 : ∀ xx ww, Erg 6 xx ww = (xx = .pointer (some ⟨g, 0, none⟩)) := fun xx ww => congrFun (congrFun (congrFun hErg 6) xx) ww
  have erg7 : ∀ xx ww, Erg 7 xx ww = (xx = .pointer (some ⟨g, 1, none⟩)) := fun xx ww => congrFun (congrFun (congrFun hErg 7) xx) ww
  have erg8 : ∀ xx ww, Erg 8 xx ww = (xx = .bool wrap) := fun xx ww => congrFun (congrFun (congrFun hErg 8) xx) ww
  have erg9 : ∀ xx ww, Erg 9 xx ww = ((fun x w' => ∃ gc9 cap9, x = .agg #[.slice (some ⟨gc9, 0, none⟩) L.length cap9, .bool wrap] ∧ OwnE cellE (fun b => w.heap.size ≤ b) w' w.heap.size 40 (.slice (some ⟨gc9, 0, none⟩) L.length cap9) L) xx ww) := fun xx ww => congrFun (congrFun (congrFun hErg 9) xx) ww
  have erg10 : ∀ xx ww, Erg 10 xx ww = ((fun x w' => ∃ g9 gc9, x = .pointer (some ⟨g9, 0, none⟩) ∧ RowAt (fun b => w.heap.size ≤ b) w' w.heap.size g9 gc9 L wrap) xx ww) := fun xx ww => congrFun (congrFun (congrFun hErg 10) xx) ww
  have erg11 : ∀ xx ww, Erg 11 xx ww = ((fun x w' => ∃ g9 gc9, x = .pointer (some ⟨g9, 0, none⟩) ∧ RowAt (fun b => w.heap.size ≤ b) w' w.heap.size g9 gc9 L wrap) xx ww) := fun xx ww => congrFun (congrFun (congrFun hErg 11) xx) ww
  obtain ⟨Crg, hCrg⟩ : ∃ CC : Array Bool → World → Prop, CC = fun L8 w' => Below w.heap.size w w' := ⟨_, rfl⟩
  have krg : ∀ i L w,  Crg L w → Crg (L.setIfInBounds i true) w := by
    intro i L w  h
    rw [hCrg] at h ⊢
    exact h
  obtain ⟨Xrg, hXrg⟩ : ∃ XX : World → World → Prop, XX = fun a b => Below a.heap.size a b := ⟨_, rfl⟩
  have xrg : ∀ w, Xrg w w := fun w => by rw [hXrg]; exact Below.refl _ _
  have strg : ∀ j x w w1, Xrg w w1 → Erg j x w → Erg j x w1 := by
    intro j x w w1 hx h
    rw [hXrg] at hx
    match j with
    | 0 => rw [erg0] at h ⊢; exact h
    | 1 => rw [erg1] at h ⊢; exact h
    | 2 => rw [erg2] at h ⊢; exact h
    | 3 => rw [erg3] at h ⊢; exact h
    | 4 => rw [erg4] at h ⊢; (first | exact OwnE.below h hx | (obtain ⟨gc9, cap9, e9, h9⟩ := h; exact ⟨gc9, cap9, e9, OwnE.below h9 hx⟩) | (obtain ⟨g9, gc9, e9, h9⟩ := h; exact ⟨g9, gc9, e9, RowAt.below h9 hx⟩))
    | 5 => rw [erg5] at h ⊢; exact h
    | 6 => rw [erg6] at h ⊢; exact h
    | 7 => rw [erg7] at h ⊢; exact h
    | 8 => rw [erg8] at h ⊢; exact h
    | 9 => rw [erg9] at h ⊢; (first | exact OwnE.below h hx | (obtain ⟨gc9, cap9, e9, h9⟩ := h; exact ⟨gc9, cap9, e9, OwnE.below h9 hx⟩) | (obtain ⟨g9, gc9, e9, h9⟩ := h; exact ⟨g9, gc9, e9, RowAt.below h9 hx⟩))
    | 10 => rw [erg10] at h ⊢; (first | exact OwnE.below h hx | (obtain ⟨gc9, cap9, e9, h9⟩ := h; exact ⟨gc9, cap9, e9, OwnE.below h9 hx⟩) | (obtain ⟨g9, gc9, e9, h9⟩ := h; exact ⟨g9, gc9, e9, RowAt.below h9 hx⟩))
    | 11 => rw [erg11] at h ⊢; (first | exact OwnE.below h hx | (obtain ⟨gc9, cap9, e9, h9⟩ := h; exact ⟨gc9, cap9, e9, OwnE.below h9 hx⟩) | (obtain ⟨g9, gc9, e9, h9⟩ := h; exact ⟨g9, gc9, e9, RowAt.below h9 hx⟩))
    | j + 12 => rw [hErg]; trivial
  have crg : Crg (Array.replicate 12 false) w.drew := by rw [hCrg]; exact (Below.refl _ _).drew
  have brg : ∀ L w w1, Crg L w → Below w.heap.size w w1 → Crg L w1 := by
    intro L w w1 h hb
    rw [hCrg] at h ⊢
    exact h.trans (hb.mono h.size)
  have xbrg : ∀ w w1, Below w.heap.size w w1 → Xrg w w1 := by
    intro w w1 hb
    rw [hXrg]
    exact hb
  have Hrgb := Lib.hid brg
  have Hrgxb := Lib.hid xbrg
  clear brg xbrg
  clear hErg
  have Hrgk := Lib.hid krg
  have Hrgx := Lib.hid xrg
  have Hrgst := Lib.hid strg
  have Hrgc := Lib.hid crg
  have HrghC := Lib.hid hCrg
  have HrghX := Lib.hid hXrg
  have Hrge0 := Lib.hid erg0
  have Hrge1 := Lib.hid erg1
  have Hrge2 := Lib.hid erg2
  have Hrge3 := Lib.hid erg3
  have Hrge4 := Lib.hid erg4
  have Hrge5 := Lib.hid erg5
  have Hrge6 := Lib.hid erg6
  have Hrge7 := Lib.hid erg7
  have Hrge8 := Lib.hid erg8
  have Hrge9 := Lib.hid erg9
  have Hrge10 := Lib.hid erg10
  have Hrge11 := Lib.hid erg11
  clear krg xrg strg crg hCrg hXrg erg0 erg1 erg2 erg3 erg4 erg5 erg6 erg7 erg8 erg9 erg10 erg11
  go_wp2_with fail
  refine Reg.regionF Erg Crg Xrg Hrgst.out (by kernel_rfl) (by kernel_rfl) (by kernel_rfl) Hrgc.out (fun Frg hFrg => ?_)
  simp only [Reg.frame, Reg.dsts, List.map_cons, List.map_nil, Mix.put_lit, List.set_cons_succ, List.set_cons_zero, Nat.zero_add, Nat.reduceAdd] at hFrg
  refine ⟨?_, ?_⟩
  · refine ⟨?_, ?_, ?_, ?_, ?_, ?_, ?_, ?_, ?_, ?_, ?_, ?_, trivial⟩
    · intro Lq wq xq hh
      simp only [hFrg]
      refine .inl ⟨rfl, ?_⟩
      unfold Reg.upon
      have hk := Hrgk.out 0 Lq wq  hh.cls
      have hx := Hrgx.out wq
      have he : Erg 0 (.pointer (some ⟨g, 0, none⟩)) wq := by rw [Hrge0.out]
      have HK := Lib.hid (And.intro hk (And.intro he hx))
      clear hk hx he
      go_simp
      exact HK.out
    · intro Lq wq xq hh
      have d0 : Erg 0 (xq 0) wq := hh.val 0 (by kernel_rfl) (by kernel_rfl)
      rw [Hrge0.out] at d0
      simp only [hFrg, d0]
      clear d0
      refine .inl ⟨rfl, ?_⟩
      unfold Reg.upon
      have hk := Hrgk.out 1 Lq wq  hh.cls
      have hx := Hrgx.out wq
      have he : Erg 1 (.pointer (some ⟨g, 0, none⟩)) wq := by rw [Hrge1.out]
      have HK := Lib.hid (And.intro hk (And.intro he hx))
      clear hk hx he
      go_simp
      exact HK.out
    · intro Lq wq xq hh
      have d1 : Erg 1 (xq 1) wq := hh.val 1 (by kernel_rfl) (by kernel_rfl)
      rw [Hrge1.out] at d1
      simp only [hFrg, d1]
      clear d1
      refine .inl ⟨rfl, ?_⟩
      unfold Reg.upon
      have hk := Hrgk.out 2 Lq wq  hh.cls
      have hx := Hrgx.out wq
      have he : Erg 2 (.pointer (some ⟨g, 0, none⟩)) wq := by rw [Hrge2.out]
      have HK := Lib.hid (And.intro hk (And.intro he hx))
      clear hk hx he
      go_simp
      exact HK.out
    · intro Lq wq xq hh
      have d2 : Erg 2 (xq 2) wq := hh.val 2 (by kernel_rfl) (by kernel_rfl)
      rw [Hrge2.out] at d2
      simp only [hFrg, d2]
      clear d2
      refine .inl ⟨rfl, ?_⟩
      unfold Reg.upon
      have hc : Crg Lq wq := hh.cls
      rw [HrghC.out] at hc
      have hc0 := (hc.cell (p := ⟨g, 0, none⟩) HGL.out).trans HC0.out
      clear hc
      have hk := Hrgk.out 3 Lq wq  hh.cls
      have hx := Hrgx.out wq
      have he : Erg 3 (.slice (some ⟨gc, 0, none⟩) L.length cap) wq := by rw [Hrge3.out]
      have HK := Lib.hid (And.intro hk (And.intro he hx))
      clear hk hx he
      go_simp
      exact HK.out
    · intro Lq wq xq hh
      have d3 : Erg 3 (xq 3) wq := hh.val 3 (by kernel_rfl) (by kernel_rfl)
      rw [Hrge3.out] at d3
      simp only [hFrg, d3]
      clear d3
      refine .inl ⟨rfl, ?_⟩
      unfold Reg.upon
      have hc : Crg Lq wq := hh.cls
      rw [HrghC.out] at hc
      go_simp
      refine (clonecs_any _ _ L wq (H2.out.below hc) (by omega) HSH.out).mono ?_
      rintro e w2 ⟨v2, rfl, ho, hb⟩
      refine ⟨_, rfl, Hrgk.out 4 Lq w2 (Hrgb.out Lq wq w2 hh.cls hb), ?_, Hrgxb.out wq w2 hb⟩
      rw [Hrge4.out]
      exact (ho.base hc.size).zone (fun b _ k => Nat.le_trans hc.size k)
    · intro Lq wq xq hh
      simp only [hFrg]
      refine .inl ⟨rfl, ?_⟩
      unfold Reg.upon
      have hk := Hrgk.out 5 Lq wq  hh.cls
      have hx := Hrgx.out wq
      have he : Erg 5 (.pointer (some ⟨g, 0, none⟩)) wq := by rw [Hrge5.out]
      have HK := Lib.hid (And.intro hk (And.intro he hx))
      clear hk hx he
      go_simp
      exact HK.out
    · intro Lq wq xq hh
      have d5 : Erg 5 (xq 5) wq := hh.val 5 (by kernel_rfl) (by kernel_rfl)
      rw [Hrge5.out] at d5
      simp only [hFrg, d5]
      clear d5
      refine .inl ⟨rfl, ?_⟩
      unfold Reg.upon
      have hk := Hrgk.out 6 Lq wq  hh.cls
      have hx := Hrgx.out wq
      have he : Erg 6 (.pointer (some ⟨g, 0, none⟩)) wq := by rw [Hrge6.out]
      have HK := Lib.hid (And.intro hk (And.intro he hx))
      clear hk hx he
      go_simp
      exact HK.out
    · intro Lq wq xq hh
      have d6 : Erg 6 (xq 6) wq := hh.val 6 (by kernel_rfl) (by kernel_rfl)
      rw [Hrge6.out] at d6
      simp only [hFrg, d6]
      clear d6
      refine .inl ⟨rfl, ?_⟩
      unfold Reg.upon
      have hk := Hrgk.out 7 Lq wq  hh.cls
      have hx := Hrgx.out wq
      have he : Erg 7 (.pointer (some ⟨g, 1, none⟩)) wq := by rw [Hrge7.out]
      have HK := Lib.hid (And.intro hk (And.intro he hx))
      clear hk hx he
      go_simp
      exact HK.out
    · intro Lq wq xq hh
      have d7 : Erg 7 (xq 7) wq := hh.val 7 (by kernel_rfl) (by kernel_rfl)
      rw [Hrge7.out] at d7
      simp only [hFrg, d7]
      clear d7
      refine .inl ⟨rfl, ?_⟩
      unfold Reg.upon
      have hc : Crg Lq wq := hh.cls
      rw [HrghC.out] at hc
      have hc1 := (hc.cell (p := ⟨g, 1, none⟩) HGL.out).trans HC1.out
      clear hc
      have hk := Hrgk.out 8 Lq wq  hh.cls
      have hx := Hrgx.out wq
      have he : Erg 8 (.bool wrap) wq := by rw [Hrge8.out]
      have HK := Lib.hid (And.intro hk (And.intro he hx))
      clear hk hx he
      go_simp
      exact HK.out
    · intro Lq wq xq hh
      have d4 : Erg 4 (xq 4) wq := hh.val 4 (by kernel_rfl) (by kernel_rfl)
      rw [Hrge4.out] at d4
      have d8 : Erg 8 (xq 8) wq := hh.val 8 (by kernel_rfl) (by kernel_rfl)
      rw [Hrge8.out] at d8
      simp only [hFrg, d8]
      clear d8
      refine .inl ⟨rfl, ?_⟩
      unfold Reg.upon
      obtain ⟨gc9, cap9, e9, _, _⟩ := d4.some hpos
      rw [e9] at d4 ⊢
      go_simp
      exact ⟨Hrgk.out 9 Lq wq hh.cls, (by rw [Hrge9.out]; exact ⟨_, _, rfl, d4⟩), Hrgx.out _⟩
    · intro Lq wq xq hh
      have d9 : Erg 9 (xq 9) wq := hh.val 9 (by kernel_rfl) (by kernel_rfl)
      rw [Hrge9.out] at d9
      simp only [hFrg]
      refine .inl ⟨rfl, ?_⟩
      unfold Reg.upon
      obtain ⟨gc9, cap9, e9, h9⟩ := d9
      rw [e9]
      have hc : Crg Lq wq := hh.cls
      rw [HrghC.out] at hc
      have hb1 := (Below.refl wq.heap.size wq).alloc (Nat.le_refl _) (.cells #[.slice (some ⟨gc9, 0, none⟩) L.length cap9, .bool wrap] 93)
      obtain ⟨gc8, hr8⟩ := row_new (wrap := wrap) h9 hc.size hpos hl HSD.out
      go_simp
      refine ⟨Hrgk.out 10 Lq _ (Hrgb.out Lq wq _ hh.cls hb1), ?_, Hrgxb.out wq _ hb1⟩
      rw [Hrge10.out]
      exact ⟨_, gc8, rfl, hr8⟩
    · intro Lq wq xq hh
      have d10 : Erg 10 (xq 10) wq := hh.val 10 (by kernel_rfl) (by kernel_rfl)
      rw [Hrge10.out] at d10
      simp only [hFrg]
      refine .inl ⟨rfl, ?_⟩
      unfold Reg.upon
      go_simp
      exact ⟨Hrgk.out 11 Lq wq hh.cls, (by rw [Hrge11.out]; exact d10), Hrgx.out wq⟩
  intro xq wrg hcrg hvrg
  rw [HrghC.out] at hcrg
  simp only [hFrg]
  have vrg11 : Erg 11 (xq 11) wrg := hvrg 11 (by decide)
  rw [Hrge11.out] at vrg11
  clear hvrg hFrg Hrgk Hrgx Hrgst Hrgc HrghC HrghX Hrgb Hrgxb Hrge0 Hrge1 Hrge2 Hrge3 Hrge4 Hrge5 Hrge6 Hrge7 Hrge8 Hrge9 Hrge10 Hrge11
  obtain ⟨g9, gc9, e9, h9⟩ := vrg11
  rw [e9]
  have H9 := Lib.hid h9
  have HB := Lib.hid hcrg
  clear e9 h9 hcrg
  go_wp2
  go_ret
  exact ⟨g9, gc9, rfl, H9.out, HB.out⟩
theorem rcopy_nil (w : World) : Calls Tryd.prog 77 #[.pointer none] w fun e w' => e = .returned (.pointer none) ∧ w = w' := by
  go_enter Tryd.func77, Tryd.ntmps77
  go_wp2
  go_ret
  exact ⟨rfl, rfl⟩
section
variable (sa : Nat → Addr) (Y : Zone) (L : List Cl) (v : Value) (w : World)
set_option maxRecDepth 100000 in
theorem rof_range (hs : Sents w sa) (hv : HeldE cellE Y w v L) (hbad : L.length = 0 ∨ 1024 < L.length) : Calls Tryd.prog 15 #[v] w (Gives w (.tuple #[.pointer none, .iface 154 (.pointer (some (sa 2)))])) := by
  have c2 := hs.cell 2 (by decide)
  simp only [glob] at c2
  have hm := hv.max
  obtain ⟨ao, pc, rfl⟩ := hv.len
  clear hs hv
  rcases hbad with h0 | h0
  · have hz : ((L.length : Int) == 0) = true := by rw [h0]; rfl
    clear h0
    go_enter Tryd.func15, Tryd.ntmps15
    go_wp2
    go_quiet (fail)
    go_wp2
    go_ret2
    exact ⟨rfl, (Below.refl _ _).drewN _⟩
  · have hz : ((L.length : Int) == 0) = false := by rw [beq_eq_false_iff_ne]; omega
    go_enter Tryd.func15, Tryd.ntmps15
    go_wp2
    go_quiet (fail)
    go_wp2
    go_ret2
    exact ⟨rfl, (Below.refl _ _).drewN _⟩
set_option maxRecDepth 100000 in
theorem rof_kind (hs : Sents w sa) (hv : HeldE cellE Y w v L) (h0 : 0 < L.length) (h1 : L.length ≤ 1024) (hbad : soundB L = false) : Calls Tryd.prog 15 #[v] w (Gives w (.tuple #[.pointer none, .iface 154 (.pointer (some (sa 4)))])) := by
  have HS := Lib.hid hs
  have HSD := Lib.hid (sound_any _ _ _ _ hv)
  rw [hbad] at HSD
  obtain ⟨ao, pc, rfl⟩ := hv.len
  clear hs hv hbad
  have hz : ((L.length : Int) == 0) = false := by rw [beq_eq_false_iff_ne]; omega
  go_enter Tryd.func15, Tryd.ntmps15
  go_wp2_with fail
  refine HSD.out.mono ?_
  rintro e w2 ⟨rfl, b2⟩
  have c4 := (HS.out.below b2).cell 4 (by decide)
  simp only [glob] at c4
  go_wp2
  go_quiet (fail)
  go_wp2
  go_ret2
  exact ⟨rfl, b2.drewN _⟩
def RowOf (e : Ending) (w' : World) : Prop := ∃ g gc, e = .returned (.tuple #[.pointer (some ⟨g, 0, none⟩), .nilIface]) ∧ RowAt (fun b => w.heap.size ≤ b) w' w.heap.size g gc L false ∧ Below w.heap.size w w'
set_option maxRecDepth 100000 in
theorem rof_ok (hv : HeldE cellE Y w v L) (h0 : 0 < L.length) (h1 : L.length ≤ 1024) (hsd : soundB L = true) : Calls Tryd.prog 15 #[v] w (RowOf L w) := by
  have HSD := Lib.hid (sound_any _ _ _ _ hv)
  rw [hsd] at HSD
  have HV := Lib.hid hv
  have HSS := Lib.hid hsd
  obtain ⟨ao, pc, rfl⟩ := hv.len
  clear hv hsd
  have hz : ((L.length : Int) == 0) = false := by rw [beq_eq_false_iff_ne]; omega
  go_enter Tryd.func15, Tryd.ntmps15
  go_wp2_with fail
  refine HSD.out.mono ?_
  rintro e w2 ⟨rfl, b2⟩
  have B2 := Lib.hid b2
  clear b2
  go_wp2_with fail
  refine (clonecs_any _ _ L w2 (HV.out.below B2.out) (by omega) (sound_short HSS.out)).mono ?_
  rintro e w3 ⟨v3, rfl, ho3, b3⟩
  have B3 := Lib.hid (B2.out.trans (b3.mono B2.out.size))
  have ho3 := (ho3.base B2.out.size).zone (Y := fun b => w.heap.size ≤ b) (fun b _ k => Nat.le_trans B2.out.size k)
  obtain ⟨gc0, cap0, rfl, _, _⟩ := ho3.some h0
  obtain ⟨gc, hr⟩ := row_new (wrap := false) ho3 B3.out.size h0 h1 HSS.out
  have HR := Lib.hid hr
  clear ho3 b3 hr
  go_wp2
  go_ret2
  exact ⟨_, gc, rfl, HR.out, B3.out.alloc B3.out.size _⟩
end
end Go.Proofs.YtmclmhdlnlcafaaDoor
/- rowtext: Text, Used; the reference's Text, Used (30). -/
namespace Go.Proofs.YtmclmhdlnlcafaaDoor
open Go.RowKit Go.ChangeShapes Go.WideShapes
set_option maxRecDepth 100000 in
set_option maxHeartbeats 800000 in
theorem rtext_any (Z : Zone) (B g gc : Nat) (L : List Cl) (wrap : Bool) (w : World) (h : RowAt Z w B g gc L wrap) (ht : (textL L).length ≤ 1000000000000) : Calls Tryd.prog 17 #[.pointer (some ⟨g, 0, none⟩)] w (MadeE (intE .i32) (fun _ => True) 21 w (textL L)) := by
  go_enter Tryd.func17, Tryd.ntmps17
  go_wp2_with fail
  refine (rcells_any _ _ g gc _ _ _ h).mono ?_
  rintro e w1 ⟨v1, rfl, ho1, b1⟩
  have hv := ho1.held (fun b hb _ => hb)
  have HB := Lib.hid b1
  clear ho1 b1 h
  have hl := hv.max
  have hv := hv.zone (Y := fun b => b < w1.heap.size) (fun b hb _ => hb)
  obtain ⟨ao, cap, rfl⟩ := hv.len
  obtain ⟨_, _, hc⟩ := cells_at hv
  have HC := Lib.hid hc
  clear hc hv
  go_wp2
  go_loopw [3, 9] (fun t i wr => ∃ k : Nat, k ≤ (L).length ∧ i = .int .i64 k ∧ OwnE (intE .i32) (fun _ => True) wr w1.heap.size 21 t (textL ((L).take k)) ∧ Below w1.heap.size w1 wr) (fun _ i _ => (L).length - (intOf i).toNat)
  case atStart => exact ⟨0, Nat.zero_le _, rfl, OwnE.nil _ _ _ _ _, Below.refl _ _⟩
  case round =>
    obtain ⟨k, hk, rfl, hown, hbw⟩ := hrel
    have HBW := Lib.hid hbw
    clear hbw
    by_cases hlt : k < (L).length
    · obtain ⟨b, off, tv, rfl, hb, _, c0, c1, hh⟩ := HC.out k hlt
      have hh := hh.below HBW.out
      have c0 := (HBW.out.cell (p := ⟨b, off + k * 2, none⟩) hb).trans c0
      have c1 := (HBW.out.cell (p := ⟨b, off + k * 2 + 1, none⟩) hb).trans c1
      have hs := textL_succ (L) k hlt
      have hle := textL_le (L) (k + 1)
      rw [hs, List.length_append] at hle
      obtain ⟨⟨K, T⟩, hKT⟩ : ∃ y, y = (L).getD k zc := ⟨_, rfl⟩
      rw [← hKT] at c0 hh hs hle
      simp only at c0 hh hs hle
      have HS := Lib.hid hs
      clear hs hKT
      obtain ⟨P0, hP⟩ : ∃ P0, P0 = textL ((L).take k) := ⟨_, rfl⟩
      rw [← hP] at hown HS hle
      clear hP
      obtain ⟨W1, hW1⟩ : ∃ W1, W1 = wr.alloc (.cells #[.int .i64 K, tv] 40) := ⟨_, rfl⟩
      have hb1 : Below wr.heap.size wr W1 := by rw [hW1]; exact (Below.refl _ _).alloc (Nat.le_refl _) _
      have hlo := hown.lt
      have hown := hown.below hb1
      have hu : HeldE (intE .i32) (fun b => True ∧ _ ≠ some b) W1 tv T := (hh.below hb1).zone (fun b _ hz => ⟨trivial, fun e => by have := (hlo b e).1; omega⟩)
      have HO := Lib.hid hown
      have HU := Lib.hid hu
      have HB1 := Lib.hid (HBW.out.trans (hb1.mono HBW.out.size))
      subst hW1
      obtain ⟨tz9, tc, rfl⟩ := hh.len
      clear hown hu hb1 hlo hh
      have hn1 : P0.length + T.length ≤ 1000000000000 := by omega
      go_wp2_with (at_builtin; refine wpList_append_e (E := intE .i32) (Z := fun _ => True) rfl (.tmp 13) (.tmp 15) 31 rfl (.int .i32 0) 4 Tryd.underlying31 info_rune rfl (Nat.lt_succ_self 0) rfl rfl HO.out HU.out (by omega) (by omega) HB1.out.size ?_)
      intro v2 w2 ho2 hb2 _ _
      have hb3 := HB1.out.trans hb2
      rw [← HS.out] at ho2
      have H2 := Lib.hid ho2
      have H3 := Lib.hid hb3
      clear ho2 hb2 hb3
      go_wp2
      go_roundw
      case rel => exact ⟨k + 1, by omega, by go_num, H2.out, H3.out⟩
      case measure => simp [intOf] <;> omega
    · obtain rfl : k = (L).length := by omega
      rw [List.take_length] at hown
      have HO := Lib.hid hown
      clear hown
      go_wp2
      go_ret
      exact ⟨_, rfl, HO.out.base HB.out.size, HB.out.trans (HBW.out.mono HB.out.size)⟩
set_option maxRecDepth 100000 in
set_option maxHeartbeats 800000 in
theorem r30text_any (Z : Zone) (v : Value) (L : List Cl) (w : World) (hv : HeldE cellE Z w v L) (hl0 : L.length ≤ 1000000) (ht : (textL (itemsL L)).length ≤ 1000000000000) : Calls Tryd.prog 18 #[v] w (MadeE (intE .i32) (fun _ => True) 21 w (textL (itemsL L))) := by
  have HQ := Lib.hid (rof29_any (fun _ => True) _ L w (fun _ _ => trivial) (hv.zone (fun _ _ _ => trivial)) hl0)
  obtain ⟨M, hM⟩ : ∃ M, M = itemsL L := ⟨_, rfl⟩
  rw [← hM] at HQ ht ⊢
  clear hM hl0 hv
  go_enter Tryd.func18, Tryd.ntmps18
  go_wp2_with fail
  refine HQ.out.mono ?_
  rintro e w1 ⟨v1, rfl, ho1, b1⟩
  have hv := ho1.held (fun _ _ _ => trivial)
  have HB := Lib.hid b1
  clear ho1 b1 HQ
  have hl := hv.max
  have hv := hv.zone (Y := fun b => b < w1.heap.size) (fun b hb _ => hb)
  obtain ⟨ao, cap, rfl⟩ := hv.len
  obtain ⟨_, _, hc⟩ := cells_at hv
  have HC := Lib.hid hc
  clear hc hv
  go_wp2
  go_loopw [3, 5] (fun t i wr => ∃ k : Nat, k ≤ (M).length ∧ i = .int .i64 k ∧ OwnE (intE .i32) (fun _ => True) wr w1.heap.size 21 t (textL ((M).take k)) ∧ Below w1.heap.size w1 wr) (fun _ i _ => (M).length - (intOf i).toNat)
  case atStart => exact ⟨0, Nat.zero_le _, rfl, OwnE.nil _ _ _ _ _, Below.refl _ _⟩
  case round =>
    obtain ⟨k, hk, rfl, hown, hbw⟩ := hrel
    have HBW := Lib.hid hbw
    clear hbw
    by_cases hlt : k < (M).length
    · obtain ⟨b, off, tv, rfl, hb, _, c0, c1, hh⟩ := HC.out k hlt
      have hh := hh.below HBW.out
      have c0 := (HBW.out.cell (p := ⟨b, off + k * 2, none⟩) hb).trans c0
      have c1 := (HBW.out.cell (p := ⟨b, off + k * 2 + 1, none⟩) hb).trans c1
      have hs := textL_succ (M) k hlt
      have hle := textL_le (M) (k + 1)
      rw [hs, List.length_append] at hle
      obtain ⟨⟨K, T⟩, hKT⟩ : ∃ y, y = (M).getD k zc := ⟨_, rfl⟩
      rw [← hKT] at c0 hh hs hle
      simp only at c0 hh hs hle
      have HS := Lib.hid hs
      clear hs hKT
      obtain ⟨P0, hP⟩ : ∃ P0, P0 = textL ((M).take k) := ⟨_, rfl⟩
      rw [← hP] at hown HS hle
      clear hP
      obtain ⟨W1, hW1⟩ : ∃ W1, W1 = wr := ⟨_, rfl⟩
      have hb1 : Below wr.heap.size wr W1 := by rw [hW1]; exact Below.refl _ _
      have hlo := hown.lt
      have hown := hown.below hb1
      have hu : HeldE (intE .i32) (fun b => True ∧ _ ≠ some b) W1 tv T := (hh.below hb1).zone (fun b _ hz => ⟨trivial, fun e => by have := (hlo b e).1; omega⟩)
      have HO := Lib.hid hown
      have HU := Lib.hid hu
      have HB1 := Lib.hid (HBW.out.trans (hb1.mono HBW.out.size))
      subst hW1
      obtain ⟨tz9, tc, rfl⟩ := hh.len
      clear hown hu hb1 hlo hh
      have hn1 : P0.length + T.length ≤ 1000000000000 := by omega
      go_wp2_with (at_builtin; refine wpList_append_e (E := intE .i32) (Z := fun _ => True) rfl (.tmp 14) (.tmp 19) 31 rfl (.int .i32 0) 4 Tryd.underlying31 info_rune rfl (Nat.lt_succ_self 0) rfl rfl HO.out HU.out (by omega) (by omega) HB1.out.size ?_)
      intro v2 w2 ho2 hb2 _ _
      have hb3 := HB1.out.trans hb2
      rw [← HS.out] at ho2
      have H2 := Lib.hid ho2
      have H3 := Lib.hid hb3
      clear ho2 hb2 hb3
      go_wp2
      go_roundw
      case rel => exact ⟨k + 1, by omega, by go_num, H2.out, H3.out⟩
      case measure => simp [intOf] <;> omega
    · obtain rfl : k = (M).length := by omega
      rw [List.take_length] at hown
      have HO := Lib.hid hown
      clear hown
      go_wp2
      go_ret
      exact ⟨_, rfl, HO.out.base HB.out.size, HB.out.trans (HBW.out.mono HB.out.size)⟩
def usedTo (L : List Cl) : Nat → Nat
  | 0 => 0
  | k + 1 => if (L.getD k zc).1 = 0 then usedTo L k else k + 1
theorem usedTo_le (L : List Cl) : ∀ k, usedTo L k ≤ k
  | 0 => Nat.le_refl _
  | k + 1 => by unfold usedTo; split; have := usedTo_le L k; omega; omega
set_option maxRecDepth 100000 in
set_option maxHeartbeats 800000 in
theorem r30used_any (Z : Zone) (v : Value) (L : List Cl) (w : World) (hv : HeldE cellE Z w v L) : Calls Tryd.prog 22 #[v] w (Gives w (.int .i64 (usedTo L L.length))) := by
  have hl := hv.max
  obtain ⟨ao, cap, rfl⟩ := hv.len
  obtain ⟨_, _, hc⟩ := cells_at hv
  have HC := Lib.hid hc
  clear hc hv
  go_enter Tryd.func22, Tryd.ntmps22
  go_wp2
  go_loopw [3, 4] (fun n i wr => ∃ k : Nat, k ≤ L.length ∧ i = .int .i64 k ∧ n = .int .i64 (usedTo L k) ∧ Below w.heap.size w wr) (fun _ i _ => L.length - (intOf i).toNat)
  case atStart => exact ⟨0, Nat.zero_le _, rfl, rfl, Below.refl _ _⟩
  case round =>
    obtain ⟨k, hk, rfl, rfl, hbw⟩ := hrel
    have HBW := Lib.hid hbw
    clear hbw
    by_cases hlt : k < L.length
    · obtain ⟨b, off, tv, rfl, hb, _, c0, c1, hh⟩ := HC.out k hlt
      have c0 := (HBW.out.cell (p := ⟨b, off + k * 2, none⟩) hb).trans c0
      obtain ⟨K, hK⟩ : ∃ K, K = (L.getD k zc).1 := ⟨_, rfl⟩
      have hs : usedTo L (k + 1) = if K = 0 then usedTo L k else k + 1 := by rw [hK]; rfl
      rw [← hK] at c0
      have HS := Lib.hid hs
      clear hK hh c1 hs
      by_cases h0 : K = 0
      · have hk0 : (K == 0) = true := by rw [beq_iff_eq]; exact h0
        have hk1 : (K != 0) = false := by rw [bne_eq_false_iff_eq]; exact h0
        rw [if_pos h0] at HS
        clear h0
        go_wp2
        go_roundw
        case rel => exact ⟨k + 1, by omega, by go_num, by rw [HS.out], HBW.out⟩
        case measure => simp [intOf] <;> omega
      · have hk0 : (K == 0) = false := by rw [beq_eq_false_iff_ne]; exact h0
        have hk1 : (K != 0) = true := by rw [bne_iff_ne]; exact h0
        rw [if_neg h0] at HS
        clear h0
        go_wp2
        go_roundw
        case rel => exact ⟨k + 1, by omega, by go_num, by rw [HS.out]; go_num, HBW.out⟩
        case measure => simp [intOf] <;> omega
    · obtain rfl : k = L.length := by omega
      go_wp2
      go_ret
      exact ⟨rfl, HBW.out⟩
end Go.Proofs.YtmclmhdlnlcafaaDoor
/- rowtext: used, Used, Plain; the reference's Plain (30). -/
namespace Go.Proofs.YtmclmhdlnlcafaaDoor
open Go.RowKit Go.ChangeShapes Go.WideShapes
set_option maxRecDepth 100000 in
set_option maxHeartbeats 800000 in
theorem rused_any (Z : Zone) (v : Value) (L : List Cl) (w : World) (hv : HeldE cellE Z w v L) : Calls Tryd.prog 62 #[v] w (Gives w (.int .i64 (usedTo L L.length))) := by
  have hl := hv.max
  obtain ⟨ao, cap, rfl⟩ := hv.len
  obtain ⟨_, _, hc⟩ := cells_at hv
  have HC := Lib.hid hc
  clear hc hv
  go_enter Tryd.func62, Tryd.ntmps62
  go_wp2
  go_loopw [3] (fun n wr => ∃ k : Nat, k ≤ L.length ∧ n = .int .i64 k ∧ Go.RowKit.Hid (usedTo L L.length = usedTo L k) ∧ Below w.heap.size w wr) (fun i _ => (intOf i).toNat)
  case atStart => exact ⟨L.length, Nat.le_refl _, rfl, Lib.hid rfl, Below.refl _ _⟩
  case round =>
    obtain ⟨k, hk, rfl, HU, hbw⟩ := hrel
    have HBW := Lib.hid hbw
    clear hbw
    cases k with
    | zero =>
      go_wp2
      go_ret
      rw [HU.out]
      exact ⟨rfl, HBW.out⟩
    | succ j =>
      obtain ⟨b, off, tv, rfl, hb, _, c0, c1, hh⟩ := HC.out j (by omega)
      have c0 := (HBW.out.cell (p := ⟨b, off + j * 2, none⟩) hb).trans c0
      obtain ⟨K, hK⟩ : ∃ K, K = (L.getD j zc).1 := ⟨_, rfl⟩
      have hs : usedTo L (j + 1) = if K = 0 then usedTo L j else j + 1 := by rw [hK]; rfl
      rw [← hK] at c0
      obtain ⟨k, hkj⟩ : ∃ k : Nat, j + 1 = k := ⟨_, rfl⟩
      rw [hkj] at HU hs hk ⊢
      have HS := Lib.hid hs
      have hd : decide ((0 : Int) < k) = true := by rw [decide_eq_true_eq]; omega
      have hw0 : (k : Int) - 1 = j := by omega
      have hw1 : IntKind.i64.wrap (j : Int) = (j : Int) := by rw [IntKind.wrap_i64]; omega
      have hjl : j < L.length := by omega
      clear hK hh c1 hs
      by_cases h0 : K = 0
      · have hk0 : (K == 0) = true := by rw [beq_iff_eq]; exact h0
        rw [if_pos h0] at HS
        clear h0
        go_wp2
        go_roundw
        case rel => exact ⟨j, by omega, rfl, Lib.hid (HU.out.trans HS.out), HBW.out⟩
        case measure => simp [intOf] <;> omega
      · have hk0 : (K == 0) = false := by rw [beq_eq_false_iff_ne]; exact h0
        rw [if_neg h0] at HS
        clear h0
        go_wp2
        go_ret
        rw [HU.out, HS.out]
        exact ⟨rfl, HBW.out⟩
set_option maxRecDepth 100000 in
set_option maxHeartbeats 800000 in
theorem rowused_any (Z : Zone) (B g gc : Nat) (L : List Cl) (wrap : Bool) (w : World) (h : RowAt Z w B g gc L wrap) : Calls Tryd.prog 21 #[.pointer (some ⟨g, 0, none⟩)] w (Gives w (.int .i64 (usedTo L L.length))) := by
  go_enter Tryd.func21, Tryd.ntmps21
  go_wp2_with fail
  refine (rcells_any _ _ g gc _ _ _ h).mono ?_
  rintro e w1 ⟨v1, rfl, ho1, b1⟩
  have HV := Lib.hid (ho1.held (fun b hb _ => hb))
  have HB := Lib.hid b1
  clear ho1 b1 h
  go_wp2_with fail
  refine (rused_any _ _ _ _ HV.out).mono ?_
  rintro e w2 ⟨rfl, b2⟩
  have HB2 := Lib.hid (HB.out.trans (b2.mono HB.out.size))
  clear b2
  go_wp2
  go_ret
  exact ⟨(ret_eq (by first | rfl | (simp <;> omega))), HB2.out⟩
end Go.Proofs.YtmclmhdlnlcafaaDoor
/- rowtext: Plain. -/
namespace Go.Proofs.YtmclmhdlnlcafaaDoor
open Go.RowKit Go.ChangeShapes Go.WideShapes
def plainOf (c : Cl) : List Int := if c.1 = 0 then 32 :: c.2 else c.2
def plainL (L : List Cl) : List Int := L.flatMap plainOf
theorem plain_succ (L : List Cl) (k : Nat) (h : k < L.length) : plainL (L.take (k + 1)) = plainL (L.take k) ++ plainOf (L.getD k zc) := by
  unfold plainL
  rw [List.take_succ_eq_append_getElem h, List.flatMap_append]
  simp [List.getD, List.getElem?_eq_getElem h]
theorem plain_le (L : List Cl) (k : Nat) : (plainL (L.take k)).length ≤ (plainL L).length := by
  have : plainL L = plainL (L.take k) ++ plainL (L.drop k) := by unfold plainL; rw [← List.flatMap_append, List.take_append_drop]
  rw [this, List.length_append]
  omega
set_option maxRecDepth 100000 in
set_option maxHeartbeats 1600000 in
theorem rplain_any (Z : Zone) (B g gc : Nat) (L : List Cl) (wrap : Bool) (w : World) (h : RowAt Z w B g gc L wrap) (ht : (plainL L).length ≤ 1000000000000) : Calls Tryd.prog 19 #[.pointer (some ⟨g, 0, none⟩)] w (MadeE (intE .i32) (fun _ => True) 21 w (plainL (L.take (usedTo L L.length)))) := by
  go_enter Tryd.func19, Tryd.ntmps19
  go_wp2_with fail
  refine (rcells_any _ _ g gc _ _ _ h).mono ?_
  rintro e w0 ⟨v1, rfl, ho1, b1⟩
  have hv := ho1.held (fun b hb _ => hb)
  obtain ⟨ao, cap, rfl⟩ := hv.len
  have HV := Lib.hid hv
  have HB := Lib.hid b1
  have hlm := hv.max
  have hcl : L.length ≤ cap := (cells_at hv).2.1
  clear ho1 b1 h hv
  go_wp2_with fail
  refine (rused_any _ _ _ _ HV.out).mono ?_
  rintro e w1 ⟨rfl, b2⟩
  have hv := (HV.out.below b2).zone (Y := fun b => b < w1.heap.size) (fun b hb _ => hb)
  replace HB := Lib.hid (HB.out.trans (b2.mono HB.out.size))
  obtain ⟨_, _, hc⟩ := cells_at hv
  have HC := Lib.hid hc
  obtain ⟨u, hu⟩ : ∃ u, u = usedTo L L.length := ⟨_, rfl⟩
  have hul : u ≤ L.length := by rw [hu]; exact usedTo_le _ _
  have HUE := Lib.hid hu
  rw [← hu]
  have hucap : u ≤ cap := by omega
  clear hc hv hu HV b2
  go_wp2
  go_loopw [3, 14] (fun t i wr => ∃ k : Nat, k ≤ u ∧ i = .int .i64 k ∧ OwnE (intE .i32) (fun _ => True) wr w1.heap.size 21 t (plainL (L.take k)) ∧ Below w1.heap.size w1 wr) (fun _ i _ => u - (intOf i).toNat)
  case atStart => exact ⟨0, Nat.zero_le _, rfl, OwnE.nil _ _ _ _ _, Below.refl _ _⟩
  case round =>
    obtain ⟨k, hk, rfl, hown, hbw⟩ := hrel
    have HBW := Lib.hid hbw
    clear hbw
    by_cases hlt : k < u
    · obtain ⟨b, off, tv, rfl, hb, _, c0, c1, hh⟩ := HC.out k (by omega)
      have c0 := (HBW.out.cell (p := ⟨b, off + k * 2, none⟩) hb).trans c0
      have c1 := (HBW.out.cell (p := ⟨b, off + k * 2 + 1, none⟩) hb).trans c1
      have hs := plain_succ L k (by omega)
      have hle := plain_le L (k + 1)
      rw [hs, List.length_append] at hle
      obtain ⟨⟨K, T⟩, hKT⟩ : ∃ y, y = L.getD k zc := ⟨_, rfl⟩
      rw [← hKT] at c0 hh hs hle
      unfold plainOf at hs hle
      simp only at c0 hh hs hle
      have HT := Lib.hid hh
      obtain ⟨tz9, tc, rfl⟩ := hh.len
      obtain ⟨P0, hP⟩ : ∃ P0, P0 = plainL (L.take k) := ⟨_, rfl⟩
      rw [← hP] at hown hs hle
      obtain ⟨W1, hW1⟩ : ∃ W1, W1 = wr.alloc (.cells #[.int .i64 K, .slice tz9 T.length tc] 40) := ⟨_, rfl⟩
      have hb1 : Below wr.heap.size wr W1 := by rw [hW1]; exact (Below.refl _ _).alloc (Nat.le_refl _) _
      have HH := Lib.hid (show Has W1 wr.heap.size [.int .i64 K, .slice tz9 T.length tc] 40 by rw [hW1]; exact Has.new wr _ _)
      have HLO := Lib.hid hown.lt
      have HO := Lib.hid (hown.below hb1)
      have HB1 := Lib.hid (HBW.out.trans (hb1.mono HBW.out.size))
      have HSZ := Lib.hid (Nat.le_trans HBW.out.size hb1.size)
      have HSR := Lib.hid HBW.out.size
      have HLE := Lib.hid hle
      have HS := Lib.hid hs
      obtain ⟨t, htt⟩ : ∃ t, t = u3 := ⟨_, rfl⟩
      rw [← htt] at HO HLO ⊢
      clear hKT hP hh hb1 hown htt hle hs hb
      by_cases h0 : K = 0
      · have hk0 : (K == 0) = true := by rw [beq_iff_eq]; exact h0
        have hs := HS.out
        have hle := HLE.out
        rw [if_pos h0] at hs hle
        rw [List.length_cons] at hle
        have HS2 := Lib.hid hs
        have hle2 : P0.length + (T.length + 1) ≤ 1000000000000 := by omega
        clear h0 hs hle HS HLE
        go_upto_if 20 with (fail)
        rw [← hW1]
        clear hW1 c0 c1
        have HX := Lib.hid (show HeldE (intE .i32) (fun b => True ∧ t.ownBlock ≠ some b) (W1.alloc (.cells [Value.int .i32 32].toArray 21)) (.slice (some ⟨W1.heap.size, 0, none⟩) 1 1) [32] from heldE_one (Y := fun _ => False) [.int .i32 32] 32 rfl (fun _ _ h => h.elim) ⟨trivial, fun e => by have := (HLO.out _ e).2; have := HH.out.lt; omega⟩)
        have HO2 := Lib.hid (HO.out.below ((Below.refl W1.heap.size W1).alloc (Nat.le_refl _) (.cells [Value.int .i32 32].toArray 21)))
        have HB2 := Lib.hid (HB1.out.alloc HB1.out.size (.cells [Value.int .i32 32].toArray 21))
        have HH2 := Lib.hid (HH.out.alloc (.cells [Value.int .i32 32].toArray 21))
        clear HO
        go_wp2_with (at_builtin; refine wpList_append_e (E := intE .i32) (Z := fun _ => True) rfl (.tmp 21) (.tmp 22) 31 rfl (.int .i32 0) 4 Tryd.underlying31 info_rune rfl (Nat.lt_succ_self 0) rfl rfl HO2.out HX.out (by simp; omega) (by simp; omega) HB2.out.size ?_)
        intro v2 w2 ho2 hb2 hk2 _
        have HH3 := Lib.hid (hk2.has HH2.out (fun e => by have := (HLO.out _ e).2; omega))
        have HB3 := Lib.hid (HB2.out.trans hb2)
        have hlo2 := ho2.lt
        have HT2 := Lib.hid ((HT.out.below HB3.out).zone (Y := fun b => True ∧ v2.ownBlock ≠ some b) (fun b _ hz => ⟨trivial, fun e => by have := (hlo2 _ e).1; omega⟩))
        have HO3 := Lib.hid ho2
        clear ho2 hb2 hk2 hlo2 HX HO2 HB2 HH2
        have a1 := HH3.out.cell 1 _ rfl
        go_wp2_with (at_builtin; refine wpList_append_e (E := intE .i32) (Z := fun _ => True) rfl (.tmp 24) (.tmp 26) 31 rfl (.int .i32 0) 4 Tryd.underlying31 info_rune rfl (Nat.lt_succ_self 0) rfl rfl HO3.out HT2.out (by simp; omega) (by simp; omega) HB3.out.size ?_)
        intro v3 w3 ho3 hb3 _ _
        rw [← HS2.out] at ho3
        have H2 := Lib.hid ho3
        have H3 := Lib.hid (HB3.out.trans hb3)
        clear ho3 hb3 a1
        go_wp2
        go_roundw
        case rel => exact ⟨k + 1, by omega, by go_num, H2.out, H3.out⟩
        case measure => simp [intOf] <;> omega
      · have hk0 : (K == 0) = false := by rw [beq_eq_false_iff_ne]; exact h0
        have hs := HS.out
        have hle := HLE.out
        rw [if_neg h0] at hs hle
        have HS2 := Lib.hid hs
        have hle2 : P0.length + T.length ≤ 1000000000000 := by omega
        clear h0 hs hle HS HLE
        go_upto_if 20 with (fail)
        rw [← hW1]
        clear hW1 c0 c1
        have HT2 := Lib.hid ((HT.out.below HB1.out).zone (Y := fun b => True ∧ t.ownBlock ≠ some b) (fun b _ hz => ⟨trivial, fun e => by have := (HLO.out _ e).1; omega⟩))
        have a1 := HH.out.cell 1 _ rfl
        go_wp2_with (at_builtin; refine wpList_append_e (E := intE .i32) (Z := fun _ => True) rfl (.tmp 24) (.tmp 26) 31 rfl (.int .i32 0) 4 Tryd.underlying31 info_rune rfl (Nat.lt_succ_self 0) rfl rfl HO.out HT2.out (by omega) (by omega) HB1.out.size ?_)
        intro v3 w3 ho3 hb3 _ _
        rw [← HS2.out] at ho3
        have H2 := Lib.hid ho3
        have H3 := Lib.hid (HB1.out.trans hb3)
        clear ho3 hb3 a1
        go_wp2
        go_roundw
        case rel => exact ⟨k + 1, by omega, by go_num, H2.out, H3.out⟩
        case measure => simp [intOf] <;> omega
    · obtain rfl : k = u := by omega
      have HO := Lib.hid hown
      clear hown
      go_wp2
      go_ret
      rw [← HUE.out]
      exact ⟨_, rfl, HO.out.base HB.out.size, HB.out.trans (HBW.out.mono HB.out.size)⟩
end Go.Proofs.YtmclmhdlnlcafaaDoor
/- Texts of rows and of their items are alike (30). -/
namespace Go.Proofs.YtmclmhdlnlcafaaDoor
open Go.RowKit Go.ChangeShapes Go.WideShapes
theorem textL_app (a b : List Cl) : textL (a ++ b) = textL a ++ textL b := by unfold textL; rw [List.flatMap_append]
theorem itemOf_text {c : Cl} (h : rightB c = true) : textL (itemOf c) = c.2 := by
  obtain ⟨K, t⟩ := c
  rcases right_kinds h with ⟨hk, ht⟩ | ⟨hk, _⟩
  · simp only at hk ht
    subst ht
    rcases hk with rfl | rfl <;> rfl
  · simp only at hk
    rcases hk with rfl | rfl <;> simp [itemOf, textL]
theorem text_items {L : List Cl} (hs : soundB L = true) : textL (itemsL L) = textL L := by
  have h : ∀ k, k ≤ L.length → textL (itemsL (L.take k)) = textL (L.take k) := by
    intro k
    induction k with
    | zero => intro _; rfl
    | succ k ih =>
      intro hk
      rw [items_succ L k (by omega), textL_succ L k (by omega), textL_app, ih (by omega), itemOf_text (sound_right hs k (by omega))]
  have := h L.length (Nat.le_refl _)
  rwa [List.take_length] at this
def itemPlain (c : Cl) : List Int := if c.2.length = 0 then 32 :: c.2 else c.2
def iplainL (M : List Cl) : List Int := M.flatMap itemPlain
def lastI (M : List Cl) : Nat → Nat
  | 0 => 0
  | k + 1 => if (M.getD k zc).2.length = 0 then lastI M k else k + 1
theorem lastI_le (M : List Cl) : ∀ k, lastI M k ≤ k
  | 0 => Nat.le_refl _
  | k + 1 => by unfold lastI; split; have := lastI_le M k; omega; omega
theorem lastI_app (M N : List Cl) : ∀ k, k ≤ M.length → lastI (M ++ N) k = lastI M k
  | 0, _ => rfl
  | k + 1, h => by
    unfold lastI
    rw [lastI_app M N k (by omega)]
    have : (M ++ N).getD k zc = M.getD k zc := by simp [List.getD, List.getElem?_append_left (show k < M.length by omega)]
    rw [this]
theorem iplain_app (a b : List Cl) : iplainL (a ++ b) = iplainL a ++ iplainL b := by unfold iplainL; rw [List.flatMap_append]
theorem itemOf_plain {c : Cl} (h : rightB c = true) : iplainL (itemOf c) = plainOf c := by
  obtain ⟨K, t⟩ := c
  rcases right_kinds h with ⟨hk, ht⟩ | ⟨hk, h0, _⟩
  · simp only at hk ht
    subst ht
    rcases hk with rfl | rfl <;> rfl
  · simp only at hk h0
    have hne : t ≠ [] := by intro e; rw [e] at h0; exact absurd h0 (by decide)
    rcases hk with rfl | rfl <;> simp [itemOf, iplainL, itemPlain, plainOf, hne]
theorem iplain_take {L : List Cl} (hs : soundB L = true) : ∀ k, k ≤ L.length → iplainL (itemsL (L.take k)) = plainL (L.take k) := by
  intro k
  induction k with
  | zero => intro _; rfl
  | succ k ih =>
    intro hk
    rw [items_succ L k (by omega), plain_succ L k (by omega), iplain_app, ih (by omega), itemOf_plain (sound_right hs k (by omega))]
theorem usedTo_succ (L : List Cl) (k : Nat) : usedTo L (k + 1) = if (L.getD k zc).1 = 0 then usedTo L k else k + 1 := rfl
theorem lastI_snoc (M : List Cl) (c : Cl) : lastI (M ++ [c]) (M ++ [c]).length = if c.2.length = 0 then lastI M M.length else M.length + 1 := by
  rw [List.length_append, List.length_singleton]
  show (if ((M ++ [c]).getD M.length zc).2.length = 0 then lastI (M ++ [c]) M.length else M.length + 1) = _
  rw [lastI_app M [c] M.length (Nat.le_refl _)]
  have : (M ++ [c]).getD M.length zc = c := by simp [List.getD]
  rw [this]
theorem plain_items {L : List Cl} (hs : soundB L = true) : iplainL ((itemsL L).take (lastI (itemsL L) (itemsL L).length)) = plainL (L.take (usedTo L L.length)) := by
  have h : ∀ k, k ≤ L.length → iplainL ((itemsL (L.take k)).take (lastI (itemsL (L.take k)) (itemsL (L.take k)).length)) = plainL (L.take (usedTo L k)) := by
    intro k
    induction k with
    | zero => intro _; rfl
    | succ k ih =>
      intro hk
      have ih := ih (by omega)
      have hit := items_succ L k (by omega)
      have hful := iplain_take hs (k + 1) hk
      have hr := sound_right hs k (by omega)
      have h3 := ((sound_prop L).1 hs k (by omega)).2.2
      obtain ⟨c, hc⟩ : ∃ c, c = L.getD k zc := ⟨_, rfl⟩
      have hus := usedTo_succ L k
      have hpl := plain_succ L k (by omega)
      rw [← hc] at hit hr h3 hus hpl
      obtain ⟨M, hM⟩ : ∃ M, M = itemsL (L.take k) := ⟨_, rfl⟩
      rw [← hM] at hit ih
      rw [hit] at hful ⊢
      obtain ⟨K, t⟩ := c
      rcases right_kinds hr with ⟨hk0, ht⟩ | ⟨hk0, h0, _⟩
      · simp only at hk0 ht hus h3
        subst ht
        rcases hk0 with rfl | rfl
        · rw [show itemOf (0, []) = [(1, [])] from rfl, lastI_snoc, if_pos (show ((1, []) : Cl).2.length = 0 from rfl), List.take_append_of_le_length (lastI_le _ _), hus, if_pos (show (0 : Int) = 0 from rfl)]
          exact ih
        · rw [show itemOf (3, []) = [] from rfl, List.append_nil, hus, if_neg (by decide), hpl, show plainOf (3, []) = [] from rfl, List.append_nil, ih]
          obtain ⟨hp, h2⟩ := h3 rfl
          obtain ⟨j, rfl⟩ : ∃ j, k = j + 1 := ⟨k - 1, by omega⟩
          rw [usedTo_succ, if_neg (by rw [show j + 1 - 1 = j from rfl] at h2; rw [h2]; decide)]
      · simp only at hk0 h0 hus
        have hi : itemOf (K, t) = [(K, t)] := by rcases hk0 with rfl | rfl <;> rfl
        rw [hi] at hful ⊢
        rw [lastI_snoc, if_neg (by simp only; omega), hus, if_neg (by omega), ← hful, List.take_of_length_le (by simp)]
  have := h L.length (Nat.le_refl _)
  rwa [List.take_length] at this
end Go.Proofs.YtmclmhdlnlcafaaDoor
/- The reference's Plain (30). -/
namespace Go.Proofs.YtmclmhdlnlcafaaDoor
open Go.RowKit Go.ChangeShapes Go.WideShapes
theorem iplain_succ (L : List Cl) (k : Nat) (h : k < L.length) : iplainL (L.take (k + 1)) = iplainL (L.take k) ++ itemPlain (L.getD k zc) := by
  unfold iplainL
  rw [List.take_succ_eq_append_getElem h, List.flatMap_append]
  simp [List.getD, List.getElem?_eq_getElem h]
theorem iplain_le (L : List Cl) (k : Nat) : (iplainL (L.take k)).length ≤ (iplainL L).length := by
  have : iplainL L = iplainL (L.take k) ++ iplainL (L.drop k) := by rw [← iplain_app, List.take_append_drop]
  rw [this, List.length_append]
  omega
theorem lastI_succ (M : List Cl) (k : Nat) : lastI M (k + 1) = if (M.getD k zc).2.length = 0 then lastI M k else k + 1 := rfl
set_option maxRecDepth 100000 in
set_option maxHeartbeats 1600000 in
theorem r30plain_any (Z : Zone) (v : Value) (L : List Cl) (w : World) (hv : HeldE cellE Z w v L) (hl0 : L.length ≤ 1000000) (ht : (iplainL (itemsL L)).length ≤ 1000000000000) : Calls Tryd.prog 20 #[v] w (MadeE (intE .i32) (fun _ => True) 21 w (iplainL ((itemsL L).take (lastI (itemsL L) (itemsL L).length)))) := by
  have HQ := Lib.hid (rof29_any (fun _ => True) _ L w (fun _ _ => trivial) (hv.zone (fun _ _ _ => trivial)) hl0)
  obtain ⟨M, hM⟩ : ∃ M, M = itemsL L := ⟨_, rfl⟩
  rw [← hM] at HQ ht ⊢
  obtain ⟨U, hU⟩ : ∃ U, U = lastI M M.length := ⟨_, rfl⟩
  have hUl : U ≤ M.length := by rw [hU]; exact lastI_le _ _
  have HUE := Lib.hid hU
  rw [← hU]
  clear hM hl0 hv hU
  go_enter Tryd.func20, Tryd.ntmps20
  go_wp2_with fail
  refine HQ.out.mono ?_
  rintro e w1 ⟨v1, rfl, ho1, b1⟩
  have hv := ho1.held (fun _ _ _ => trivial)
  have HB := Lib.hid b1
  clear ho1 b1 HQ
  have hl := hv.max
  have hv := hv.zone (Y := fun b => b < w1.heap.size) (fun b hb _ => hb)
  obtain ⟨ao, cap, rfl⟩ := hv.len
  obtain ⟨_, _, hc⟩ := cells_at hv
  have HC := Lib.hid hc
  clear hc hv
  go_wp2
  go_loopw [5, 6] (fun l i wr => ∃ k : Nat, k ≤ M.length ∧ i = .int .i64 k ∧ l = .int .i64 ((lastI M k : Int) - 1) ∧ Below w1.heap.size w1 wr) (fun _ i _ => M.length - (intOf i).toNat)
  case atStart => exact ⟨0, Nat.zero_le _, rfl, rfl, Below.refl _ _⟩
  case round =>
    obtain ⟨k, hk, rfl, rfl, hbw⟩ := hrel
    have HBW := Lib.hid hbw
    clear hbw
    by_cases hlt : k < M.length
    · obtain ⟨b, off, tv, rfl, hb, _, c0, c1, hh⟩ := HC.out k hlt
      have c1 := (HBW.out.cell (p := ⟨b, off + k * 2 + 1, none⟩) hb).trans c1
      have hs := lastI_succ M k
      obtain ⟨⟨K, T⟩, hKT⟩ : ∃ y, y = M.getD k zc := ⟨_, rfl⟩
      rw [← hKT] at hh hs
      simp only at hh hs
      obtain ⟨tz9, tc, rfl⟩ := hh.len
      clear hKT hh c0 hb
      cases T with
      | nil =>
        rw [if_pos (show ([] : List Int).length = 0 from rfl)] at hs
        have HS := Lib.hid hs
        clear hs
        go_wp2
        go_roundw
        case rel => exact ⟨k + 1, by omega, by go_num, by rw [HS.out], HBW.out⟩
        case measure => simp [intOf] <;> omega
      | cons x T =>
        rw [if_neg (show ¬ (x :: T).length = 0 by simp)] at hs
        have HS := Lib.hid hs
        obtain ⟨n, hn⟩ : ∃ n, n = (x :: T).length := ⟨_, rfl⟩
        have hn0 : 0 < n := by rw [hn]; simp
        rw [← hn] at c1
        have hd : decide ((0 : Int) < n) = true := by rw [decide_eq_true_eq]; omega
        clear hs hn
        go_wp2
        go_roundw
        case rel => exact ⟨k + 1, by omega, by go_num, by rw [HS.out]; congr 1; omega, HBW.out⟩
        case measure => simp [intOf] <;> omega
    · obtain rfl : k = M.length := by omega
      rw [← HUE.out]
      obtain ⟨wo, hwo⟩ : ∃ wo, wo = wr := ⟨_, rfl⟩
      subst hwo
      go_wp2
      go_loopw [3, 7] (fun t i wr => ∃ k : Nat, k ≤ U ∧ i = .int .i64 k ∧ OwnE (intE .i32) (fun _ => True) wr w1.heap.size 21 t (iplainL (M.take k)) ∧ Below w1.heap.size w1 wr) (fun _ i _ => U - (intOf i).toNat)
      case atStart => exact ⟨0, Nat.zero_le _, rfl, OwnE.nil _ _ _ _ _, HBW.out⟩
      case round =>
        obtain ⟨k, hk, rfl, hown, hbw⟩ := hrel
        have HBX := Lib.hid hbw
        clear hbw
        by_cases hlt : k < U
        · have hd : decide ((k : Int) ≤ (U : Int) - 1) = true := by rw [decide_eq_true_eq]; omega
          obtain ⟨b, off, tv, rfl, hb, _, c0, c1, hh⟩ := HC.out k (by omega)
          have hs := iplain_succ M k (by omega)
          have hle := iplain_le M (k + 1)
          rw [hs, List.length_append] at hle
          obtain ⟨⟨K, T⟩, hKT⟩ : ∃ y, y = M.getD k zc := ⟨_, rfl⟩
          rw [← hKT] at hh hs hle
          unfold itemPlain at hs hle
          simp only at hh hs hle
          have HT := Lib.hid hh
          obtain ⟨tz9, tc, rfl⟩ := hh.len
          have HF := Lib.hid (show ∀ w2, Below w1.heap.size w1 w2 → w2.cell? ⟨b, off + k * 2 + 1, none⟩ = some (.slice tz9 T.length tc) from fun w2 h => (h.cell (p := ⟨b, off + k * 2 + 1, none⟩) hb).trans c1)
          obtain ⟨P0, hP⟩ : ∃ P0, P0 = iplainL (M.take k) := ⟨_, rfl⟩
          rw [← hP] at hown hs hle
          obtain ⟨t, htt⟩ : ∃ t, t = u3 := ⟨_, rfl⟩
          rw [← htt] at hown ⊢
          have HLO := Lib.hid hown.lt
          have HSR := Lib.hid HBX.out.size
          have HO := Lib.hid hown
          clear hKT hP hh htt hb c0 c1 hown
          have c1 := HF.out wr HBX.out
          cases T with
          | nil =>
            rw [if_pos (show ([] : List Int).length = 0 from rfl)] at hs hle
            have HS := Lib.hid hs
            have hle2 : P0.length + 1 ≤ 1000000000000 := by simp at hle; omega
            clear hs hle
            have HX := Lib.hid (show HeldE (intE .i32) (fun b => True ∧ t.ownBlock ≠ some b) (wr.alloc (.cells [Value.int .i32 32].toArray 21)) (.slice (some ⟨wr.heap.size, 0, none⟩) 1 1) [32] from heldE_one (Y := fun _ => False) [.int .i32 32] 32 rfl (fun _ _ h => h.elim) ⟨trivial, fun e => by have := (HLO.out _ e).2; omega⟩)
            have HO2 := Lib.hid (HO.out.below ((Below.refl wr.heap.size wr).alloc (Nat.le_refl _) (.cells [Value.int .i32 32].toArray 21)))
            have HB2 := Lib.hid (HBX.out.alloc HBX.out.size (.cells [Value.int .i32 32].toArray 21))
            clear HO
            go_wp2_with (at_builtin; refine wpList_append_e (E := intE .i32) (Z := fun _ => True) rfl (.tmp 36) (.tmp 37) 31 rfl (.int .i32 0) 4 Tryd.underlying31 info_rune rfl (Nat.lt_succ_self 0) rfl rfl HO2.out HX.out (by simp; omega) (by simp; omega) HB2.out.size ?_)
            intro v2 w2 ho2 hb2 _ _
            have HB3 := Lib.hid (HB2.out.trans hb2)
            have hlo2 := ho2.lt
            have HT2 := Lib.hid ((HT.out.below HB3.out).zone (Y := fun b => True ∧ v2.ownBlock ≠ some b) (fun b _ hz => ⟨trivial, fun e => by have := (hlo2 _ e).1; omega⟩))
            have HO3 := Lib.hid ho2
            clear ho2 hb2 hlo2 HX HO2 HB2 c1
            have c1 := HF.out w2 HB3.out
            go_wp2_with (at_builtin; refine wpList_append_e (E := intE .i32) (Z := fun _ => True) rfl (.tmp 39) (.tmp 44) 31 rfl (.int .i32 0) 4 Tryd.underlying31 info_rune rfl (Nat.lt_succ_self 0) rfl rfl HO3.out HT2.out (by simp; omega) (by simp; omega) HB3.out.size ?_)
            intro v3 w3 ho3 hb3 _ _
            have ho3 : OwnE (intE .i32) (fun _ => True) w3 w1.heap.size 21 v3 (iplainL (M.take (k + 1))) := by rw [HS.out]; simpa using ho3
            have H2 := Lib.hid ho3
            have H3 := Lib.hid (HB3.out.trans hb3)
            clear ho3 hb3 c1
            go_wp2
            go_roundw
            case rel => exact ⟨k + 1, by omega, by go_num, H2.out, H3.out⟩
            case measure => simp [intOf] <;> omega
          | cons x T =>
            rw [if_neg (show ¬ (x :: T).length = 0 by simp)] at hs hle
            obtain ⟨T0, hT0⟩ : ∃ T0, T0 = x :: T := ⟨_, rfl⟩
            rw [← hT0] at hs hle HT c1 HF
            have hn0 : 0 < T0.length := by rw [hT0]; simp
            have HS := Lib.hid hs
            have hle2 : P0.length + T0.length ≤ 1000000000000 := by omega
            have hz : ((T0.length : Int) == 0) = false := by rw [beq_eq_false_iff_ne]; omega
            have hne : T0 ≠ [] := by rw [hT0]; simp
            have HT2 := Lib.hid ((HT.out.below HBX.out).zone (Y := fun b => True ∧ t.ownBlock ≠ some b) (fun b _ hz => ⟨trivial, fun e => by have := (HLO.out _ e).1; omega⟩))
            clear hs hle hT0
            go_wp2_with (at_builtin; refine wpList_append_e (E := intE .i32) (Z := fun _ => True) rfl (.tmp 39) (.tmp 44) 31 rfl (.int .i32 0) 4 Tryd.underlying31 info_rune rfl (Nat.lt_succ_self 0) rfl rfl HO.out HT2.out (by omega) (by omega) HBX.out.size ?_)
            intro v3 w3 ho3 hb3 _ _
            rw [← HS.out] at ho3
            have H2 := Lib.hid ho3
            have H3 := Lib.hid (HBX.out.trans hb3)
            clear ho3 hb3 c1
            go_wp2
            go_roundw
            case rel => exact ⟨k + 1, by omega, by go_num, H2.out, H3.out⟩
            case measure => simp [intOf] <;> omega
        · obtain rfl : k = U := by omega
          have hd : decide ((k : Int) ≤ (k : Int) - 1) = false := by rw [decide_eq_false_iff_not]; omega
          have HO := Lib.hid hown
          clear hown
          go_wp2
          go_ret
          exact ⟨_, rfl, HO.out.base HB.out.size, HB.out.trans (HBX.out.mono HB.out.size)⟩
end Go.Proofs.YtmclmhdlnlcafaaDoor
