/- Row.Copy, row.Of. -/
import Derived.Test.YtmclmhdlnlcafaaDoorRowC
import Derived.Test.YtmclmhdlnlcafaaDoorErrS
import Derived.Test.YtmclmhdlnlcafaaDoorMg1
namespace Go.Proofs.YtmclmhdlnlcafaaDoor
open Go.RowKit Go.ChangeShapes Go.WideShapes
set_option maxRecDepth 100000 in
set_option maxHeartbeats 1600000 in
theorem rcopy_any (Z : Zone) (B g gc : Nat) (L : List Cl) (wrap : Bool) (w : World) (h : RowAt Z w B g gc L wrap) : Calls Tryd.prog 77 #[.pointer (some ⟨g, 0, none⟩)] w (RowMade (fun b => w.heap.size ≤ b) w L wrap) := by
  obtain ⟨hpos, hl, hs⟩ := h.len
  obtain ⟨cap, h1, h2⟩ := h.held
  have HC0 := Lib.hid (h1.cell 0 _ rfl)
  have HC1 := Lib.hid (h1.cell 1 _ rfl)
  have HGL := Lib.hid h1.lt
  have H2 := Lib.hid h2
  have HSH := Lib.hid (sound_short hs)
  have HSD := Lib.hid hs
  clear h h1 h2 hs
  go_enter Tryd.func77, Tryd.ntmps77
  go_wp2
  obtain ⟨Erg, hErg⟩ : ∃ EE : Nat → Value → World → Prop, EE = fun jj xx ww => match jj with
      | 0 => xx = .pointer (some ⟨g, 0, none⟩)
      | 1 => xx = .pointer (some ⟨g, 0, none⟩)
      | 2 => xx = .pointer (some ⟨g, 0, none⟩)
      | 3 => xx = .slice (some ⟨gc, 0, none⟩) L.length cap
      | 4 => (fun x w' => OwnE cellE (fun b => w.heap.size ≤ b) w' w.heap.size 40 x L) xx ww
      | 5 => xx = .pointer (some ⟨g, 0, none⟩)
      | 6 => xx = .pointer (some ⟨g, 0, none⟩)
      | 7 => xx = .pointer (some ⟨g, 1, none⟩)
      | 8 => xx = .bool wrap
      | 9 => (fun x w' => ∃ gc9 cap9, x = .agg #[.slice (some ⟨gc9, 0, none⟩) L.length cap9, .bool wrap] ∧ OwnE cellE (fun b => w.heap.size ≤ b) w' w.heap.size 40 (.slice (some ⟨gc9, 0, none⟩) L.length cap9) L) xx ww
      | 10 => (fun x w' => ∃ g9 gc9, x = .pointer (some ⟨g9, 0, none⟩) ∧ RowAt (fun b => w.heap.size ≤ b) w' w.heap.size g9 gc9 L wrap) xx ww
      | 11 => (fun x w' => ∃ g9 gc9, x = .pointer (some ⟨g9, 0, none⟩) ∧ RowAt (fun b => w.heap.size ≤ b) w' w.heap.size g9 gc9 L wrap) xx ww
      | _ => True := ⟨_, rfl⟩
  have erg0 : ∀ xx ww, Erg 0 xx ww = (xx = .pointer (some ⟨g, 0, none⟩)) := fun xx ww => congrFun (congrFun (congrFun hErg 0) xx) ww
  have erg1 : ∀ xx ww, Erg 1 xx ww = (xx = .pointer (some ⟨g, 0, none⟩)) := fun xx ww => congrFun (congrFun (congrFun hErg 1) xx) ww
  have erg2 : ∀ xx ww, Erg 2 xx ww = (xx = .pointer (some ⟨g, 0, none⟩)) := fun xx ww => congrFun (congrFun (congrFun hErg 2) xx) ww
  have erg3 : ∀ xx ww, Erg 3 xx ww = (xx = .slice (some ⟨gc, 0, none⟩) L.length cap) := fun xx ww => congrFun (congrFun (congrFun hErg 3) xx) ww
  have erg4 : ∀ xx ww, Erg 4 xx ww = ((fun x w' => OwnE cellE (fun b => w.heap.size ≤ b) w' w.heap.size 40 x L) xx ww) := fun xx ww => congrFun (congrFun (congrFun hErg 4) xx) ww
  have erg5 : ∀ xx ww, Erg 5 xx ww = (xx = .pointer (some ⟨g, 0, none⟩)) := fun xx ww => congrFun (congrFun (congrFun hErg 5) xx) ww
  have erg6 : ∀ xx ww, Erg 6 xx ww = (xx = .pointer (some ⟨g, 0, none⟩)) := fun xx ww => congrFun (congrFun (congrFun hErg 6) xx) ww
  have erg7 : ∀ xx ww, Erg 7 xx ww = (xx = .pointer (some ⟨g, 1, none⟩)) := fun xx ww => congrFun (congrFun (congrFun hErg 7) xx) ww
  have erg8 : ∀ xx ww, Erg 8 xx ww = (xx = .bool wrap) := fun xx ww => congrFun (congrFun (congrFun hErg 8) xx) ww
  have erg9 : ∀ xx ww, Erg 9 xx ww = ((fun x w' => ∃ gc9 cap9, x = .agg #[.slice (some ⟨gc9, 0, none⟩) L.length cap9, .bool wrap] ∧ OwnE cellE (fun b => w.heap.size ≤ b) w' w.heap.size 40 (.slice (some ⟨gc9, 0, none⟩) L.length cap9) L) xx ww) := fun xx ww => congrFun (congrFun (congrFun hErg 9) xx) ww
  have erg10 : ∀ xx ww, Erg 10 xx ww = ((fun x w' => ∃ g9 gc9, x = .pointer (some ⟨g9, 0, none⟩) ∧ RowAt (fun b => w.heap.size ≤ b) w' w.heap.size g9 gc9 L wrap) xx ww) := fun xx ww => congrFun (congrFun (congrFun hErg 10) xx) ww
  have erg11 : ∀ xx ww, Erg 11 xx ww = ((fun x w' => ∃ g9 gc9, x = .pointer (some ⟨g9, 0, none⟩) ∧ RowAt (fun b => w.heap.size ≤ b) w' w.heap.size g9 gc9 L wrap) xx ww) := fun xx ww => congrFun (congrFun (congrFun hErg 11) xx) ww
  obtain ⟨Crg, hCrg⟩ : ∃ CC : Array Bool → World → Prop, CC = fun L8 w' => Below w.heap.size w w' := ⟨_, rfl⟩
  have krg : ∀ i L w,  Crg L w → Crg (L.setIfInBounds i true) w := by
    intro i L w  h
    rw [hCrg] at h ⊢
    exact h
  obtain ⟨Xrg, hXrg⟩ : ∃ XX : World → World → Prop, XX = fun a b => Below a.heap.size a b := ⟨_, rfl⟩
  have xrg : ∀ w, Xrg w w := fun w => by rw [hXrg]; exact Below.refl _ _
  have strg : ∀ j x w w1, Xrg w w1 → Erg j x w → Erg j x w1 := by
    intro j x w w1 hx h
    rw [hXrg] at hx
    match j with
    | 0 => rw [erg0] at h ⊢; exact h
    | 1 => rw [erg1] at h ⊢; exact h
    | 2 => rw [erg2] at h ⊢; exact h
    | 3 => rw [erg3] at h ⊢; exact h
    | 4 => rw [erg4] at h ⊢; (first | exact OwnE.below h hx | (obtain ⟨gc9, cap9, e9, h9⟩ := h; exact ⟨gc9, cap9, e9, OwnE.below h9 hx⟩) | (obtain ⟨g9, gc9, e9, h9⟩ := h; exact ⟨g9, gc9, e9, RowAt.below h9 hx⟩))
    | 5 => rw [erg5] at h ⊢; exact h
    | 6 => rw [erg6] at h ⊢; exact h
    | 7 => rw [erg7] at h ⊢; exact h
    | 8 => rw [erg8] at h ⊢; exact h
    | 9 => rw [erg9] at h ⊢; (first | exact OwnE.below h hx | (obtain ⟨gc9, cap9, e9, h9⟩ := h; exact ⟨gc9, cap9, e9, OwnE.below h9 hx⟩) | (obtain ⟨g9, gc9, e9, h9⟩ := h; exact ⟨g9, gc9, e9, RowAt.below h9 hx⟩))
    | 10 => rw [erg10] at h ⊢; (first | exact OwnE.below h hx | (obtain ⟨gc9, cap9, e9, h9⟩ := h; exact ⟨gc9, cap9, e9, OwnE.below h9 hx⟩) | (obtain ⟨g9, gc9, e9, h9⟩ := h; exact ⟨g9, gc9, e9, RowAt.below h9 hx⟩))
    | 11 => rw [erg11] at h ⊢; (first | exact OwnE.below h hx | (obtain ⟨gc9, cap9, e9, h9⟩ := h; exact ⟨gc9, cap9, e9, OwnE.below h9 hx⟩) | (obtain ⟨g9, gc9, e9, h9⟩ := h; exact ⟨g9, gc9, e9, RowAt.below h9 hx⟩))
    | j + 12 => rw [hErg]; trivial
  have crg : Crg (Array.replicate 12 false) w.drew := by rw [hCrg]; exact (Below.refl _ _).drew
  have brg : ∀ L w w1, Crg L w → Below w.heap.size w w1 → Crg L w1 := by
    intro L w w1 h hb
    rw [hCrg] at h ⊢
    exact h.trans (hb.mono h.size)
  have xbrg : ∀ w w1, Below w.heap.size w w1 → Xrg w w1 := by
    intro w w1 hb
    rw [hXrg]
    exact hb
  have Hrgb := Lib.hid brg
  have Hrgxb := Lib.hid xbrg
  clear brg xbrg
  clear hErg
  have Hrgk := Lib.hid krg
  have Hrgx := Lib.hid xrg
  have Hrgst := Lib.hid strg
  have Hrgc := Lib.hid crg
  have HrghC := Lib.hid hCrg
  have HrghX := Lib.hid hXrg
  have Hrge0 := Lib.hid erg0
  have Hrge1 := Lib.hid erg1
  have Hrge2 := Lib.hid erg2
  have Hrge3 := Lib.hid erg3
  have Hrge4 := Lib.hid erg4
  have Hrge5 := Lib.hid erg5
  have Hrge6 := Lib.hid erg6
  have Hrge7 := Lib.hid erg7
  have Hrge8 := Lib.hid erg8
  have Hrge9 := Lib.hid erg9
  have Hrge10 := Lib.hid erg10
  have Hrge11 := Lib.hid erg11
  clear krg xrg strg crg hCrg hXrg erg0 erg1 erg2 erg3 erg4 erg5 erg6 erg7 erg8 erg9 erg10 erg11
  go_wp2_with fail
  refine Reg.regionF Erg Crg Xrg Hrgst.out (by kernel_rfl) (by kernel_rfl) (by kernel_rfl) Hrgc.out (fun Frg hFrg => ?_)
  simp only [Reg.frame, Reg.dsts, List.map_cons, List.map_nil, Mix.put_lit, List.set_cons_succ, List.set_cons_zero, Nat.zero_add, Nat.reduceAdd] at hFrg
  refine ⟨?_, ?_⟩
  · refine ⟨?_, ?_, ?_, ?_, ?_, ?_, ?_, ?_, ?_, ?_, ?_, ?_, trivial⟩
    · intro Lq wq xq hh
      simp only [hFrg]
      refine .inl ⟨rfl, ?_⟩
      unfold Reg.upon
      have hk := Hrgk.out 0 Lq wq  hh.cls
      have hx := Hrgx.out wq
      have he : Erg 0 (.pointer (some ⟨g, 0, none⟩)) wq := by rw [Hrge0.out]
      have HK := Lib.hid (And.intro hk (And.intro he hx))
      clear hk hx he
      go_simp
      exact HK.out
    · intro Lq wq xq hh
      have d0 : Erg 0 (xq 0) wq := hh.val 0 (by kernel_rfl) (by kernel_rfl)
      rw [Hrge0.out] at d0
      simp only [hFrg, d0]
      clear d0
      refine .inl ⟨rfl, ?_⟩
      unfold Reg.upon
      have hk := Hrgk.out 1 Lq wq  hh.cls
      have hx := Hrgx.out wq
      have he : Erg 1 (.pointer (some ⟨g, 0, none⟩)) wq := by rw [Hrge1.out]
      have HK := Lib.hid (And.intro hk (And.intro he hx))
      clear hk hx he
      go_simp
      exact HK.out
    · intro Lq wq xq hh
      have d1 : Erg 1 (xq 1) wq := hh.val 1 (by kernel_rfl) (by kernel_rfl)
      rw [Hrge1.out] at d1
      simp only [hFrg, d1]
      clear d1
      refine .inl ⟨rfl, ?_⟩
      unfold Reg.upon
      have hk := Hrgk.out 2 Lq wq  hh.cls
      have hx := Hrgx.out wq
      have he : Erg 2 (.pointer (some ⟨g, 0, none⟩)) wq := by rw [Hrge2.out]
      have HK := Lib.hid (And.intro hk (And.intro he hx))
      clear hk hx he
      go_simp
      exact HK.out
    · intro Lq wq xq hh
      have d2 : Erg 2 (xq 2) wq := hh.val 2 (by kernel_rfl) (by kernel_rfl)
      rw [Hrge2.out] at d2
      simp only [hFrg, d2]
      clear d2
      refine .inl ⟨rfl, ?_⟩
      unfold Reg.upon
      have hc : Crg Lq wq := hh.cls
      rw [HrghC.out] at hc
      have hc0 := (hc.cell (p := ⟨g, 0, none⟩) HGL.out).trans HC0.out
      clear hc
      have hk := Hrgk.out 3 Lq wq  hh.cls
      have hx := Hrgx.out wq
      have he : Erg 3 (.slice (some ⟨gc, 0, none⟩) L.length cap) wq := by rw [Hrge3.out]
      have HK := Lib.hid (And.intro hk (And.intro he hx))
      clear hk hx he
      go_simp
      exact HK.out
    · intro Lq wq xq hh
      have d3 : Erg 3 (xq 3) wq := hh.val 3 (by kernel_rfl) (by kernel_rfl)
      rw [Hrge3.out] at d3
      simp only [hFrg, d3]
      clear d3
      refine .inl ⟨rfl, ?_⟩
      unfold Reg.upon
      have hc : Crg Lq wq := hh.cls
      rw [HrghC.out] at hc
      go_simp
      refine (clonecs_any _ _ L wq (H2.out.below hc) (by omega) HSH.out).mono ?_
      rintro e w2 ⟨v2, rfl, ho, hb⟩
      refine ⟨_, rfl, Hrgk.out 4 Lq w2 (Hrgb.out Lq wq w2 hh.cls hb), ?_, Hrgxb.out wq w2 hb⟩
      rw [Hrge4.out]
      exact (ho.base hc.size).zone (fun b _ k => Nat.le_trans hc.size k)
    · intro Lq wq xq hh
      simp only [hFrg]
      refine .inl ⟨rfl, ?_⟩
      unfold Reg.upon
      have hk := Hrgk.out 5 Lq wq  hh.cls
      have hx := Hrgx.out wq
      have he : Erg 5 (.pointer (some ⟨g, 0, none⟩)) wq := by rw [Hrge5.out]
      have HK := Lib.hid (And.intro hk (And.intro he hx))
      clear hk hx he
      go_simp
      exact HK.out
    · intro Lq wq xq hh
      have d5 : Erg 5 (xq 5) wq := hh.val 5 (by kernel_rfl) (by kernel_rfl)
      rw [Hrge5.out] at d5
      simp only [hFrg, d5]
      clear d5
      refine .inl ⟨rfl, ?_⟩
      unfold Reg.upon
      have hk := Hrgk.out 6 Lq wq  hh.cls
      have hx := Hrgx.out wq
      have he : Erg 6 (.pointer (some ⟨g, 0, none⟩)) wq := by rw [Hrge6.out]
      have HK := Lib.hid (And.intro hk (And.intro he hx))
      clear hk hx he
      go_simp
      exact HK.out
    · intro Lq wq xq hh
      have d6 : Erg 6 (xq 6) wq := hh.val 6 (by kernel_rfl) (by kernel_rfl)
      rw [Hrge6.out] at d6
      simp only [hFrg, d6]
      clear d6
      refine .inl ⟨rfl, ?_⟩
      unfold Reg.upon
      have hk := Hrgk.out 7 Lq wq  hh.cls
      have hx := Hrgx.out wq
      have he : Erg 7 (.pointer (some ⟨g, 1, none⟩)) wq := by rw [Hrge7.out]
      have HK := Lib.hid (And.intro hk (And.intro he hx))
      clear hk hx he
      go_simp
      exact HK.out
    · intro Lq wq xq hh
      have d7 : Erg 7 (xq 7) wq := hh.val 7 (by kernel_rfl) (by kernel_rfl)
      rw [Hrge7.out] at d7
      simp only [hFrg, d7]
      clear d7
      refine .inl ⟨rfl, ?_⟩
      unfold Reg.upon
      have hc : Crg Lq wq := hh.cls
      rw [HrghC.out] at hc
      have hc1 := (hc.cell (p := ⟨g, 1, none⟩) HGL.out).trans HC1.out
      clear hc
      have hk := Hrgk.out 8 Lq wq  hh.cls
      have hx := Hrgx.out wq
      have he : Erg 8 (.bool wrap) wq := by rw [Hrge8.out]
      have HK := Lib.hid (And.intro hk (And.intro he hx))
      clear hk hx he
      go_simp
      exact HK.out
    · intro Lq wq xq hh
      have d4 : Erg 4 (xq 4) wq := hh.val 4 (by kernel_rfl) (by kernel_rfl)
      rw [Hrge4.out] at d4
      have d8 : Erg 8 (xq 8) wq := hh.val 8 (by kernel_rfl) (by kernel_rfl)
      rw [Hrge8.out] at d8
      simp only [hFrg, d8]
      clear d8
      refine .inl ⟨rfl, ?_⟩
      unfold Reg.upon
      obtain ⟨gc9, cap9, e9, _, _⟩ := d4.some hpos
      rw [e9] at d4 ⊢
      go_simp
      exact ⟨Hrgk.out 9 Lq wq hh.cls, (by rw [Hrge9.out]; exact ⟨_, _, rfl, d4⟩), Hrgx.out _⟩
    · intro Lq wq xq hh
      have d9 : Erg 9 (xq 9) wq := hh.val 9 (by kernel_rfl) (by kernel_rfl)
      rw [Hrge9.out] at d9
      simp only [hFrg]
      refine .inl ⟨rfl, ?_⟩
      unfold Reg.upon
      obtain ⟨gc9, cap9, e9, h9⟩ := d9
      rw [e9]
      have hc : Crg Lq wq := hh.cls
      rw [HrghC.out] at hc
      have hb1 := (Below.refl wq.heap.size wq).alloc (Nat.le_refl _) (.cells #[.slice (some ⟨gc9, 0, none⟩) L.length cap9, .bool wrap] 93)
      obtain ⟨gc8, hr8⟩ := row_new (wrap := wrap) h9 hc.size hpos hl HSD.out
      go_simp
      refine ⟨Hrgk.out 10 Lq _ (Hrgb.out Lq wq _ hh.cls hb1), ?_, Hrgxb.out wq _ hb1⟩
      rw [Hrge10.out]
      exact ⟨_, gc8, rfl, hr8⟩
    · intro Lq wq xq hh
      have d10 : Erg 10 (xq 10) wq := hh.val 10 (by kernel_rfl) (by kernel_rfl)
      rw [Hrge10.out] at d10
      simp only [hFrg]
      refine .inl ⟨rfl, ?_⟩
      unfold Reg.upon
      go_simp
      exact ⟨Hrgk.out 11 Lq wq hh.cls, (by rw [Hrge11.out]; exact d10), Hrgx.out wq⟩
  intro xq wrg hcrg hvrg
  rw [HrghC.out] at hcrg
  simp only [hFrg]
  have vrg11 : Erg 11 (xq 11) wrg := hvrg 11 (by decide)
  rw [Hrge11.out] at vrg11
  clear hvrg hFrg Hrgk Hrgx Hrgst Hrgc HrghC HrghX Hrgb Hrgxb Hrge0 Hrge1 Hrge2 Hrge3 Hrge4 Hrge5 Hrge6 Hrge7 Hrge8 Hrge9 Hrge10 Hrge11
  obtain ⟨g9, gc9, e9, h9⟩ := vrg11
  rw [e9]
  have H9 := Lib.hid h9
  have HB := Lib.hid hcrg
  clear e9 h9 hcrg
  go_wp2
  go_ret
  exact ⟨g9, gc9, rfl, H9.out, HB.out⟩
theorem rcopy_nil (w : World) : Calls Tryd.prog 77 #[.pointer none] w fun e w' => e = .returned (.pointer none) ∧ w = w' := by
  go_enter Tryd.func77, Tryd.ntmps77
  go_wp2
  go_ret
  exact ⟨rfl, rfl⟩
section
variable (sa : Nat → Addr) (Y : Zone) (L : List Cl) (v : Value) (w : World)
set_option maxRecDepth 100000 in
theorem rof_range (hs : Sents w sa) (hv : HeldE cellE Y w v L) (hbad : L.length = 0 ∨ 1024 < L.length) : Calls Tryd.prog 15 #[v] w (Gives w (.tuple #[.pointer none, .iface 154 (.pointer (some (sa 2)))])) := by
  have c2 := hs.cell 2 (by decide)
  simp only [glob] at c2
  have hm := hv.max
  obtain ⟨ao, pc, rfl⟩ := hv.len
  clear hs hv
  rcases hbad with h0 | h0
  · have hz : ((L.length : Int) == 0) = true := by rw [h0]; rfl
    clear h0
    go_enter Tryd.func15, Tryd.ntmps15
    go_wp2
    go_quiet (fail)
    go_wp2
    go_ret2
    exact ⟨rfl, (Below.refl _ _).drewN _⟩
  · have hz : ((L.length : Int) == 0) = false := by rw [beq_eq_false_iff_ne]; omega
    go_enter Tryd.func15, Tryd.ntmps15
    go_wp2
    go_quiet (fail)
    go_wp2
    go_ret2
    exact ⟨rfl, (Below.refl _ _).drewN _⟩
set_option maxRecDepth 100000 in
theorem rof_kind (hs : Sents w sa) (hv : HeldE cellE Y w v L) (h0 : 0 < L.length) (h1 : L.length ≤ 1024) (hbad : soundB L = false) : Calls Tryd.prog 15 #[v] w (Gives w (.tuple #[.pointer none, .iface 154 (.pointer (some (sa 4)))])) := by
  have HS := Lib.hid hs
  have HSD := Lib.hid (sound_any _ _ _ _ hv)
  rw [hbad] at HSD
  obtain ⟨ao, pc, rfl⟩ := hv.len
  clear hs hv hbad
  have hz : ((L.length : Int) == 0) = false := by rw [beq_eq_false_iff_ne]; omega
  go_enter Tryd.func15, Tryd.ntmps15
  go_wp2_with fail
  refine HSD.out.mono ?_
  rintro e w2 ⟨rfl, b2⟩
  have c4 := (HS.out.below b2).cell 4 (by decide)
  simp only [glob] at c4
  go_wp2
  go_quiet (fail)
  go_wp2
  go_ret2
  exact ⟨rfl, b2.drewN _⟩
def RowOf (e : Ending) (w' : World) : Prop := ∃ g gc, e = .returned (.tuple #[.pointer (some ⟨g, 0, none⟩), .nilIface]) ∧ RowAt (fun b => w.heap.size ≤ b) w' w.heap.size g gc L false ∧ Below w.heap.size w w'
set_option maxRecDepth 100000 in
theorem rof_ok (hv : HeldE cellE Y w v L) (h0 : 0 < L.length) (h1 : L.length ≤ 1024) (hsd : soundB L = true) : Calls Tryd.prog 15 #[v] w (RowOf L w) := by
  have HSD := Lib.hid (sound_any _ _ _ _ hv)
  rw [hsd] at HSD
  have HV := Lib.hid hv
  have HSS := Lib.hid hsd
  obtain ⟨ao, pc, rfl⟩ := hv.len
  clear hv hsd
  have hz : ((L.length : Int) == 0) = false := by rw [beq_eq_false_iff_ne]; omega
  go_enter Tryd.func15, Tryd.ntmps15
  go_wp2_with fail
  refine HSD.out.mono ?_
  rintro e w2 ⟨rfl, b2⟩
  have B2 := Lib.hid b2
  clear b2
  go_wp2_with fail
  refine (clonecs_any _ _ L w2 (HV.out.below B2.out) (by omega) (sound_short HSS.out)).mono ?_
  rintro e w3 ⟨v3, rfl, ho3, b3⟩
  have B3 := Lib.hid (B2.out.trans (b3.mono B2.out.size))
  have ho3 := (ho3.base B2.out.size).zone (Y := fun b => w.heap.size ≤ b) (fun b _ k => Nat.le_trans B2.out.size k)
  obtain ⟨gc0, cap0, rfl, _, _⟩ := ho3.some h0
  obtain ⟨gc, hr⟩ := row_new (wrap := false) ho3 B3.out.size h0 h1 HSS.out
  have HR := Lib.hid hr
  clear ho3 b3 hr
  go_wp2
  go_ret2
  exact ⟨_, gc, rfl, HR.out, B3.out.alloc B3.out.size _⟩
end
end Go.Proofs.YtmclmhdlnlcafaaDoor
