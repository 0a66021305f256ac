/- fit: Split, Join. -/
import Derived.Test.YtomfclkldmmmgaaDoorFitA
import Derived.Test.YtomfclkldmmmgaaDoorReg
namespace Go.Proofs.YtomfclkldmmmgaaDoor
open Go.RowKit Go.ChangeShapes Go.WideShapes
theorem fsplit_bad (Z : Zone) (B g gc : Nat) (L : List Cl) (wrap : Bool) (c : Int) (w : World) (h : RowAt Z w B g gc L wrap) (hb : c < 1 ∨ (L.length : Int) ≤ c) : Calls Tryd.prog 49 #[.pointer (some ⟨g, 0, none⟩), .int .i64 c] w fun e w' => e = .returned (.tuple #[.pointer none, .pointer none]) ∧ w = w' := by
  have HW := Lib.hid (rwide_any Z B g gc L wrap w h)
  clear h
  by_cases h0 : c < 1
  · have hd : decide (c < 1) = true := by simp; omega
    clear hb
    go_enter Tryd.func49, Tryd.ntmps49
    go_wp2
    go_ret2
    exact ⟨rfl, rfl⟩
  · have hd : decide (c < 1) = false := by simp; omega
    have hd1 : decide ((L.length : Int) ≤ c) = true := by simp; omega
    clear hb
    go_enter Tryd.func49, Tryd.ntmps49
    go_wp2_with fail
    refine HW.out.mono ?_
    rintro e w1 ⟨rfl, rfl⟩
    go_wp2
    go_ret2
    exact ⟨rfl, rfl⟩
def TwoRows (w : World) (L M : List Cl) (e : Ending) (w' : World) : Prop := ∃ g1 gc1 g2 gc2, e = .returned (.tuple #[.pointer (some ⟨g1, 0, none⟩), .pointer (some ⟨g2, 0, none⟩)]) ∧ RowAt (fun b => w.heap.size ≤ b) w' w.heap.size g1 gc1 L false ∧ RowAt (fun b => w.heap.size ≤ b) w' w.heap.size g2 gc2 M false ∧ Below w.heap.size w w'
set_option maxRecDepth 100000 in
set_option maxHeartbeats 3000000 in
theorem fsplit_good (B g gc : Nat) (L : List Cl) (wrap : Bool) (c : Nat) (w : World) (h : RowAt (fun _ => True) w B g gc L wrap) (hc0 : 0 < c) (hc : c < L.length) : Calls Tryd.prog 49 #[.pointer (some ⟨g, 0, none⟩), .int .i64 c] w (TwoRows w ((tearL L c).take c) ((tearL L c).drop c)) := by
  obtain ⟨hl0, hl1, hs⟩ := h.len
  have HR := Lib.hid h
  have HW := Lib.hid (rwide_any _ B g gc L wrap w h)
  have HTL := Lib.hid (tear_len L c)
  have HCUT := Lib.hid (sound_cut (tear_sound hs c) c (tear_not3 L c))
  have hd : decide ((c : Int) < 1) = false := by simp; omega
  have hd1 : decide ((L.length : Int) ≤ c) = false := by simp; omega
  have hd1n : decide (L.length ≤ c) = false := by simp; omega
  obtain ⟨b, hb⟩ : ∃ b, c = b + 1 := ⟨c - 1, by omega⟩
  have hb0 : (c : Int) - 1 = b := by omega
  have hbw : IntKind.i64.wrap (b : Int) = (b : Int) := by rw [IntKind.wrap_i64]; omega
  have hbl : b < L.length := by omega
  have HBC := Lib.hid hb
  clear h hs hb
  go_enter Tryd.func49, Tryd.ntmps49
  go_wp2_with fail
  refine HW.out.mono ?_
  rintro e w1 ⟨rfl, rfl⟩
  go_wp2_with fail
  clear hd hd1 hd1n
  refine (rcells_any _ B g gc L wrap w HR.out).mono ?_
  rintro e w1 ⟨v1, rfl, ho1, b1⟩
  obtain ⟨gq, cap, rfl, hq1, hq2⟩ := ho1.some hl0
  have HO1 := Lib.hid ho1
  have HB1 := Lib.hid b1
  have HQ := Lib.hid (And.intro hq1 hq2)
  have ck := ownE_kind ho1 hc
  clear ho1 b1 hq1 hq2
  obtain ⟨T, hT⟩ : ∃ T, T = tearL L c := ⟨_, rfl⟩
  have HT := Lib.hid hT
  rw [← hT] at HTL HCUT
  clear hT
  have hz1 : ¬ (cap = c) := by obtain ⟨_, hn, _⟩ := (HO1.out.held (Z := fun b => w.heap.size ≤ b) (fun _ h _ => h)).spots; omega
  have hz2 : c ≤ cap := by obtain ⟨_, hn, _⟩ := (HO1.out.held (Z := fun b => w.heap.size ≤ b) (fun _ h _ => h)).spots; omega
  have hz3 : (c : Int) ≤ (cap : Int) := by omega
  have hz4 : (c : Int) ≤ (L.length : Int) := by omega
  by_cases h3 : (L.getD c zc).1 = 3
  · rw [h3] at ck
    have HTE := Lib.hid (show tearL L c = (L.set b zc).set c zc by unfold tearL; rw [if_pos h3, show c - 1 = b by have := HBC.out; omega])
    have hcl : c < (L.set b zc).length := by rw [List.length_set]; exact hc
    have HCL := Lib.hid hcl
    clear h3 hcl
    go_upto_region 5 with (fail)
    go_wp2_with (refine wpList_put_e (E := cellE) (Y := fun b => w.heap.size ≤ b) (i := b) rfl 27 (.tmp 30) (.tmp 28) rfl rfl rfl [.int .i64 0, .slice none 0 0] rfl (by kernel_rfl) HO1.out.each hbl zc (zero_rep _ _) ?_)
    intro w2 hw2 hu2
    have H2 := Lib.hid (show OwnE cellE (fun b => w.heap.size ≤ b) _ _ 27 _ _ from hw2)
    have HB2 := Lib.hid (HB1.out.upd hu2 HB1.out.size (fun x e => by have := HQ.out.1; omega))
    clear hw2 hu2 ck
    go_upto_region 6 with (refine wpList_put_e (E := cellE) (Y := fun b => w.heap.size ≤ b) (i := c) rfl 27 (.tmp 31) (.tmp 29) rfl rfl rfl [.int .i64 0, .slice none 0 0] rfl (by kernel_rfl) H2.out.each HCL.out zc (zero_rep _ _) ?_)
    intro w3 hw3 hu3
    have H3 := Lib.hid (show OwnE cellE (fun b => w.heap.size ≤ b) w3 w.heap.size 27 (.slice (some ⟨gq, 0, none⟩) L.length cap) T from by
      have h9 : OwnE cellE (fun b => w.heap.size ≤ b) w3 w.heap.size 27 (.slice (some ⟨gq, 0, none⟩) L.length cap) ((L.set b zc).set c zc) := hw3
      rw [HT.out, HTE.out]
      exact h9)
    have HB3 := Lib.hid (HB2.out.upd hu3 HB2.out.size (fun x e => by have := HQ.out.1; omega))
    clear hw3 hu3
    go_upto_region 6 with (fail)
    have hh3 := H3.out.held (Z := fun b => w.heap.size ≤ b) (fun _ h _ => h)
    rw [← HTL.out] at hh3
    have HH := Lib.hid hh3
    clear hh3
    have HA := Lib.hid (fun w' (b : Below w3.heap.size w3 w') => part_head (HH.out.below b) c (by rw [HTL.out]; omega))
    have HC := Lib.hid (fun w' (b : Below w3.heap.size w3 w') => part3 (HH.out.below b) c T.length (by rw [HTL.out]; omega) (Nat.le_refl _))
    rw [show (T.drop c).take (T.length - c) = T.drop c from List.take_of_length_le (by rw [List.length_drop]; exact Nat.le_refl _), HTL.out] at HC
    have HL1 := Lib.hid (show (T.take c).length = c by rw [List.length_take, HTL.out]; omega)
    have HL2 := Lib.hid (show (T.drop c).length = L.length - c by rw [List.length_drop, HTL.out])
    obtain ⟨Erg, hErg⟩ : ∃ EE : Nat → Value → World → Prop, EE = fun jj xx ww => match jj with
        | 0 => xx = .slice (some ⟨gq, 0, none⟩) L.length cap
        | 1 => xx = .int .i64 c
        | 2 => xx = .slice (some ⟨gq, 0, none⟩) c cap
        | 3 => (fun x w' => ∃ g9 gc9, x = .pointer (some ⟨g9, 0, none⟩) ∧ RowAt (fun b => w.heap.size ≤ b) w' w.heap.size g9 gc9 (T.take c) false) xx ww
        | 4 => xx = .slice (some ⟨gq, 0, none⟩) L.length cap
        | 5 => xx = .int .i64 c
        | 6 => xx = .slice (some ⟨gq, c * 2, none⟩) (L.length - c) (cap - c)
        | 7 => (fun x w' => ∃ g9 gc9, x = .pointer (some ⟨g9, 0, none⟩) ∧ RowAt (fun b => w.heap.size ≤ b) w' w.heap.size g9 gc9 (T.drop c) false) xx ww
        | 8 => (fun x w' => ∃ g9 gc9, x = .pointer (some ⟨g9, 0, none⟩) ∧ RowAt (fun b => w.heap.size ≤ b) w' w.heap.size g9 gc9 (T.take c) false) xx ww
        | 9 => (fun x w' => ∃ g9 gc9, x = .pointer (some ⟨g9, 0, none⟩) ∧ RowAt (fun b => w.heap.size ≤ b) w' w.heap.size g9 gc9 (T.drop c) false) xx ww
        | _ => True := ⟨_, rfl⟩
    have erg0 : ∀ xx ww, Erg 0 xx ww = (xx = .slice (some ⟨gq, 0, none⟩) L.length cap) := fun xx ww => congrFun (congrFun (congrFun hErg 0) xx) ww
    have erg1 : ∀ xx ww, Erg 1 xx ww = (xx = .int .i64 c) := fun xx ww => congrFun (congrFun (congrFun hErg 1) xx) ww
    have erg2 : ∀ xx ww, Erg 2 xx ww = (xx = .slice (some ⟨gq, 0, none⟩) c cap) := fun xx ww => congrFun (congrFun (congrFun hErg 2) xx) ww
    have erg3 : ∀ xx ww, Erg 3 xx ww = ((fun x w' => ∃ g9 gc9, x = .pointer (some ⟨g9, 0, none⟩) ∧ RowAt (fun b => w.heap.size ≤ b) w' w.heap.size g9 gc9 (T.take c) false) xx ww) := fun xx ww => congrFun (congrFun (congrFun hErg 3) xx) ww
    have erg4 : ∀ xx ww, Erg 4 xx ww = (xx = .slice (some ⟨gq, 0, none⟩) L.length cap) := fun xx ww => congrFun (congrFun (congrFun hErg 4) xx) ww
    have erg5 : ∀ xx ww, Erg 5 xx ww = (xx = .int .i64 c) := fun xx ww => congrFun (congrFun (congrFun hErg 5) xx) ww
    have erg6 : ∀ xx ww, Erg 6 xx ww = (xx = .slice (some ⟨gq, c * 2, none⟩) (L.length - c) (cap - c)) := fun xx ww => congrFun (congrFun (congrFun hErg 6) xx) ww
    have erg7 : ∀ xx ww, Erg 7 xx ww = ((fun x w' => ∃ g9 gc9, x = .pointer (some ⟨g9, 0, none⟩) ∧ RowAt (fun b => w.heap.size ≤ b) w' w.heap.size g9 gc9 (T.drop c) false) xx ww) := fun xx ww => congrFun (congrFun (congrFun hErg 7) xx) ww
    have erg8 : ∀ xx ww, Erg 8 xx ww = ((fun x w' => ∃ g9 gc9, x = .pointer (some ⟨g9, 0, none⟩) ∧ RowAt (fun b => w.heap.size ≤ b) w' w.heap.size g9 gc9 (T.take c) false) xx ww) := fun xx ww => congrFun (congrFun (congrFun hErg 8) xx) ww
    have erg9 : ∀ xx ww, Erg 9 xx ww = ((fun x w' => ∃ g9 gc9, x = .pointer (some ⟨g9, 0, none⟩) ∧ RowAt (fun b => w.heap.size ≤ b) w' w.heap.size g9 gc9 (T.drop c) false) xx ww) := fun xx ww => congrFun (congrFun (congrFun hErg 9) xx) ww
    obtain ⟨Crg, hCrg⟩ : ∃ CC : Array Bool → World → Prop, CC = fun L8 w' => Below w3.heap.size w3 w' := ⟨_, rfl⟩
    have krg : ∀ i L w,  Crg L w → Crg (L.setIfInBounds i true) w := by
      intro i L w  h
      rw [hCrg] at h ⊢
      exact h
    obtain ⟨Xrg, hXrg⟩ : ∃ XX : World → World → Prop, XX = fun x y => Below x.heap.size x y := ⟨_, rfl⟩
    have xrg : ∀ w, Xrg w w := fun w => by rw [hXrg]; exact Below.refl _ _
    have strg : ∀ j x w w1, Xrg w w1 → Erg j x w → Erg j x w1 := by
      intro j x w w1 hx h
      rw [hXrg] at hx
      match j with
      | 0 => rw [erg0] at h ⊢; exact h
      | 1 => rw [erg1] at h ⊢; exact h
      | 2 => rw [erg2] at h ⊢; exact h
      | 3 => rw [erg3] at h ⊢; ((obtain ⟨g9, gc9, e9, h9⟩ := h; exact ⟨g9, gc9, e9, RowAt.below h9 hx⟩))
      | 4 => rw [erg4] at h ⊢; exact h
      | 5 => rw [erg5] at h ⊢; exact h
      | 6 => rw [erg6] at h ⊢; exact h
      | 7 => rw [erg7] at h ⊢; ((obtain ⟨g9, gc9, e9, h9⟩ := h; exact ⟨g9, gc9, e9, RowAt.below h9 hx⟩))
      | 8 => rw [erg8] at h ⊢; ((obtain ⟨g9, gc9, e9, h9⟩ := h; exact ⟨g9, gc9, e9, RowAt.below h9 hx⟩))
      | 9 => rw [erg9] at h ⊢; ((obtain ⟨g9, gc9, e9, h9⟩ := h; exact ⟨g9, gc9, e9, RowAt.below h9 hx⟩))
      | j + 10 => rw [hErg]; trivial
    have crg : Crg (Array.replicate 10 false) w3.drew := by rw [hCrg]; exact (Below.refl _ _).drew
    have brg : ∀ L w w1, Crg L w → Below w.heap.size w w1 → Crg L w1 := by
      intro L w w1 h hb
      rw [hCrg] at h ⊢
      exact h.trans (hb.mono h.size)
    have xbrg : ∀ w w1, Below w.heap.size w w1 → Xrg w w1 := by
      intro w w1 hb
      rw [hXrg]
      exact hb
    have Hrgb := Lib.hid brg
    have Hrgxb := Lib.hid xbrg
    clear brg xbrg
    clear hErg
    have Hrgk := Lib.hid krg
    have Hrgx := Lib.hid xrg
    have Hrgst := Lib.hid strg
    have Hrgc := Lib.hid crg
    have HrghC := Lib.hid hCrg
    have HrghX := Lib.hid hXrg
    have Hrge0 := Lib.hid erg0
    have Hrge1 := Lib.hid erg1
    have Hrge2 := Lib.hid erg2
    have Hrge3 := Lib.hid erg3
    have Hrge4 := Lib.hid erg4
    have Hrge5 := Lib.hid erg5
    have Hrge6 := Lib.hid erg6
    have Hrge7 := Lib.hid erg7
    have Hrge8 := Lib.hid erg8
    have Hrge9 := Lib.hid erg9
    clear krg xrg strg crg hCrg hXrg erg0 erg1 erg2 erg3 erg4 erg5 erg6 erg7 erg8 erg9
    go_wp2_with fail
    refine Reg.regionF Erg Crg Xrg Hrgst.out (by kernel_rfl) (by kernel_rfl) (by kernel_rfl) Hrgc.out (fun Frg hFrg => ?_)
    simp only [Reg.frame, Reg.dsts, List.map_cons, List.map_nil, Mix.put_lit, List.set_cons_succ, List.set_cons_zero, Nat.zero_add, Nat.reduceAdd] at hFrg
    refine ⟨?_, ?_⟩
    · refine ⟨?_, ?_, ?_, ?_, ?_, ?_, ?_, ?_, ?_, ?_, trivial⟩
      · intro Lq wq xq hh
        simp only [hFrg]
        refine .inl ⟨rfl, ?_⟩
        unfold Reg.upon
        have hk := Hrgk.out 0 Lq wq  hh.cls
        have hx := Hrgx.out wq
        have he : Erg 0 (.slice (some ⟨gq, 0, none⟩) L.length cap) wq := by rw [Hrge0.out]
        have HK := Lib.hid (And.intro hk (And.intro he hx))
        clear hk hx he
        go_simp
        exact HK.out
      · intro Lq wq xq hh
        simp only [hFrg]
        refine .inl ⟨rfl, ?_⟩
        unfold Reg.upon
        have hk := Hrgk.out 1 Lq wq  hh.cls
        have hx := Hrgx.out wq
        have he : Erg 1 (.int .i64 c) wq := by rw [Hrge1.out]
        have HK := Lib.hid (And.intro hk (And.intro he hx))
        clear hk hx he
        go_simp
        exact HK.out
      · intro Lq wq xq hh
        have d0 : Erg 0 (xq 0) wq := hh.val 0 (by kernel_rfl) (by kernel_rfl)
        rw [Hrge0.out] at d0
        have d1 : Erg 1 (xq 1) wq := hh.val 1 (by kernel_rfl) (by kernel_rfl)
        rw [Hrge1.out] at d1
        simp only [hFrg, d0, d1]
        clear d0 d1
        refine .inl ⟨rfl, ?_⟩
        unfold Reg.upon
        have hk := Hrgk.out 2 Lq wq  hh.cls
        have hx := Hrgx.out wq
        have he : Erg 2 (.slice (some ⟨gq, 0, none⟩) c cap) wq := by rw [Hrge2.out]
        have HK := Lib.hid (And.intro hk (And.intro he hx))
        clear hk hx he
        go_simp
        exact HK.out
      · intro Lq wq xq hh
        have d2 : Erg 2 (xq 2) wq := hh.val 2 (by kernel_rfl) (by kernel_rfl)
        rw [Hrge2.out] at d2
        simp only [hFrg, d2]
        clear d2
        refine .inl ⟨rfl, ?_⟩
        unfold Reg.upon
        have hc : Crg Lq wq := hh.cls
        rw [HrghC.out] at hc
        go_simp
        refine (made_ok _ _ _ wq (HA.out wq hc) (by rw [HL1.out]; omega) (by rw [HL1.out]; omega) HCUT.out.1).mono ?_
        intro e w4 hm
        have hb0 := HB3.out.trans (hc.mono HB3.out.size)
        have hm2 := hm.up (Y := fun b => w.heap.size ≤ b) hb0 (fun b h => Nat.le_trans hb0.size h) (fun b h => Nat.le_trans hb0.size h)
        obtain ⟨_, _, _, _, hb4⟩ := hm
        obtain ⟨g9, gc9, rfl, h9, _⟩ := hm2
        refine ⟨_, rfl, Hrgk.out 3 Lq w4 (Hrgb.out Lq wq w4 hh.cls hb4), ?_, Hrgxb.out wq w4 hb4⟩
        rw [Hrge3.out]
        exact ⟨g9, gc9, rfl, h9⟩
      · intro Lq wq xq hh
        simp only [hFrg]
        refine .inl ⟨rfl, ?_⟩
        unfold Reg.upon
        have hk := Hrgk.out 4 Lq wq  hh.cls
        have hx := Hrgx.out wq
        have he : Erg 4 (.slice (some ⟨gq, 0, none⟩) L.length cap) wq := by rw [Hrge4.out]
        have HK := Lib.hid (And.intro hk (And.intro he hx))
        clear hk hx he
        go_simp
        exact HK.out
      · intro Lq wq xq hh
        simp only [hFrg]
        refine .inl ⟨rfl, ?_⟩
        unfold Reg.upon
        have hk := Hrgk.out 5 Lq wq  hh.cls
        have hx := Hrgx.out wq
        have he : Erg 5 (.int .i64 c) wq := by rw [Hrge5.out]
        have HK := Lib.hid (And.intro hk (And.intro he hx))
        clear hk hx he
        go_simp
        exact HK.out
      · intro Lq wq xq hh
        have d4 : Erg 4 (xq 4) wq := hh.val 4 (by kernel_rfl) (by kernel_rfl)
        rw [Hrge4.out] at d4
        have d5 : Erg 5 (xq 5) wq := hh.val 5 (by kernel_rfl) (by kernel_rfl)
        rw [Hrge5.out] at d5
        simp only [hFrg, d4, d5]
        clear d4 d5
        refine .inl ⟨rfl, ?_⟩
        unfold Reg.upon
        have hk := Hrgk.out 6 Lq wq  hh.cls
        have hx := Hrgx.out wq
        have he : Erg 6 (.slice (some ⟨gq, c * 2, none⟩) (L.length - c) (cap - c)) wq := by rw [Hrge6.out]
        have HK := Lib.hid (And.intro hk (And.intro he hx))
        clear hk hx he
        go_simp
        exact HK.out
      · intro Lq wq xq hh
        have d6 : Erg 6 (xq 6) wq := hh.val 6 (by kernel_rfl) (by kernel_rfl)
        rw [Hrge6.out] at d6
        simp only [hFrg, d6]
        clear d6
        refine .inl ⟨rfl, ?_⟩
        unfold Reg.upon
        have hc : Crg Lq wq := hh.cls
        rw [HrghC.out] at hc
        go_simp
        refine (made_ok _ _ _ wq (HC.out wq hc) (by rw [HL2.out]; omega) (by rw [HL2.out]; omega) HCUT.out.2).mono ?_
        intro e w4 hm
        have hb0 := HB3.out.trans (hc.mono HB3.out.size)
        have hm2 := hm.up (Y := fun b => w.heap.size ≤ b) hb0 (fun b h => Nat.le_trans hb0.size h) (fun b h => Nat.le_trans hb0.size h)
        obtain ⟨_, _, _, _, hb4⟩ := hm
        obtain ⟨g9, gc9, rfl, h9, _⟩ := hm2
        refine ⟨_, rfl, Hrgk.out 7 Lq w4 (Hrgb.out Lq wq w4 hh.cls hb4), ?_, Hrgxb.out wq w4 hb4⟩
        rw [Hrge7.out]
        exact ⟨g9, gc9, rfl, h9⟩
      · intro Lq wq xq hh
        have d3 : Erg 3 (xq 3) wq := hh.val 3 (by kernel_rfl) (by kernel_rfl)
        rw [Hrge3.out] at d3
        simp only [hFrg]
        refine .inl ⟨rfl, ?_⟩
        unfold Reg.upon
        go_simp
        exact ⟨Hrgk.out 8 Lq wq hh.cls, (by rw [Hrge8.out]; exact d3), Hrgx.out _⟩
      · intro Lq wq xq hh
        have d7 : Erg 7 (xq 7) wq := hh.val 7 (by kernel_rfl) (by kernel_rfl)
        rw [Hrge7.out] at d7
        simp only [hFrg]
        refine .inl ⟨rfl, ?_⟩
        unfold Reg.upon
        go_simp
        exact ⟨Hrgk.out 9 Lq wq hh.cls, (by rw [Hrge9.out]; exact d7), Hrgx.out _⟩
    intro xq wrg hcrg hvrg
    rw [HrghC.out] at hcrg
    simp only [hFrg]
    have vrg8 : Erg 8 (xq 8) wrg := hvrg 8 (by decide)
    rw [Hrge8.out] at vrg8
    have vrg9 : Erg 9 (xq 9) wrg := hvrg 9 (by decide)
    rw [Hrge9.out] at vrg9
    clear hvrg hFrg Hrgk Hrgx Hrgst Hrgc HrghC HrghX Hrgb Hrgxb Hrge0 Hrge1 Hrge2 Hrge3 Hrge4 Hrge5 Hrge6 Hrge7 Hrge8 Hrge9
    obtain ⟨g1, gc1, e1, h1⟩ := vrg8
    obtain ⟨g2, gc2, e2, h2⟩ := vrg9
    rw [e1, e2]
    have HF := Lib.hid (And.intro h1 (And.intro h2 (HB3.out.trans (hcrg.mono HB3.out.size))))
    clear h1 h2 e1 e2 hcrg
    go_wp2
    go_ret2
    exact ⟨g1, gc1, g2, gc2, rfl, (by rw [← HT.out]; exact HF.out.1), (by rw [← HT.out]; exact HF.out.2.1), HF.out.2.2⟩
  · have HT3 := Lib.hid (show T = L by rw [HT.out]; exact tear_out h3)
    obtain ⟨K, hK⟩ : ∃ K, K = (L.getD c zc).1 := ⟨_, rfl⟩
    rw [← hK] at ck h3
    have hkb : (K == 3) = false := by rw [beq_eq_false_iff_ne]; exact h3
    obtain ⟨w3, hw3⟩ : ∃ w3, w3 = w1 := ⟨_, rfl⟩
    clear h3 hK
    go_upto_region 6 with (fail)
    clear ck hkb
    subst hw3
    have H3 := Lib.hid (show OwnE cellE (fun b => w.heap.size ≤ b) w3 w.heap.size 27 (.slice (some ⟨gq, 0, none⟩) L.length cap) T from by
      rw [HT3.out]
      exact HO1.out)
    have HB3 := HB1
    have hh3 := H3.out.held (Z := fun b => w.heap.size ≤ b) (fun _ h _ => h)
    rw [← HTL.out] at hh3
    have HH := Lib.hid hh3
    clear hh3
    have HA := Lib.hid (fun w' (b : Below w3.heap.size w3 w') => part_head (HH.out.below b) c (by rw [HTL.out]; omega))
    have HC := Lib.hid (fun w' (b : Below w3.heap.size w3 w') => part3 (HH.out.below b) c T.length (by rw [HTL.out]; omega) (Nat.le_refl _))
    rw [show (T.drop c).take (T.length - c) = T.drop c from List.take_of_length_le (by rw [List.length_drop]; exact Nat.le_refl _), HTL.out] at HC
    have HL1 := Lib.hid (show (T.take c).length = c by rw [List.length_take, HTL.out]; omega)
    have HL2 := Lib.hid (show (T.drop c).length = L.length - c by rw [List.length_drop, HTL.out])
    obtain ⟨Erg, hErg⟩ : ∃ EE : Nat → Value → World → Prop, EE = fun jj xx ww => match jj with
        | 0 => xx = .slice (some ⟨gq, 0, none⟩) L.length cap
        | 1 => xx = .int .i64 c
        | 2 => xx = .slice (some ⟨gq, 0, none⟩) c cap
        | 3 => (fun x w' => ∃ g9 gc9, x = .pointer (some ⟨g9, 0, none⟩) ∧ RowAt (fun b => w.heap.size ≤ b) w' w.heap.size g9 gc9 (T.take c) false) xx ww
        | 4 => xx = .slice (some ⟨gq, 0, none⟩) L.length cap
        | 5 => xx = .int .i64 c
        | 6 => xx = .slice (some ⟨gq, c * 2, none⟩) (L.length - c) (cap - c)
        | 7 => (fun x w' => ∃ g9 gc9, x = .pointer (some ⟨g9, 0, none⟩) ∧ RowAt (fun b => w.heap.size ≤ b) w' w.heap.size g9 gc9 (T.drop c) false) xx ww
        | 8 => (fun x w' => ∃ g9 gc9, x = .pointer (some ⟨g9, 0, none⟩) ∧ RowAt (fun b => w.heap.size ≤ b) w' w.heap.size g9 gc9 (T.take c) false) xx ww
        | 9 => (fun x w' => ∃ g9 gc9, x = .pointer (some ⟨g9, 0, none⟩) ∧ RowAt (fun b => w.heap.size ≤ b) w' w.heap.size g9 gc9 (T.drop c) false) xx ww
        | _ => True := ⟨_, rfl⟩
    have erg0 : ∀ xx ww, Erg 0 xx ww = (xx = .slice (some ⟨gq, 0, none⟩) L.length cap) := fun xx ww => congrFun (congrFun (congrFun hErg 0) xx) ww
    have erg1 : ∀ xx ww, Erg 1 xx ww = (xx = .int .i64 c) := fun xx ww => congrFun (congrFun (congrFun hErg 1) xx) ww
    have erg2 : ∀ xx ww, Erg 2 xx ww = (xx = .slice (some ⟨gq, 0, none⟩) c cap) := fun xx ww => congrFun (congrFun (congrFun hErg 2) xx) ww
    have erg3 : ∀ xx ww, Erg 3 xx ww = ((fun x w' => ∃ g9 gc9, x = .pointer (some ⟨g9, 0, none⟩) ∧ RowAt (fun b => w.heap.size ≤ b) w' w.heap.size g9 gc9 (T.take c) false) xx ww) := fun xx ww => congrFun (congrFun (congrFun hErg 3) xx) ww
    have erg4 : ∀ xx ww, Erg 4 xx ww = (xx = .slice (some ⟨gq, 0, none⟩) L.length cap) := fun xx ww => congrFun (congrFun (congrFun hErg 4) xx) ww
    have erg5 : ∀ xx ww, Erg 5 xx ww = (xx = .int .i64 c) := fun xx ww => congrFun (congrFun (congrFun hErg 5) xx) ww
    have erg6 : ∀ xx ww, Erg 6 xx ww = (xx = .slice (some ⟨gq, c * 2, none⟩) (L.length - c) (cap - c)) := fun xx ww => congrFun (congrFun (congrFun hErg 6) xx) ww
    have erg7 : ∀ xx ww, Erg 7 xx ww = ((fun x w' => ∃ g9 gc9, x = .pointer (some ⟨g9, 0, none⟩) ∧ RowAt (fun b => w.heap.size ≤ b) w' w.heap.size g9 gc9 (T.drop c) false) xx ww) := fun xx ww => congrFun (congrFun (congrFun hErg 7) xx) ww
    have erg8 : ∀ xx ww, Erg 8 xx ww = ((fun x w' => ∃ g9 gc9, x = .pointer (some ⟨g9, 0, none⟩) ∧ RowAt (fun b => w.heap.size ≤ b) w' w.heap.size g9 gc9 (T.take c) false) xx ww) := fun xx ww => congrFun (congrFun (congrFun hErg 8) xx) ww
    have erg9 : ∀ xx ww, Erg 9 xx ww = ((fun x w' => ∃ g9 gc9, x = .pointer (some ⟨g9, 0, none⟩) ∧ RowAt (fun b => w.heap.size ≤ b) w' w.heap.size g9 gc9 (T.drop c) false) xx ww) := fun xx ww => congrFun (congrFun (congrFun hErg 9) xx) ww
    obtain ⟨Crg, hCrg⟩ : ∃ CC : Array Bool → World → Prop, CC = fun L8 w' => Below w3.heap.size w3 w' := ⟨_, rfl⟩
    have krg : ∀ i L w,  Crg L w → Crg (L.setIfInBounds i true) w := by
      intro i L w  h
      rw [hCrg] at h ⊢
      exact h
    obtain ⟨Xrg, hXrg⟩ : ∃ XX : World → World → Prop, XX = fun x y => Below x.heap.size x y := ⟨_, rfl⟩
    have xrg : ∀ w, Xrg w w := fun w => by rw [hXrg]; exact Below.refl _ _
    have strg : ∀ j x w w1, Xrg w w1 → Erg j x w → Erg j x w1 := by
      intro j x w w1 hx h
      rw [hXrg] at hx
      match j with
      | 0 => rw [erg0] at h ⊢; exact h
      | 1 => rw [erg1] at h ⊢; exact h
      | 2 => rw [erg2] at h ⊢; exact h
      | 3 => rw [erg3] at h ⊢; ((obtain ⟨g9, gc9, e9, h9⟩ := h; exact ⟨g9, gc9, e9, RowAt.below h9 hx⟩))
      | 4 => rw [erg4] at h ⊢; exact h
      | 5 => rw [erg5] at h ⊢; exact h
      | 6 => rw [erg6] at h ⊢; exact h
      | 7 => rw [erg7] at h ⊢; ((obtain ⟨g9, gc9, e9, h9⟩ := h; exact ⟨g9, gc9, e9, RowAt.below h9 hx⟩))
      | 8 => rw [erg8] at h ⊢; ((obtain ⟨g9, gc9, e9, h9⟩ := h; exact ⟨g9, gc9, e9, RowAt.below h9 hx⟩))
      | 9 => rw [erg9] at h ⊢; ((obtain ⟨g9, gc9, e9, h9⟩ := h; exact ⟨g9, gc9, e9, RowAt.below h9 hx⟩))
      | j + 10 => rw [hErg]; trivial
    have crg : Crg (Array.replicate 10 false) w3.drew := by rw [hCrg]; exact (Below.refl _ _).drew
    have brg : ∀ L w w1, Crg L w → Below w.heap.size w w1 → Crg L w1 := by
      intro L w w1 h hb
      rw [hCrg] at h ⊢
      exact h.trans (hb.mono h.size)
    have xbrg : ∀ w w1, Below w.heap.size w w1 → Xrg w w1 := by
      intro w w1 hb
      rw [hXrg]
      exact hb
    have Hrgb := Lib.hid brg
    have Hrgxb := Lib.hid xbrg
    clear brg xbrg
    clear hErg
    have Hrgk := Lib.hid krg
    have Hrgx := Lib.hid xrg
    have Hrgst := Lib.hid strg
    have Hrgc := Lib.hid crg
    have HrghC := Lib.hid hCrg
    have HrghX := Lib.hid hXrg
    have Hrge0 := Lib.hid erg0
    have Hrge1 := Lib.hid erg1
    have Hrge2 := Lib.hid erg2
    have Hrge3 := Lib.hid erg3
    have Hrge4 := Lib.hid erg4
    have Hrge5 := Lib.hid erg5
    have Hrge6 := Lib.hid erg6
    have Hrge7 := Lib.hid erg7
    have Hrge8 := Lib.hid erg8
    have Hrge9 := Lib.hid erg9
    clear krg xrg strg crg hCrg hXrg erg0 erg1 erg2 erg3 erg4 erg5 erg6 erg7 erg8 erg9
    go_wp2_with fail
    refine Reg.regionF Erg Crg Xrg Hrgst.out (by kernel_rfl) (by kernel_rfl) (by kernel_rfl) Hrgc.out (fun Frg hFrg => ?_)
    simp only [Reg.frame, Reg.dsts, List.map_cons, List.map_nil, Mix.put_lit, List.set_cons_succ, List.set_cons_zero, Nat.zero_add, Nat.reduceAdd] at hFrg
    refine ⟨?_, ?_⟩
    · refine ⟨?_, ?_, ?_, ?_, ?_, ?_, ?_, ?_, ?_, ?_, trivial⟩
      · intro Lq wq xq hh
        simp only [hFrg]
        refine .inl ⟨rfl, ?_⟩
        unfold Reg.upon
        have hk := Hrgk.out 0 Lq wq  hh.cls
        have hx := Hrgx.out wq
        have he : Erg 0 (.slice (some ⟨gq, 0, none⟩) L.length cap) wq := by rw [Hrge0.out]
        have HK := Lib.hid (And.intro hk (And.intro he hx))
        clear hk hx he
        go_simp
        exact HK.out
      · intro Lq wq xq hh
        simp only [hFrg]
        refine .inl ⟨rfl, ?_⟩
        unfold Reg.upon
        have hk := Hrgk.out 1 Lq wq  hh.cls
        have hx := Hrgx.out wq
        have he : Erg 1 (.int .i64 c) wq := by rw [Hrge1.out]
        have HK := Lib.hid (And.intro hk (And.intro he hx))
        clear hk hx he
        go_simp
        exact HK.out
      · intro Lq wq xq hh
        have d0 : Erg 0 (xq 0) wq := hh.val 0 (by kernel_rfl) (by kernel_rfl)
        rw [Hrge0.out] at d0
        have d1 : Erg 1 (xq 1) wq := hh.val 1 (by kernel_rfl) (by kernel_rfl)
        rw [Hrge1.out] at d1
        simp only [hFrg, d0, d1]
        clear d0 d1
        refine .inl ⟨rfl, ?_⟩
        unfold Reg.upon
        have hk := Hrgk.out 2 Lq wq  hh.cls
        have hx := Hrgx.out wq
        have he : Erg 2 (.slice (some ⟨gq, 0, none⟩) c cap) wq := by rw [Hrge2.out]
        have HK := Lib.hid (And.intro hk (And.intro he hx))
        clear hk hx he
        go_simp
        exact HK.out
      · intro Lq wq xq hh
        have d2 : Erg 2 (xq 2) wq := hh.val 2 (by kernel_rfl) (by kernel_rfl)
        rw [Hrge2.out] at d2
        simp only [hFrg, d2]
        clear d2
        refine .inl ⟨rfl, ?_⟩
        unfold Reg.upon
        have hc : Crg Lq wq := hh.cls
        rw [HrghC.out] at hc
        go_simp
        refine (made_ok _ _ _ wq (HA.out wq hc) (by rw [HL1.out]; omega) (by rw [HL1.out]; omega) HCUT.out.1).mono ?_
        intro e w4 hm
        have hb0 := HB3.out.trans (hc.mono HB3.out.size)
        have hm2 := hm.up (Y := fun b => w.heap.size ≤ b) hb0 (fun b h => Nat.le_trans hb0.size h) (fun b h => Nat.le_trans hb0.size h)
        obtain ⟨_, _, _, _, hb4⟩ := hm
        obtain ⟨g9, gc9, rfl, h9, _⟩ := hm2
        refine ⟨_, rfl, Hrgk.out 3 Lq w4 (Hrgb.out Lq wq w4 hh.cls hb4), ?_, Hrgxb.out wq w4 hb4⟩
        rw [Hrge3.out]
        exact ⟨g9, gc9, rfl, h9⟩
      · intro Lq wq xq hh
        simp only [hFrg]
        refine .inl ⟨rfl, ?_⟩
        unfold Reg.upon
        have hk := Hrgk.out 4 Lq wq  hh.cls
        have hx := Hrgx.out wq
        have he : Erg 4 (.slice (some ⟨gq, 0, none⟩) L.length cap) wq := by rw [Hrge4.out]
        have HK := Lib.hid (And.intro hk (And.intro he hx))
        clear hk hx he
        go_simp
        exact HK.out
      · intro Lq wq xq hh
        simp only [hFrg]
        refine .inl ⟨rfl, ?_⟩
        unfold Reg.upon
        have hk := Hrgk.out 5 Lq wq  hh.cls
        have hx := Hrgx.out wq
        have he : Erg 5 (.int .i64 c) wq := by rw [Hrge5.out]
        have HK := Lib.hid (And.intro hk (And.intro he hx))
        clear hk hx he
        go_simp
        exact HK.out
      · intro Lq wq xq hh
        have d4 : Erg 4 (xq 4) wq := hh.val 4 (by kernel_rfl) (by kernel_rfl)
        rw [Hrge4.out] at d4
        have d5 : Erg 5 (xq 5) wq := hh.val 5 (by kernel_rfl) (by kernel_rfl)
        rw [Hrge5.out] at d5
        simp only [hFrg, d4, d5]
        clear d4 d5
        refine .inl ⟨rfl, ?_⟩
        unfold Reg.upon
        have hk := Hrgk.out 6 Lq wq  hh.cls
        have hx := Hrgx.out wq
        have he : Erg 6 (.slice (some ⟨gq, c * 2, none⟩) (L.length - c) (cap - c)) wq := by rw [Hrge6.out]
        have HK := Lib.hid (And.intro hk (And.intro he hx))
        clear hk hx he
        go_simp
        exact HK.out
      · intro Lq wq xq hh
        have d6 : Erg 6 (xq 6) wq := hh.val 6 (by kernel_rfl) (by kernel_rfl)
        rw [Hrge6.out] at d6
        simp only [hFrg, d6]
        clear d6
        refine .inl ⟨rfl, ?_⟩
        unfold Reg.upon
        have hc : Crg Lq wq := hh.cls
        rw [HrghC.out] at hc
        go_simp
        refine (made_ok _ _ _ wq (HC.out wq hc) (by rw [HL2.out]; omega) (by rw [HL2.out]; omega) HCUT.out.2).mono ?_
        intro e w4 hm
        have hb0 := HB3.out.trans (hc.mono HB3.out.size)
        have hm2 := hm.up (Y := fun b => w.heap.size ≤ b) hb0 (fun b h => Nat.le_trans hb0.size h) (fun b h => Nat.le_trans hb0.size h)
        obtain ⟨_, _, _, _, hb4⟩ := hm
        obtain ⟨g9, gc9, rfl, h9, _⟩ := hm2
        refine ⟨_, rfl, Hrgk.out 7 Lq w4 (Hrgb.out Lq wq w4 hh.cls hb4), ?_, Hrgxb.out wq w4 hb4⟩
        rw [Hrge7.out]
        exact ⟨g9, gc9, rfl, h9⟩
      · intro Lq wq xq hh
        have d3 : Erg 3 (xq 3) wq := hh.val 3 (by kernel_rfl) (by kernel_rfl)
        rw [Hrge3.out] at d3
        simp only [hFrg]
        refine .inl ⟨rfl, ?_⟩
        unfold Reg.upon
        go_simp
        exact ⟨Hrgk.out 8 Lq wq hh.cls, (by rw [Hrge8.out]; exact d3), Hrgx.out _⟩
      · intro Lq wq xq hh
        have d7 : Erg 7 (xq 7) wq := hh.val 7 (by kernel_rfl) (by kernel_rfl)
        rw [Hrge7.out] at d7
        simp only [hFrg]
        refine .inl ⟨rfl, ?_⟩
        unfold Reg.upon
        go_simp
        exact ⟨Hrgk.out 9 Lq wq hh.cls, (by rw [Hrge9.out]; exact d7), Hrgx.out _⟩
    intro xq wrg hcrg hvrg
    rw [HrghC.out] at hcrg
    simp only [hFrg]
    have vrg8 : Erg 8 (xq 8) wrg := hvrg 8 (by decide)
    rw [Hrge8.out] at vrg8
    have vrg9 : Erg 9 (xq 9) wrg := hvrg 9 (by decide)
    rw [Hrge9.out] at vrg9
    clear hvrg hFrg Hrgk Hrgx Hrgst Hrgc HrghC HrghX Hrgb Hrgxb Hrge0 Hrge1 Hrge2 Hrge3 Hrge4 Hrge5 Hrge6 Hrge7 Hrge8 Hrge9
    obtain ⟨g1, gc1, e1, h1⟩ := vrg8
    obtain ⟨g2, gc2, e2, h2⟩ := vrg9
    rw [e1, e2]
    have HF := Lib.hid (And.intro h1 (And.intro h2 (HB3.out.trans (hcrg.mono HB3.out.size))))
    clear h1 h2 e1 e2 hcrg
    go_wp2
    go_ret2
    exact ⟨g1, gc1, g2, gc2, rfl, (by rw [← HT.out]; exact HF.out.1), (by rw [← HT.out]; exact HF.out.2.1), HF.out.2.2⟩
/-- Rows at pointers; none: a nil one. -/
def rowRep (Z : Zone) (w : World) (C : List Value) (x : Option (List Cl)) : Prop :=
  match x with
  | none => C = [.pointer none]
  | some L => ∃ g gc B wrap, C = [.pointer (some ⟨g, 0, none⟩)] ∧ RowAt Z w B g gc L wrap ∧ Z g ∧ Z gc
def rowE : Elem (Option (List Cl)) where
  size := 1
  zero := none
  rep := rowRep
  len := by
    intro Z w C x h
    cases x with
    | none => rw [show C = [.pointer none] from h]; rfl
    | some L => obtain ⟨g, gc, B, wrap, rfl, _⟩ := h; rfl
  one := by
    intro Z w C x h u hu
    cases x with
    | none => rw [show C = [.pointer none] from h] at hu; simp at hu; subst hu; rfl
    | some L => obtain ⟨g, gc, B, wrap, rfl, _⟩ := h; simp at hu; subst hu; rfl
  keep := by
    intro Z Y w w' C x hk hy h
    cases x with
    | none => exact h
    | some L =>
      obtain ⟨g, gc, B, wrap, rfl, hr, hg, hgc⟩ := h
      have hl := hr.lt
      exact ⟨g, gc, B, wrap, rfl, hr.keep (hk.mono fun b _ hb => by rcases hb with hb | rfl | rfl; exact hb; exact hg; exact hgc) hy, hy _ hl.1 hg, hy _ hl.2.1 hgc⟩
theorem rows_at {Z : Zone} {w : World} {ao : Option Addr} {n cap : Nat} {L : List (Option (List Cl))} (h : HeldE rowE Z w (.slice ao n cap) L) : n = L.length ∧ n ≤ cap ∧ ∀ i, i < L.length → ∃ b off u, ao = some ⟨b, off, none⟩ ∧ b < w.heap.size ∧ w.cell? ⟨b, off + i, none⟩ = some u ∧ rowRep Z w [u] (L.getD i none) := by
  obtain ⟨h1, h2, h3⟩ := h.spots
  refine ⟨h1, h2, fun i hi => ?_⟩
  obtain ⟨b, off, rfl, hb, hz, C, hC, hr⟩ := h3 i hi
  have hl : C.length = 1 := rowE.len hr
  obtain ⟨u, rfl⟩ : ∃ u, C = [u] := by
    match C, hl with
    | [u], _ => exact ⟨u, rfl⟩
  have hc := hC 0 (by decide)
  rw [show off + i * rowE.size + 0 = off + i from by show off + i * 1 + 0 = _; omega] at hc
  exact ⟨b, off, u, rfl, hb, hc, hr⟩
def catL (Ls : List (Option (List Cl))) (k : Nat) : List Cl := flatG (Ls.map fun x => x.getD []) k
theorem cat_succ (Ls : List (Option (List Cl))) (k : Nat) (h : k < Ls.length) : catL Ls (k + 1) = catL Ls k ++ (Ls.getD k none).getD [] := by
  unfold catL
  rw [flatG_succ _ k (by rw [List.length_map]; exact h)]
  simp [List.getD, List.getElem?_eq_getElem h]
theorem cat_le (Ls : List (Option (List Cl))) (k : Nat) (h : k ≤ Ls.length) : (catL Ls k).length ≤ (catL Ls Ls.length).length := by
  have := flatG_le (Ls.map fun x => x.getD []) k (by rw [List.length_map]; exact h)
  rw [List.length_map] at this
  exact this
def JoinGood (Ls : List (Option (List Cl))) : Prop := (∀ j, j < Ls.length → Ls.getD j none ≠ none) ∧ 0 < (catL Ls Ls.length).length ∧ (catL Ls Ls.length).length ≤ 1024
def Joined (w : World) (Ls : List (Option (List Cl))) (e : Ending) (w' : World) : Prop := (JoinGood Ls → RowMade (fun b => w.heap.size ≤ b) w (catL Ls Ls.length) false e w') ∧ (¬ JoinGood Ls → e = .returned (.pointer none) ∧ Below w.heap.size w w')
set_option maxRecDepth 100000 in
set_option maxHeartbeats 2000000 in
theorem fjoin_any (Z : Zone) (v : Value) (Ls : List (Option (List Cl))) (w : World) (hre : RangeErr w) (hv : HeldE rowE Z w v Ls) : Calls Tryd.prog 51 #[v] w (Joined w Ls) := by
  have hvm := hv.max
  obtain ⟨ao, ca, rfl⟩ := hv.len
  obtain ⟨_, _, hrows⟩ := rows_at hv
  have HC := Lib.hid hrows
  have HRE := Lib.hid hre
  clear hv hrows hre
  go_enter Tryd.func51, Tryd.ntmps51
  go_wp2
  go_loopw [3, 8] (fun cv i wr => ∃ k : Nat, k ≤ Ls.length ∧ i = .int .i64 k ∧ OwnE cellE (fun b => w.heap.size ≤ b) wr w.heap.size 27 cv (catL Ls k) ∧ (catL Ls k).length ≤ 1024 ∧ soundB (catL Ls k) = true ∧ Go.RowKit.Hid (∀ j, j < k → Ls.getD j none ≠ none) ∧ Below w.heap.size w wr) (fun _ i _ => Ls.length - (intOf i).toNat)
  case atStart => exact ⟨0, Nat.zero_le _, rfl, OwnE.nil _ _ _ _ _, by simp [catL, flatG], rfl, Lib.hid (fun j hj => absurd hj (Nat.not_lt_zero _)), Below.refl _ _⟩
  case round =>
    obtain ⟨k, hk, rfl, hown, hcl, hcs, HALL, hbw⟩ := hrel
    have HOW := Lib.hid hown
    have HBW := Lib.hid hbw
    have HCS := Lib.hid hcs
    obtain ⟨co, cc, hcv⟩ := (hown.held (Z := fun b => w.heap.size ≤ b) (fun _ h _ => h)).len
    subst hcv
    clear hown hbw hcs
    by_cases hlt : k < Ls.length
    · obtain ⟨b, off, u, rfl, hb, c0, hr⟩ := HC.out k hlt
      have c0 := (HBW.out.cell (p := ⟨b, off + k, none⟩) hb).trans c0
      have HSUC := Lib.hid (cat_succ Ls k hlt)
      have HLE := Lib.hid (cat_le Ls (k + 1) (by omega))
      cases hx : Ls.getD k none with
      | none =>
        rw [hx] at hr
        have hu : u = .pointer none := by have : [u] = [Value.pointer none] := hr; simpa using this
        subst hu
        have HBAD := Lib.hid (show ¬ JoinGood Ls from fun h => h.1 k hlt hx)
        clear hx hr
        go_wp2
        go_ret
        exact ⟨fun h => absurd h HBAD.out, fun _ => ⟨rfl, HBW.out⟩⟩
      | some L =>
        rw [hx] at hr HSUC
        obtain ⟨g, gc, B, wrap, hu, hrow, _, _⟩ := hr
        have hu : u = .pointer (some ⟨g, 0, none⟩) := by simpa using hu
        subst hu
        have HROW := Lib.hid (hrow.below HBW.out)
        have HALL2 := Lib.hid (show ∀ j, j < k + 1 → Ls.getD j none ≠ none from fun j hj => by
          rcases Nat.lt_or_ge j k with h | h
          · exact HALL.out j h
          · rw [show j = k by omega, hx]
            simp)
        have hLl := hrow.len
        obtain ⟨hL0, hL1, hLs⟩ := hLl
        have HLS := Lib.hid hLs
        simp only [Option.getD_some] at HSUC
        obtain ⟨P0, hP0⟩ : ∃ P0, P0 = catL Ls k := ⟨_, rfl⟩
        rw [← hP0] at HSUC HOW HCS hcl ⊢
        have HSL := Lib.hid (show (catL Ls (k + 1)).length = P0.length + L.length by rw [HSUC.out, List.length_append])
        have HW := Lib.hid (rwide_any _ B g gc L wrap wr HROW.out)
        clear hx hrow hLs hP0
        by_cases hbig : 1024 < P0.length + L.length
        · have hd : decide ((1024 : Int) < (P0.length : Int) + L.length) = true := by simp; omega
          have hw : IntKind.i64.wrap ((P0.length : Int) + L.length) = (P0.length : Int) + L.length := by rw [IntKind.wrap_i64]; omega
          have HBAD := Lib.hid (show ¬ JoinGood Ls from fun h => by have := h.2.2; have := HLE.out; have := HSL.out; omega)
          clear hbig
          go_wp2_with fail
          refine HW.out.mono ?_
          rintro e w1 ⟨rfl, rfl⟩
          go_wp2
          go_ret
          exact ⟨fun h => absurd h HBAD.out, fun _ => ⟨rfl, HBW.out⟩⟩
        · have hd : decide ((1024 : Int) < (P0.length : Int) + L.length) = false := by simp; omega
          have hdn : decide (1024 < P0.length + L.length) = false := by simp; omega
          have hw : IntKind.i64.wrap ((P0.length : Int) + L.length) = (P0.length : Int) + L.length := by rw [IntKind.wrap_i64]; omega
          go_wp2_with fail
          refine HW.out.mono ?_
          rintro e w1 ⟨rfl, rfl⟩
          go_wp2_with fail
          clear hd hdn hw
          refine (rcells_any _ B g gc L wrap wr HROW.out).mono ?_
          rintro e w2 ⟨v2, rfl, ho2, b2⟩
          have hlo := HOW.out.lt
          have HU := Lib.hid (show HeldE cellE (fun x => w.heap.size ≤ x ∧ (Value.slice co P0.length cc).ownBlock ≠ some x) w2 v2 L from (ho2.held (Z := fun x => wr.heap.size ≤ x) (fun x h _ => h)).zone (fun x _ h => ⟨Nat.le_trans HBW.out.size h, fun e => by have := (hlo x e).2; omega⟩))
          have HOX := Lib.hid (HOW.out.below b2)
          replace HBW := Lib.hid (HBW.out.trans (b2.mono HBW.out.size))
          clear b2
          obtain ⟨uo, uc, rfl⟩ := HU.out.len
          clear ho2 hlo c0
          go_wp2_with (at_builtin; refine wpList_append_e (E := cellE) (Z := fun x => w.heap.size ≤ x) rfl (.tmp 22) (.tmp 24) 22 rfl (.agg #[.int .i64 0, .slice none 0 0]) 32 Tryd.underlying22 info_cell rfl (by decide) rfl rfl HOX.out HU.out (by omega) (by omega) HBW.out.size ?_)
          intro v3 w3 ho3 b3 _ _
          rw [← HSUC.out] at ho3
          have H3 := Lib.hid ho3
          have HB3 := Lib.hid (HBW.out.trans b3)
          have HS3 := Lib.hid (show soundB (catL Ls (k + 1)) = true by rw [HSUC.out]; exact sound_app HCS.out HLS.out)
          clear ho3 b3
          go_wp2
          go_roundw
          case rel => exact ⟨k + 1, by omega, by go_num, H3.out, by rw [HSL.out]; omega, HS3.out, HALL2, HB3.out⟩
          case measure => simp [intOf] <;> omega
    · obtain rfl : k = Ls.length := by omega
      have HH := Lib.hid (HOW.out.held (Z := fun b => w.heap.size ≤ b) (fun _ h _ => h))
      by_cases h0 : (catL Ls Ls.length).length = 0
      · have HM := Lib.hid (made_bad _ _ _ _ (HRE.out.below HBW.out) HH.out (.inl h0))
        have HBAD := Lib.hid (show ¬ JoinGood Ls from fun h => by have := h.2.1; omega)
        clear h0
        go_wp2_with fail
        refine HM.out.mono ?_
        rintro e w1 ⟨rfl, b1⟩
        replace HBW := Lib.hid (HBW.out.trans (b1.mono HBW.out.size))
        clear b1
        go_wp2
        go_ret
        exact ⟨fun h => absurd h HBAD.out, fun _ => ⟨rfl, HBW.out⟩⟩
      · have HM := Lib.hid (made_ok _ _ _ _ HH.out (by omega) hcl HCS.out)
        have HGOOD := Lib.hid (show JoinGood Ls from ⟨HALL.out, by omega, hcl⟩)
        clear h0
        go_wp2_with fail
        refine HM.out.mono ?_
        intro e w4 hm
        have hm := hm.up (Y := fun b => w.heap.size ≤ b) HBW.out (fun b h => Nat.le_trans HBW.out.size h) (fun b h => Nat.le_trans HBW.out.size h)
        obtain ⟨g5, gc5, rfl, hr5, b5⟩ := hm
        have HF := Lib.hid (And.intro hr5 b5)
        clear hr5 b5
        go_wp2
        go_ret
        exact ⟨fun _ => ⟨g5, gc5, rfl, HF.out.1, HF.out.2⟩, fun h => absurd HGOOD.out h⟩
end Go.Proofs.YtomfclkldmmmgaaDoor
