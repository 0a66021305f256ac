/- The law's at (25). -/
import Derived.Test.YtomfclkldmmmgaaDoorMarkS
import Derived.Test.YtomfclkldmmmgaaDoorMarkD
import Derived.Test.YtomfclkldmmmgaaDoorReg
import Derived.Test.YtomfclkldmmmgaaDoorCellT
namespace Go.Proofs.YtomfclkldmmmgaaDoor
open Go.RowKit Go.ChangeShapes Go.WideShapes
set_option maxRecDepth 100000 in
set_option maxHeartbeats 3000000 in
theorem lawat_any (Z : Zone) (v : Value) (B g gc : Nat) (L : List Cl) (wrap : Bool) (col : Int) (w : World) (h : RowAt (fun _ => True) w B g gc L wrap) (hv : HeldE cellE Z w v L) : Calls Tryd.prog 34 #[.pointer (some ⟨g, 0, none⟩), v, .int .i64 col] w (Gives w (.bool true)) := by
  have hs := h.len.2.2
  obtain ⟨ao, ca, rfl⟩ := hv.len
  obtain ⟨_, _, hcells⟩ := cells_at hv
  have HC := Lib.hid hcells
  have HA := Lib.hid (fun w' (b : Below w.heap.size w w') => rat_any Z _ L col w' (hv.below b))
  have HB := Lib.hid (Below.refl w.heap.size w)
  by_cases hc0 : clAt L col < 0
  · have HM := Lib.hid (mat_none B g gc L wrap col w h hc0)
    have hd : decide (clAt L col < 0) = true := by simp; omega
    clear h hv hs hcells
    go_enter Tryd.func34, Tryd.ntmps34
    go_wp2_with fail
    refine HM.out.mono ?_
    rintro e w1 ⟨rfl, b1⟩
    have b2 := b1.alloc b1.size (.cells #[.int .i64 0, .slice none 0 0] 113)
    have HA2 := Lib.hid (HA.out _ b2)
    have HB2 := Lib.hid b2
    clear b1 b2
    go_wp2_with fail
    refine HA2.out.mono ?_
    rintro e w2 ⟨rfl, rfl⟩
    go_wp2
    go_ret
    exact ⟨(ret_eq (by first | rfl | (simp <;> omega))), HB2.out⟩
  obtain ⟨k, hck, hk, hcase, ht0, ht1, htv⟩ := cl_some hs (show 0 ≤ clAt L col by omega)
  have HM := Lib.hid (mat_some B g gc L wrap col w h k hk hcase)
  rw [hck] at HA
  obtain ⟨b, off, tv, rfl, hb, _, c0, c1, hh⟩ := HC.out k hk
  obtain ⟨⟨K, T⟩, hKT⟩ : ∃ y, y = L.getD k zc := ⟨_, rfl⟩
  rw [← hKT] at c0 hh HM ht1
  simp only at c0 hh ht1
  have HHT := Lib.hid hh
  obtain ⟨tta, tcc, rfl⟩ := hh.len
  have hdk : decide ((k : Int) < 0) = false := by simp
  have HC0 := Lib.hid c0
  have HC1 := Lib.hid c1
  have hkk : ((k : Int) == (k : Int)) = true := by simp
  have hKK : (K == K) = true := by simp
  clear h hv hs hcells hcase hck hc0 hKT hh c0 c1 ht0 htv
  go_enter Tryd.func34, Tryd.ntmps34
  go_wp2_with fail
  refine HM.out.mono ?_
  rintro e w1 ⟨tv1, rfl, ho1, b1⟩
  have hh1 := ho1.heldInts
  obtain ⟨t1, cc1, rfl⟩ := hh1.len
  obtain ⟨W, hW⟩ : ∃ W, W = w1.alloc (.cells #[.int .i64 K, .slice t1 T.length cc1] 113) := ⟨_, rfl⟩
  have bW : Below w1.heap.size w1 W := by rw [hW]; exact (Below.refl _ _).alloc (Nat.le_refl _) _
  have HIT := Lib.hid (show Has W w1.heap.size [.int .i64 K, .slice t1 T.length cc1] 113 from by rw [hW]; exact Has.new w1 _ _)
  have HBW := Lib.hid (b1.trans (bW.mono b1.size))
  have HTW := Lib.hid (hh1.below bW)
  have HA2 := Lib.hid (HA.out W HBW.out)
  subst hW
  clear ho1 b1 hh1 bW
  go_wp2_with fail
  refine HA2.out.mono ?_
  rintro e w2 ⟨rfl, rfl⟩
  go_upto_region 5 with (fail)
  obtain ⟨W, hW⟩ : ∃ W, W = w1.alloc (.cells #[.int .i64 K, .slice t1 T.length cc1] 113) := ⟨_, rfl⟩
  rw [← hW] at HIT HBW HTW ⊢
  clear hW HA2 HA HM
  obtain ⟨Erg, hErg⟩ : ∃ EE : Nat → Value → World → Prop, EE = fun jj xx ww => match jj with
      | 0 => xx = .int .i64 k
      | 1 => xx = .int .i64 k
      | 2 => xx = .bool true
      | 3 => xx = .bool true
      | 4 => xx = .bool true
      | 5 => xx = .bool true
      | 6 => xx = .bool true
      | 7 => xx = .pointer (some ⟨w1.heap.size, 0, none⟩)
      | 8 => xx = .int .i64 K
      | 9 => xx = .slice (some ⟨b, off, none⟩) L.length ca
      | 10 => xx = .int .i64 k
      | 11 => xx = .pointer (some ⟨b, off + k * 2, none⟩)
      | 12 => xx = .pointer (some ⟨b, off + k * 2, none⟩)
      | 13 => xx = .int .i64 K
      | 14 => xx = .bool true
      | 15 => xx = .bool true
      | 16 => xx = .bool true
      | 17 => xx = .pointer (some ⟨w1.heap.size, 1, none⟩)
      | 18 => xx = .slice t1 T.length cc1
      | 19 => xx = .slice (some ⟨b, off, none⟩) L.length ca
      | 20 => xx = .int .i64 k
      | 21 => xx = .pointer (some ⟨b, off + k * 2, none⟩)
      | 22 => xx = .pointer (some ⟨b, off + k * 2 + 1, none⟩)
      | 23 => xx = .slice tta T.length tcc
      | 24 => xx = .bool true
      | 25 => xx = .bool true
      | 26 => xx = .bool true
      | _ => True := ⟨_, rfl⟩
  have erg0 : ∀ xx ww, Erg 0 xx ww = (xx = .int .i64 k) := fun xx ww => congrFun (congrFun (congrFun hErg 0) xx) ww
  have erg1 : ∀ xx ww, Erg 1 xx ww = (xx = .int .i64 k) := fun xx ww => congrFun (congrFun (congrFun hErg 1) xx) ww
  have erg2 : ∀ xx ww, Erg 2 xx ww = (xx = .bool true) := fun xx ww => congrFun (congrFun (congrFun hErg 2) xx) ww
  have erg3 : ∀ xx ww, Erg 3 xx ww = (xx = .bool true) := fun xx ww => congrFun (congrFun (congrFun hErg 3) xx) ww
  have erg4 : ∀ xx ww, Erg 4 xx ww = (xx = .bool true) := fun xx ww => congrFun (congrFun (congrFun hErg 4) xx) ww
  have erg5 : ∀ xx ww, Erg 5 xx ww = (xx = .bool true) := fun xx ww => congrFun (congrFun (congrFun hErg 5) xx) ww
  have erg6 : ∀ xx ww, Erg 6 xx ww = (xx = .bool true) := fun xx ww => congrFun (congrFun (congrFun hErg 6) xx) ww
  have erg7 : ∀ xx ww, Erg 7 xx ww = (xx = .pointer (some ⟨w1.heap.size, 0, none⟩)) := fun xx ww => congrFun (congrFun (congrFun hErg 7) xx) ww
  have erg8 : ∀ xx ww, Erg 8 xx ww = (xx = .int .i64 K) := fun xx ww => congrFun (congrFun (congrFun hErg 8) xx) ww
  have erg9 : ∀ xx ww, Erg 9 xx ww = (xx = .slice (some ⟨b, off, none⟩) L.length ca) := fun xx ww => congrFun (congrFun (congrFun hErg 9) xx) ww
  have erg10 : ∀ xx ww, Erg 10 xx ww = (xx = .int .i64 k) := fun xx ww => congrFun (congrFun (congrFun hErg 10) xx) ww
  have erg11 : ∀ xx ww, Erg 11 xx ww = (xx = .pointer (some ⟨b, off + k * 2, none⟩)) := fun xx ww => congrFun (congrFun (congrFun hErg 11) xx) ww
  have erg12 : ∀ xx ww, Erg 12 xx ww = (xx = .pointer (some ⟨b, off + k * 2, none⟩)) := fun xx ww => congrFun (congrFun (congrFun hErg 12) xx) ww
  have erg13 : ∀ xx ww, Erg 13 xx ww = (xx = .int .i64 K) := fun xx ww => congrFun (congrFun (congrFun hErg 13) xx) ww
  have erg14 : ∀ xx ww, Erg 14 xx ww = (xx = .bool true) := fun xx ww => congrFun (congrFun (congrFun hErg 14) xx) ww
  have erg15 : ∀ xx ww, Erg 15 xx ww = (xx = .bool true) := fun xx ww => congrFun (congrFun (congrFun hErg 15) xx) ww
  have erg16 : ∀ xx ww, Erg 16 xx ww = (xx = .bool true) := fun xx ww => congrFun (congrFun (congrFun hErg 16) xx) ww
  have erg17 : ∀ xx ww, Erg 17 xx ww = (xx = .pointer (some ⟨w1.heap.size, 1, none⟩)) := fun xx ww => congrFun (congrFun (congrFun hErg 17) xx) ww
  have erg18 : ∀ xx ww, Erg 18 xx ww = (xx = .slice t1 T.length cc1) := fun xx ww => congrFun (congrFun (congrFun hErg 18) xx) ww
  have erg19 : ∀ xx ww, Erg 19 xx ww = (xx = .slice (some ⟨b, off, none⟩) L.length ca) := fun xx ww => congrFun (congrFun (congrFun hErg 19) xx) ww
  have erg20 : ∀ xx ww, Erg 20 xx ww = (xx = .int .i64 k) := fun xx ww => congrFun (congrFun (congrFun hErg 20) xx) ww
  have erg21 : ∀ xx ww, Erg 21 xx ww = (xx = .pointer (some ⟨b, off + k * 2, none⟩)) := fun xx ww => congrFun (congrFun (congrFun hErg 21) xx) ww
  have erg22 : ∀ xx ww, Erg 22 xx ww = (xx = .pointer (some ⟨b, off + k * 2 + 1, none⟩)) := fun xx ww => congrFun (congrFun (congrFun hErg 22) xx) ww
  have erg23 : ∀ xx ww, Erg 23 xx ww = (xx = .slice tta T.length tcc) := fun xx ww => congrFun (congrFun (congrFun hErg 23) xx) ww
  have erg24 : ∀ xx ww, Erg 24 xx ww = (xx = .bool true) := fun xx ww => congrFun (congrFun (congrFun hErg 24) xx) ww
  have erg25 : ∀ xx ww, Erg 25 xx ww = (xx = .bool true) := fun xx ww => congrFun (congrFun (congrFun hErg 25) xx) ww
  have erg26 : ∀ xx ww, Erg 26 xx ww = (xx = .bool true) := fun xx ww => congrFun (congrFun (congrFun hErg 26) xx) ww
  obtain ⟨Crg, hCrg⟩ : ∃ CC : Array Bool → World → Prop, CC = fun L8 w' => Below W.heap.size W w' := ⟨_, rfl⟩
  have krg : ∀ i L w,  Crg L w → Crg (L.setIfInBounds i true) w := by
    intro i L w  h
    rw [hCrg] at h ⊢
    exact h
  obtain ⟨Xrg, hXrg⟩ : ∃ XX : World → World → Prop, XX = fun y z => Below y.heap.size y z := ⟨_, rfl⟩
  have xrg : ∀ w, Xrg w w := fun w => by rw [hXrg]; exact Below.refl _ _
  have strg : ∀ j x w w1, Xrg w w1 → Erg j x w → Erg j x w1 := by
    intro j x w w1 hx h
    rw [hXrg] at hx
    match j with
    | 0 => rw [erg0] at h ⊢; exact h
    | 1 => rw [erg1] at h ⊢; exact h
    | 2 => rw [erg2] at h ⊢; exact h
    | 3 => rw [erg3] at h ⊢; exact h
    | 4 => rw [erg4] at h ⊢; exact h
    | 5 => rw [erg5] at h ⊢; exact h
    | 6 => rw [erg6] at h ⊢; exact h
    | 7 => rw [erg7] at h ⊢; exact h
    | 8 => rw [erg8] at h ⊢; exact h
    | 9 => rw [erg9] at h ⊢; exact h
    | 10 => rw [erg10] at h ⊢; exact h
    | 11 => rw [erg11] at h ⊢; exact h
    | 12 => rw [erg12] at h ⊢; exact h
    | 13 => rw [erg13] at h ⊢; exact h
    | 14 => rw [erg14] at h ⊢; exact h
    | 15 => rw [erg15] at h ⊢; exact h
    | 16 => rw [erg16] at h ⊢; exact h
    | 17 => rw [erg17] at h ⊢; exact h
    | 18 => rw [erg18] at h ⊢; exact h
    | 19 => rw [erg19] at h ⊢; exact h
    | 20 => rw [erg20] at h ⊢; exact h
    | 21 => rw [erg21] at h ⊢; exact h
    | 22 => rw [erg22] at h ⊢; exact h
    | 23 => rw [erg23] at h ⊢; exact h
    | 24 => rw [erg24] at h ⊢; exact h
    | 25 => rw [erg25] at h ⊢; exact h
    | 26 => rw [erg26] at h ⊢; exact h
    | j + 27 => rw [hErg]; trivial
  have crg : Crg (Array.replicate 27 false) W.drew := by rw [hCrg]; exact (Below.refl _ _).drew
  have brg : ∀ L w w1, Crg L w → Below w.heap.size w w1 → Crg L w1 := by
    intro L w w1 h hb
    rw [hCrg] at h ⊢
    exact h.trans (hb.mono h.size)
  have xbrg : ∀ w w1, Below w.heap.size w w1 → Xrg w w1 := by
    intro w w1 hb
    rw [hXrg]
    exact hb
  have Hrgb := Lib.hid brg
  have Hrgxb := Lib.hid xbrg
  clear brg xbrg
  clear hErg
  have Hrgk := Lib.hid krg
  have Hrgx := Lib.hid xrg
  have Hrgst := Lib.hid strg
  have Hrgc := Lib.hid crg
  have HrghC := Lib.hid hCrg
  have HrghX := Lib.hid hXrg
  have Hrge0 := Lib.hid erg0
  have Hrge1 := Lib.hid erg1
  have Hrge2 := Lib.hid erg2
  have Hrge3 := Lib.hid erg3
  have Hrge4 := Lib.hid erg4
  have Hrge5 := Lib.hid erg5
  have Hrge6 := Lib.hid erg6
  have Hrge7 := Lib.hid erg7
  have Hrge8 := Lib.hid erg8
  have Hrge9 := Lib.hid erg9
  have Hrge10 := Lib.hid erg10
  have Hrge11 := Lib.hid erg11
  have Hrge12 := Lib.hid erg12
  have Hrge13 := Lib.hid erg13
  have Hrge14 := Lib.hid erg14
  have Hrge15 := Lib.hid erg15
  have Hrge16 := Lib.hid erg16
  have Hrge17 := Lib.hid erg17
  have Hrge18 := Lib.hid erg18
  have Hrge19 := Lib.hid erg19
  have Hrge20 := Lib.hid erg20
  have Hrge21 := Lib.hid erg21
  have Hrge22 := Lib.hid erg22
  have Hrge23 := Lib.hid erg23
  have Hrge24 := Lib.hid erg24
  have Hrge25 := Lib.hid erg25
  have Hrge26 := Lib.hid erg26
  clear krg xrg strg crg hCrg hXrg erg0 erg1 erg2 erg3 erg4 erg5 erg6 erg7 erg8 erg9 erg10 erg11 erg12 erg13 erg14 erg15 erg16 erg17 erg18 erg19 erg20 erg21 erg22 erg23 erg24 erg25 erg26
  go_wp2_with fail
  refine Reg.regionF Erg Crg Xrg Hrgst.out (by kernel_rfl) (by kernel_rfl) (by kernel_rfl) Hrgc.out (fun Frg hFrg => ?_)
  simp only [Reg.frame, Reg.dsts, List.map_cons, List.map_nil, Mix.put_lit, List.set_cons_succ, List.set_cons_zero, Nat.zero_add, Nat.reduceAdd] at hFrg
  refine ⟨?_, ?_⟩
  · refine ⟨?_, ?_, ?_, ?_, ?_, ?_, ?_, ?_, ?_, ?_, ?_, ?_, ?_, ?_, ?_, ?_, ?_, ?_, ?_, ?_, ?_, ?_, ?_, ?_, ?_, ?_, ?_, trivial⟩
    · intro Lq wq xq hh
      simp only [hFrg]
      refine .inl ⟨rfl, ?_⟩
      unfold Reg.upon
      have hk := Hrgk.out 0 Lq wq  hh.cls
      have hx := Hrgx.out wq
      have he : Erg 0 (.int .i64 k) wq := by rw [Hrge0.out]
      have HK := Lib.hid (And.intro hk (And.intro he hx))
      clear hk hx he
      go_simp
      exact HK.out
    · intro Lq wq xq hh
      simp only [hFrg]
      refine .inl ⟨rfl, ?_⟩
      unfold Reg.upon
      have hk := Hrgk.out 1 Lq wq  hh.cls
      have hx := Hrgx.out wq
      have he : Erg 1 (.int .i64 k) wq := by rw [Hrge1.out]
      have HK := Lib.hid (And.intro hk (And.intro he hx))
      clear hk hx he
      go_simp
      exact HK.out
    · intro Lq wq xq hh
      have d0 : Erg 0 (xq 0) wq := hh.val 0 (by kernel_rfl) (by kernel_rfl)
      rw [Hrge0.out] at d0
      have d1 : Erg 1 (xq 1) wq := hh.val 1 (by kernel_rfl) (by kernel_rfl)
      rw [Hrge1.out] at d1
      simp only [hFrg, d0, d1]
      clear d0 d1
      refine .inl ⟨rfl, ?_⟩
      unfold Reg.upon
      have hk := Hrgk.out 2 Lq wq  hh.cls
      have hx := Hrgx.out wq
      have he : Erg 2 (.bool true) wq := by rw [Hrge2.out]
      have HK := Lib.hid (And.intro hk (And.intro he hx))
      clear hk hx he
      go_simp
      exact HK.out
    · intro Lq wq xq hh
      have d2 : Erg 2 (xq 2) wq := hh.val 2 (by kernel_rfl) (by kernel_rfl)
      rw [Hrge2.out] at d2
      simp only [hFrg, d2]
      clear d2
      refine .inl ⟨rfl, ?_⟩
      unfold Reg.upon
      have hk := Hrgk.out 3 Lq wq  hh.cls
      have hx := Hrgx.out wq
      have he : Erg 3 (.bool true) wq := by rw [Hrge3.out]
      have HK := Lib.hid (And.intro hk (And.intro he hx))
      clear hk hx he
      go_simp
      exact HK.out
    · intro Lq wq xq hh
      have d3 : Erg 3 (xq 3) wq := hh.val 3 (by kernel_rfl) (by kernel_rfl)
      rw [Hrge3.out] at d3
      simp only [hFrg, d3]
      clear d3
      refine .inl ⟨rfl, ?_⟩
      unfold Reg.upon
      have hk := Hrgk.out 4 Lq wq  hh.cls
      have hx := Hrgx.out wq
      have he : Erg 4 (.bool true) wq := by rw [Hrge4.out]
      have HK := Lib.hid (And.intro hk (And.intro he hx))
      clear hk hx he
      go_simp
      exact HK.out
    · intro Lq wq xq hh
      have d3 : Erg 3 (xq 3) wq := hh.val 3 (by kernel_rfl) (by kernel_rfl)
      rw [Hrge3.out] at d3
      have d4 : Erg 4 (xq 4) wq := hh.val 4 (by kernel_rfl) (by kernel_rfl)
      rw [Hrge4.out] at d4
      simp only [hFrg, d3, d4]
      clear d3 d4
      refine .inl ⟨rfl, ?_⟩
      unfold Reg.upon
      have hk := Hrgk.out 5 Lq wq  hh.cls
      have hx := Hrgx.out wq
      have he : Erg 5 (.bool true) wq := by rw [Hrge5.out]
      have HK := Lib.hid (And.intro hk (And.intro he hx))
      clear hk hx he
      go_simp
      exact HK.out
    · intro Lq wq xq hh
      have d5 : Erg 5 (xq 5) wq := hh.val 5 (by kernel_rfl) (by kernel_rfl)
      rw [Hrge5.out] at d5
      simp only [hFrg, d5]
      clear d5
      refine .inl ⟨rfl, ?_⟩
      unfold Reg.upon
      have hk := Hrgk.out 6 Lq wq  hh.cls
      have hx := Hrgx.out wq
      have he : Erg 6 (.bool true) wq := by rw [Hrge6.out]
      have HK := Lib.hid (And.intro hk (And.intro he hx))
      clear hk hx he
      go_simp
      exact HK.out
    · intro Lq wq xq hh
      have d6 : Erg 6 (xq 6) wq := hh.val 6 (by kernel_rfl) (by kernel_rfl)
      rw [Hrge6.out] at d6
      simp only [hFrg, d6]
      clear d6
      refine .inl ⟨rfl, ?_⟩
      unfold Reg.upon
      have hk := Hrgk.out 7 Lq wq  hh.cls
      have hx := Hrgx.out wq
      have he : Erg 7 (.pointer (some ⟨w1.heap.size, 0, none⟩)) wq := by rw [Hrge7.out]
      have HK := Lib.hid (And.intro hk (And.intro he hx))
      clear hk hx he
      go_simp
      exact HK.out
    · intro Lq wq xq hh
      have d6 : Erg 6 (xq 6) wq := hh.val 6 (by kernel_rfl) (by kernel_rfl)
      rw [Hrge6.out] at d6
      have d7 : Erg 7 (xq 7) wq := hh.val 7 (by kernel_rfl) (by kernel_rfl)
      rw [Hrge7.out] at d7
      simp only [hFrg, d6, d7]
      clear d6 d7
      refine .inl ⟨rfl, ?_⟩
      unfold Reg.upon
      have hc : Crg Lq wq := hh.cls
      rw [HrghC.out] at hc
      have h8 := (HIT.out.below hc HIT.out.lt).cell 0 _ rfl
      clear hc
      have hk := Hrgk.out 8 Lq wq  hh.cls
      have hx := Hrgx.out wq
      have he : Erg 8 (.int .i64 K) wq := by rw [Hrge8.out]
      have HK := Lib.hid (And.intro hk (And.intro he hx))
      clear hk hx he
      go_simp
      exact HK.out
    · intro Lq wq xq hh
      have d6 : Erg 6 (xq 6) wq := hh.val 6 (by kernel_rfl) (by kernel_rfl)
      rw [Hrge6.out] at d6
      simp only [hFrg, d6]
      clear d6
      refine .inl ⟨rfl, ?_⟩
      unfold Reg.upon
      have hk := Hrgk.out 9 Lq wq  hh.cls
      have hx := Hrgx.out wq
      have he : Erg 9 (.slice (some ⟨b, off, none⟩) L.length ca) wq := by rw [Hrge9.out]
      have HK := Lib.hid (And.intro hk (And.intro he hx))
      clear hk hx he
      go_simp
      exact HK.out
    · intro Lq wq xq hh
      have d6 : Erg 6 (xq 6) wq := hh.val 6 (by kernel_rfl) (by kernel_rfl)
      rw [Hrge6.out] at d6
      simp only [hFrg, d6]
      clear d6
      refine .inl ⟨rfl, ?_⟩
      unfold Reg.upon
      have hk := Hrgk.out 10 Lq wq  hh.cls
      have hx := Hrgx.out wq
      have he : Erg 10 (.int .i64 k) wq := by rw [Hrge10.out]
      have HK := Lib.hid (And.intro hk (And.intro he hx))
      clear hk hx he
      go_simp
      exact HK.out
    · intro Lq wq xq hh
      have d6 : Erg 6 (xq 6) wq := hh.val 6 (by kernel_rfl) (by kernel_rfl)
      rw [Hrge6.out] at d6
      have d9 : Erg 9 (xq 9) wq := hh.val 9 (by kernel_rfl) (by kernel_rfl)
      rw [Hrge9.out] at d9
      have d10 : Erg 10 (xq 10) wq := hh.val 10 (by kernel_rfl) (by kernel_rfl)
      rw [Hrge10.out] at d10
      simp only [hFrg, d6, d9, d10]
      clear d6 d9 d10
      refine .inl ⟨rfl, ?_⟩
      unfold Reg.upon
      have hk := Hrgk.out 11 Lq wq  hh.cls
      have hx := Hrgx.out wq
      have he : Erg 11 (.pointer (some ⟨b, off + k * 2, none⟩)) wq := by rw [Hrge11.out]
      have HK := Lib.hid (And.intro hk (And.intro he hx))
      clear hk hx he
      go_simp
      exact HK.out
    · intro Lq wq xq hh
      have d6 : Erg 6 (xq 6) wq := hh.val 6 (by kernel_rfl) (by kernel_rfl)
      rw [Hrge6.out] at d6
      have d11 : Erg 11 (xq 11) wq := hh.val 11 (by kernel_rfl) (by kernel_rfl)
      rw [Hrge11.out] at d11
      simp only [hFrg, d6, d11]
      clear d6 d11
      refine .inl ⟨rfl, ?_⟩
      unfold Reg.upon
      have hk := Hrgk.out 12 Lq wq  hh.cls
      have hx := Hrgx.out wq
      have he : Erg 12 (.pointer (some ⟨b, off + k * 2, none⟩)) wq := by rw [Hrge12.out]
      have HK := Lib.hid (And.intro hk (And.intro he hx))
      clear hk hx he
      go_simp
      exact HK.out
    · intro Lq wq xq hh
      have d6 : Erg 6 (xq 6) wq := hh.val 6 (by kernel_rfl) (by kernel_rfl)
      rw [Hrge6.out] at d6
      have d12 : Erg 12 (xq 12) wq := hh.val 12 (by kernel_rfl) (by kernel_rfl)
      rw [Hrge12.out] at d12
      simp only [hFrg, d6, d12]
      clear d6 d12
      refine .inl ⟨rfl, ?_⟩
      unfold Reg.upon
      have hc : Crg Lq wq := hh.cls
      rw [HrghC.out] at hc
      have h13 := ((HBW.out.trans (hc.mono HBW.out.size)).cell (p := ⟨b, off + k * 2, none⟩) hb).trans HC0.out
      clear hc
      have hk := Hrgk.out 13 Lq wq  hh.cls
      have hx := Hrgx.out wq
      have he : Erg 13 (.int .i64 K) wq := by rw [Hrge13.out]
      have HK := Lib.hid (And.intro hk (And.intro he hx))
      clear hk hx he
      go_simp
      exact HK.out
    · intro Lq wq xq hh
      have d6 : Erg 6 (xq 6) wq := hh.val 6 (by kernel_rfl) (by kernel_rfl)
      rw [Hrge6.out] at d6
      have d8 : Erg 8 (xq 8) wq := hh.val 8 (by kernel_rfl) (by kernel_rfl)
      rw [Hrge8.out] at d8
      have d13 : Erg 13 (xq 13) wq := hh.val 13 (by kernel_rfl) (by kernel_rfl)
      rw [Hrge13.out] at d13
      simp only [hFrg, d6, d8, d13]
      clear d6 d8 d13
      refine .inl ⟨rfl, ?_⟩
      unfold Reg.upon
      have hk := Hrgk.out 14 Lq wq  hh.cls
      have hx := Hrgx.out wq
      have he : Erg 14 (.bool true) wq := by rw [Hrge14.out]
      have HK := Lib.hid (And.intro hk (And.intro he hx))
      clear hk hx he
      go_simp
      exact HK.out
    · intro Lq wq xq hh
      have d6 : Erg 6 (xq 6) wq := hh.val 6 (by kernel_rfl) (by kernel_rfl)
      rw [Hrge6.out] at d6
      have d14 : Erg 14 (xq 14) wq := hh.val 14 (by kernel_rfl) (by kernel_rfl)
      rw [Hrge14.out] at d14
      simp only [hFrg, d6, d14]
      clear d6 d14
      refine .inl ⟨rfl, ?_⟩
      unfold Reg.upon
      have hk := Hrgk.out 15 Lq wq  hh.cls
      have hx := Hrgx.out wq
      have he : Erg 15 (.bool true) wq := by rw [Hrge15.out]
      have HK := Lib.hid (And.intro hk (And.intro he hx))
      clear hk hx he
      go_simp
      exact HK.out
    · intro Lq wq xq hh
      have d15 : Erg 15 (xq 15) wq := hh.val 15 (by kernel_rfl) (by kernel_rfl)
      rw [Hrge15.out] at d15
      simp only [hFrg, d15]
      clear d15
      refine .inl ⟨rfl, ?_⟩
      unfold Reg.upon
      have hk := Hrgk.out 16 Lq wq  hh.cls
      have hx := Hrgx.out wq
      have he : Erg 16 (.bool true) wq := by rw [Hrge16.out]
      have HK := Lib.hid (And.intro hk (And.intro he hx))
      clear hk hx he
      go_simp
      exact HK.out
    · intro Lq wq xq hh
      have d16 : Erg 16 (xq 16) wq := hh.val 16 (by kernel_rfl) (by kernel_rfl)
      rw [Hrge16.out] at d16
      simp only [hFrg, d16]
      clear d16
      refine .inl ⟨rfl, ?_⟩
      unfold Reg.upon
      have hk := Hrgk.out 17 Lq wq  hh.cls
      have hx := Hrgx.out wq
      have he : Erg 17 (.pointer (some ⟨w1.heap.size, 1, none⟩)) wq := by rw [Hrge17.out]
      have HK := Lib.hid (And.intro hk (And.intro he hx))
      clear hk hx he
      go_simp
      exact HK.out
    · intro Lq wq xq hh
      have d16 : Erg 16 (xq 16) wq := hh.val 16 (by kernel_rfl) (by kernel_rfl)
      rw [Hrge16.out] at d16
      have d17 : Erg 17 (xq 17) wq := hh.val 17 (by kernel_rfl) (by kernel_rfl)
      rw [Hrge17.out] at d17
      simp only [hFrg, d16, d17]
      clear d16 d17
      refine .inl ⟨rfl, ?_⟩
      unfold Reg.upon
      have hc : Crg Lq wq := hh.cls
      rw [HrghC.out] at hc
      have h18 := (HIT.out.below hc HIT.out.lt).cell 1 _ rfl
      clear hc
      have hk := Hrgk.out 18 Lq wq  hh.cls
      have hx := Hrgx.out wq
      have he : Erg 18 (.slice t1 T.length cc1) wq := by rw [Hrge18.out]
      have HK := Lib.hid (And.intro hk (And.intro he hx))
      clear hk hx he
      go_simp
      exact HK.out
    · intro Lq wq xq hh
      have d16 : Erg 16 (xq 16) wq := hh.val 16 (by kernel_rfl) (by kernel_rfl)
      rw [Hrge16.out] at d16
      simp only [hFrg, d16]
      clear d16
      refine .inl ⟨rfl, ?_⟩
      unfold Reg.upon
      have hk := Hrgk.out 19 Lq wq  hh.cls
      have hx := Hrgx.out wq
      have he : Erg 19 (.slice (some ⟨b, off, none⟩) L.length ca) wq := by rw [Hrge19.out]
      have HK := Lib.hid (And.intro hk (And.intro he hx))
      clear hk hx he
      go_simp
      exact HK.out
    · intro Lq wq xq hh
      have d16 : Erg 16 (xq 16) wq := hh.val 16 (by kernel_rfl) (by kernel_rfl)
      rw [Hrge16.out] at d16
      simp only [hFrg, d16]
      clear d16
      refine .inl ⟨rfl, ?_⟩
      unfold Reg.upon
      have hk := Hrgk.out 20 Lq wq  hh.cls
      have hx := Hrgx.out wq
      have he : Erg 20 (.int .i64 k) wq := by rw [Hrge20.out]
      have HK := Lib.hid (And.intro hk (And.intro he hx))
      clear hk hx he
      go_simp
      exact HK.out
    · intro Lq wq xq hh
      have d16 : Erg 16 (xq 16) wq := hh.val 16 (by kernel_rfl) (by kernel_rfl)
      rw [Hrge16.out] at d16
      have d19 : Erg 19 (xq 19) wq := hh.val 19 (by kernel_rfl) (by kernel_rfl)
      rw [Hrge19.out] at d19
      have d20 : Erg 20 (xq 20) wq := hh.val 20 (by kernel_rfl) (by kernel_rfl)
      rw [Hrge20.out] at d20
      simp only [hFrg, d16, d19, d20]
      clear d16 d19 d20
      refine .inl ⟨rfl, ?_⟩
      unfold Reg.upon
      have hk := Hrgk.out 21 Lq wq  hh.cls
      have hx := Hrgx.out wq
      have he : Erg 21 (.pointer (some ⟨b, off + k * 2, none⟩)) wq := by rw [Hrge21.out]
      have HK := Lib.hid (And.intro hk (And.intro he hx))
      clear hk hx he
      go_simp
      exact HK.out
    · intro Lq wq xq hh
      have d16 : Erg 16 (xq 16) wq := hh.val 16 (by kernel_rfl) (by kernel_rfl)
      rw [Hrge16.out] at d16
      have d21 : Erg 21 (xq 21) wq := hh.val 21 (by kernel_rfl) (by kernel_rfl)
      rw [Hrge21.out] at d21
      simp only [hFrg, d16, d21]
      clear d16 d21
      refine .inl ⟨rfl, ?_⟩
      unfold Reg.upon
      have hk := Hrgk.out 22 Lq wq  hh.cls
      have hx := Hrgx.out wq
      have he : Erg 22 (.pointer (some ⟨b, off + k * 2 + 1, none⟩)) wq := by rw [Hrge22.out]
      have HK := Lib.hid (And.intro hk (And.intro he hx))
      clear hk hx he
      go_simp
      exact HK.out
    · intro Lq wq xq hh
      have d16 : Erg 16 (xq 16) wq := hh.val 16 (by kernel_rfl) (by kernel_rfl)
      rw [Hrge16.out] at d16
      have d22 : Erg 22 (xq 22) wq := hh.val 22 (by kernel_rfl) (by kernel_rfl)
      rw [Hrge22.out] at d22
      simp only [hFrg, d16, d22]
      clear d16 d22
      refine .inl ⟨rfl, ?_⟩
      unfold Reg.upon
      have hc : Crg Lq wq := hh.cls
      rw [HrghC.out] at hc
      have h23 := ((HBW.out.trans (hc.mono HBW.out.size)).cell (p := ⟨b, off + k * 2 + 1, none⟩) hb).trans HC1.out
      clear hc
      have hk := Hrgk.out 23 Lq wq  hh.cls
      have hx := Hrgx.out wq
      have he : Erg 23 (.slice tta T.length tcc) wq := by rw [Hrge23.out]
      have HK := Lib.hid (And.intro hk (And.intro he hx))
      clear hk hx he
      go_simp
      exact HK.out
    · intro Lq wq xq hh
      have d16 : Erg 16 (xq 16) wq := hh.val 16 (by kernel_rfl) (by kernel_rfl)
      rw [Hrge16.out] at d16
      have d18 : Erg 18 (xq 18) wq := hh.val 18 (by kernel_rfl) (by kernel_rfl)
      rw [Hrge18.out] at d18
      have d23 : Erg 23 (xq 23) wq := hh.val 23 (by kernel_rfl) (by kernel_rfl)
      rw [Hrge23.out] at d23
      simp only [hFrg, d16, d18, d23]
      clear d16 d18 d23
      refine .inl ⟨rfl, ?_⟩
      unfold Reg.upon
      have hc : Crg Lq wq := hh.cls
      rw [HrghC.out] at hc
      go_simp
      refine ((show Calls _ _ _ _ (Gives _ (.bool true)) from (sameB_self T) ▸ same_any _ _ T T wq (HTW.out.below hc).ints (HHT.out.below (HBW.out.trans (hc.mono HBW.out.size))).ints (by omega))).mono ?_
      rintro e w2 ⟨rfl, hb⟩
      exact ⟨_, rfl, Hrgk.out 24 Lq w2  (Hrgb.out Lq wq w2 hh.cls hb), (by rw [Hrge24.out]; try rfl), Hrgxb.out wq w2 hb⟩
    · intro Lq wq xq hh
      have d16 : Erg 16 (xq 16) wq := hh.val 16 (by kernel_rfl) (by kernel_rfl)
      rw [Hrge16.out] at d16
      have d24 : Erg 24 (xq 24) wq := hh.val 24 (by kernel_rfl) (by kernel_rfl)
      rw [Hrge24.out] at d24
      simp only [hFrg, d16, d24]
      clear d16 d24
      refine .inl ⟨rfl, ?_⟩
      unfold Reg.upon
      have hk := Hrgk.out 25 Lq wq  hh.cls
      have hx := Hrgx.out wq
      have he : Erg 25 (.bool true) wq := by rw [Hrge25.out]
      have HK := Lib.hid (And.intro hk (And.intro he hx))
      clear hk hx he
      go_simp
      exact HK.out
    · intro Lq wq xq hh
      have d25 : Erg 25 (xq 25) wq := hh.val 25 (by kernel_rfl) (by kernel_rfl)
      rw [Hrge25.out] at d25
      simp only [hFrg, d25]
      clear d25
      refine .inl ⟨rfl, ?_⟩
      unfold Reg.upon
      have hk := Hrgk.out 26 Lq wq  hh.cls
      have hx := Hrgx.out wq
      have he : Erg 26 (.bool true) wq := by rw [Hrge26.out]
      have HK := Lib.hid (And.intro hk (And.intro he hx))
      clear hk hx he
      go_simp
      exact HK.out
  intro xq wrg hcrg hvrg
  rw [HrghC.out] at hcrg
  simp only [hFrg]
  have vrg26 : Erg 26 (xq 26) wrg := hvrg 26 (by decide)
  rw [Hrge26.out] at vrg26
  rw [vrg26]
  clear hvrg hFrg Hrgk Hrgx Hrgst Hrgc HrghC HrghX Hrgb Hrgxb Hrge0 Hrge1 Hrge2 Hrge3 Hrge4 Hrge5 Hrge6 Hrge7 Hrge8 Hrge9 Hrge10 Hrge11 Hrge12 Hrge13 Hrge14 Hrge15 Hrge16 Hrge17 Hrge18 Hrge19 Hrge20 Hrge21 Hrge22 Hrge23 Hrge24 Hrge25 Hrge26
  have HF := Lib.hid (HBW.out.trans (hcrg.mono HBW.out.size))
  clear hcrg vrg26
  go_wp2
  go_ret
  exact ⟨(ret_eq (by first | rfl | (simp <;> omega))), HF.out⟩
end Go.Proofs.YtomfclkldmmmgaaDoor
