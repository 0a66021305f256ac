/- ClusterSame (20.2) answers true at any two rows of numbers and any number, and turns nothing. No conditions. -/
import Derived.Test.YtmfoldohmbaikaaClusX
import Derived.Test.YtmfoldohmbaikaaUallV
import Derived.Test.YtmfoldohmbaikaaRows
import Derived.ProofKit
namespace Go.Proofs.Ytmfoldohmbaikaa.lawClusterSame
open Go.ChangeShapes Go.WideShapes Go.ChangeAt Go.RowKit
set_option maxRecDepth 100000 in
set_option maxHeartbeats 1000000 in
theorem walkN (w : World) (va vb : Value) (a b : List Int) (r : Int) (ha : Held .i32 w va a) (hb : Held .i32 w vb b) (ca : CapOk va) (cb : CapOk vb) (hla : a.length ≤ 1000) (hlb : b.length ≤ 1000) (na nb : Nat)
    (ea : na ≤ a.length ∧ a.take 16 = a.take na ∧ ((16 ≤ a.length ∧ na = 16) ∨ (a.length < 16 ∧ na = a.length))) (eb : nb ≤ b.length ∧ b.take 16 = b.take nb ∧ ((16 ≤ b.length ∧ nb = 16) ∨ (b.length < 16 ∧ nb = b.length))) :
    Calls Try.prog 14 #[va, vb, .int .i32 r] w (Yes w) := by
  obtain ⟨ao, ka, rfl, _⟩ := id ha.view
  obtain ⟨bo, kb, rfl, _⟩ := id hb.view
  have HA := Lib.hid ha
  have HB := Lib.hid hb
  have hka : a.length ≤ ka := ca _ _ _ rfl
  have hkb : b.length ≤ kb := cb _ _ _ rfl
  have lA : (a.take 16).length ≤ 16 := by simp; omega
  have lB : (b.take 16).length ≤ 16 := by simp; omega
  have HEA := Lib.hid ea
  have HEB := Lib.hid eb
  have HLA := Lib.hid lA
  have HLB := Lib.hid lB
  clear ha hb ca cb ea eb lA lB
  go_enter Try.func14, Try.ntmps14
  go_wp2_with fail
  refine (works20_any _).mono ?_
  rintro e w1 ⟨rfl, b1⟩
  go_wp2_with fail
  refine (cof_any _ a _ (HA.out.below b1) (by omega)).mono ?_
  rintro e w2 ⟨rfl, b2⟩
  have hb2 := b1.trans (b2.mono b1.size)
  clear b2
  go_wp2_with fail
  refine (cof_any _ b _ (HB.out.below hb2) (by omega)).mono ?_
  rintro e w3 ⟨rfl, b3⟩
  have hb3 := hb2.trans (b3.mono hb2.size)
  clear b3 b1 hb2
  obtain ⟨W, hW, h7, h8, hbW, hzW⟩ := two_cl w3
  subst hW
  have hb4 := hb3.trans (hbW.mono hb3.size)
  have hs3 := hb3.size
  have H7 := Lib.hid h7
  have H8 := Lib.hid h8
  clear h7 h8 hbW hb3
  go_wp2_with (first
    | (refine wpList_store_has rfl 77 (.tmp 7) (.tmp 24) rfl w3.heap.size rfl 77 (clCells []) (clCells (a.take 16)) 17 rfl H7.out info_cl rfl (clCells_len _ HLA.out) (cl_cells_one _) ?_; intro w5 h7 b5)
    | (refine wpList_store_has rfl 77 (.tmp 8) (.tmp 26) rfl (w3.heap.size + 1) rfl 77 (clCells []) (clCells (b.take 16)) 17 rfl (H8.out.but b5 (by rw [hzW]; omega) (by omega)) info_cl rfl (clCells_len _ HLB.out) (cl_cells_one _) ?_; intro w6 h8 b6))
  obtain ⟨g, hg⟩ : ∃ g, g = w3.heap.size := ⟨_, rfl⟩
  have h7' : ClAt w6 g (a.take 16) := by rw [hg]; exact h7.but b6 h7.lt (by omega)
  have h8' : ClAt w6 (g + 1) (b.take 16) := by rw [hg]; exact h8
  have hb5 := hb4.trans (b5.below hb4.size (by omega))
  have hb6 : Below w.heap.size w w6 := hb5.trans (b6.below hb5.size (by omega))
  have hgb : w.heap.size ≤ g := by omega
  rw [← hg]
  clear hg h7 h8 b5 b6 hb5 hb4 H7 H8 hzW hs3
  have heq := fun w => cl_eql (a.take 16) (b.take 16) HLA.out HLB.out w
  have hsame : ∀ w', Below w.heap.size w w' → Calls Try.prog 18 #[.slice ao na ka, .slice bo nb kb] w' (Gives w' (.bool (clEq (a.take 16) (b.take 16)))) := fun w' hb => by
    have := same_any _ _ (a.take na) (b.take nb) w' ((take_held HA.out na HEA.out.1).below hb) ((take_held HB.out nb HEB.out.1).below hb) (by simp; omega)
    rw [HEA.out.2.1, HEB.out.2.1]
    exact this
  have HS := Lib.hid hsame
  clear hsame
  have n1 : (na : Int) ≤ (ka : Int) := by have := HEA.out.1; omega
  have n2 : (nb : Int) ≤ (kb : Int) := by have := HEB.out.1; omega
  have HNA := Lib.hid (show (if (16 : Int) < (a.length : Int) then 16 else (a.length : Int)) = (na : Int) by rcases HEA.out.2.2 with ⟨h1, h2⟩ | ⟨h1, h2⟩ <;> split <;> omega)
  have HNB := Lib.hid (show (if (16 : Int) < (b.length : Int) then 16 else (b.length : Int)) = (nb : Int) by rcases HEB.out.2.2 with ⟨h1, h2⟩ | ⟨h1, h2⟩ <;> split <;> omega)
  obtain ⟨Erg, hErg⟩ : ∃ EE : Nat → Value → World → Prop, EE = fun jj xx ww => match jj with
      | 0 => xx = .agg (clCells (a.take 16)).toArray
      | 1 => xx = .agg (clCells (b.take 16)).toArray
      | 2 => xx = .bool (clEq (a.take 16) (b.take 16))
      | 3 => xx = .slice ao a.length ka
      | 4 => xx = .slice ao a.length ka
      | 5 => xx = .int .i64 a.length
      | 6 => xx = .int .i64 na
      | 7 => xx = .slice ao na ka
      | 8 => xx = .slice bo b.length kb
      | 9 => xx = .slice bo b.length kb
      | 10 => xx = .int .i64 b.length
      | 11 => xx = .int .i64 nb
      | 12 => xx = .slice bo nb kb
      | 13 => xx = .bool (clEq (a.take 16) (b.take 16))
      | 14 => xx = .bool false
      | _ => True := ⟨_, rfl⟩
  have erg0 : ∀ xx ww, Erg 0 xx ww = (xx = .agg (clCells (a.take 16)).toArray) := fun xx ww => congrFun (congrFun (congrFun hErg 0) xx) ww
  have erg1 : ∀ xx ww, Erg 1 xx ww = (xx = .agg (clCells (b.take 16)).toArray) := fun xx ww => congrFun (congrFun (congrFun hErg 1) xx) ww
  have erg2 : ∀ xx ww, Erg 2 xx ww = (xx = .bool (clEq (a.take 16) (b.take 16))) := fun xx ww => congrFun (congrFun (congrFun hErg 2) xx) ww
  have erg3 : ∀ xx ww, Erg 3 xx ww = (xx = .slice ao a.length ka) := fun xx ww => congrFun (congrFun (congrFun hErg 3) xx) ww
  have erg4 : ∀ xx ww, Erg 4 xx ww = (xx = .slice ao a.length ka) := fun xx ww => congrFun (congrFun (congrFun hErg 4) xx) ww
  have erg5 : ∀ xx ww, Erg 5 xx ww = (xx = .int .i64 a.length) := fun xx ww => congrFun (congrFun (congrFun hErg 5) xx) ww
  have erg6 : ∀ xx ww, Erg 6 xx ww = (xx = .int .i64 na) := fun xx ww => congrFun (congrFun (congrFun hErg 6) xx) ww
  have erg7 : ∀ xx ww, Erg 7 xx ww = (xx = .slice ao na ka) := fun xx ww => congrFun (congrFun (congrFun hErg 7) xx) ww
  have erg8 : ∀ xx ww, Erg 8 xx ww = (xx = .slice bo b.length kb) := fun xx ww => congrFun (congrFun (congrFun hErg 8) xx) ww
  have erg9 : ∀ xx ww, Erg 9 xx ww = (xx = .slice bo b.length kb) := fun xx ww => congrFun (congrFun (congrFun hErg 9) xx) ww
  have erg10 : ∀ xx ww, Erg 10 xx ww = (xx = .int .i64 b.length) := fun xx ww => congrFun (congrFun (congrFun hErg 10) xx) ww
  have erg11 : ∀ xx ww, Erg 11 xx ww = (xx = .int .i64 nb) := fun xx ww => congrFun (congrFun (congrFun hErg 11) xx) ww
  have erg12 : ∀ xx ww, Erg 12 xx ww = (xx = .slice bo nb kb) := fun xx ww => congrFun (congrFun (congrFun hErg 12) xx) ww
  have erg13 : ∀ xx ww, Erg 13 xx ww = (xx = .bool (clEq (a.take 16) (b.take 16))) := fun xx ww => congrFun (congrFun (congrFun hErg 13) xx) ww
  have erg14 : ∀ xx ww, Erg 14 xx ww = (xx = .bool false) := fun xx ww => congrFun (congrFun (congrFun hErg 14) xx) ww
  obtain ⟨Crg, hCrg⟩ : ∃ CC : Array Bool → World → Prop, CC = fun L w' => ClAt w' g (a.take 16) ∧ ClAt w' (g + 1) (b.take 16) ∧ Below w.heap.size w w' := ⟨_, rfl⟩
  have krg : ∀ i L w,  Crg L w → Crg (L.setIfInBounds i true) w := by
    intro i L w  h
    rw [hCrg] at h ⊢
    exact h
  obtain ⟨Xrg, hXrg⟩ : ∃ XX : World → World → Prop, XX = fun w w1 => Below w.heap.size w w1 := ⟨_, rfl⟩
  have xrg : ∀ w, Xrg w w := fun w => by rw [hXrg]; exact Below.refl _ _
  have strg : ∀ j x w w1, Xrg w w1 → Erg j x w → Erg j x w1 := by
    intro j x w w1 hx h
    rw [hXrg] at hx
    match j with
    | 0 => rw [erg0] at h ⊢; exact h
    | 1 => rw [erg1] at h ⊢; exact h
    | 2 => rw [erg2] at h ⊢; exact h
    | 3 => rw [erg3] at h ⊢; exact h
    | 4 => rw [erg4] at h ⊢; exact h
    | 5 => rw [erg5] at h ⊢; exact h
    | 6 => rw [erg6] at h ⊢; exact h
    | 7 => rw [erg7] at h ⊢; exact h
    | 8 => rw [erg8] at h ⊢; exact h
    | 9 => rw [erg9] at h ⊢; exact h
    | 10 => rw [erg10] at h ⊢; exact h
    | 11 => rw [erg11] at h ⊢; exact h
    | 12 => rw [erg12] at h ⊢; exact h
    | 13 => rw [erg13] at h ⊢; exact h
    | 14 => rw [erg14] at h ⊢; exact h
    | j + 15 => rw [hErg]; trivial
  have crg : Crg (Array.replicate 15 false) w6.drew := by rw [hCrg]; exact ⟨h7', h8', hb6.drew⟩
  have brg : ∀ L w w1, Crg L w → Below w.heap.size w w1 → Crg L w1 := by
    intro L w w1 h hb
    rw [hCrg] at h ⊢
    exact ⟨Has.below h.1 hb h.1.lt, Has.below h.2.1 hb h.2.1.lt, h.2.2.trans (hb.mono h.2.2.size)⟩
  have xbrg : ∀ w w1, Below w.heap.size w w1 → Xrg w w1 := by
    intro w w1 hb
    rw [hXrg]
    exact hb
  have Hrgb := Lib.hid brg
  have Hrgxb := Lib.hid xbrg
  clear brg xbrg
  clear hErg
  have Hrgk := Lib.hid krg
  have Hrgx := Lib.hid xrg
  have Hrgst := Lib.hid strg
  have Hrgc := Lib.hid crg
  have HrghC := Lib.hid hCrg
  have HrghX := Lib.hid hXrg
  have Hrge0 := Lib.hid erg0
  have Hrge1 := Lib.hid erg1
  have Hrge2 := Lib.hid erg2
  have Hrge3 := Lib.hid erg3
  have Hrge4 := Lib.hid erg4
  have Hrge5 := Lib.hid erg5
  have Hrge6 := Lib.hid erg6
  have Hrge7 := Lib.hid erg7
  have Hrge8 := Lib.hid erg8
  have Hrge9 := Lib.hid erg9
  have Hrge10 := Lib.hid erg10
  have Hrge11 := Lib.hid erg11
  have Hrge12 := Lib.hid erg12
  have Hrge13 := Lib.hid erg13
  have Hrge14 := Lib.hid erg14
  clear krg xrg strg crg hCrg hXrg erg0 erg1 erg2 erg3 erg4 erg5 erg6 erg7 erg8 erg9 erg10 erg11 erg12 erg13 erg14
  go_wp2_with fail
  refine Reg.regionF Erg Crg Xrg Hrgst.out (by kernel_rfl) (by kernel_rfl) (by kernel_rfl) Hrgc.out (fun Frg hFrg => ?_)
  simp only [Reg.frame, Reg.dsts, List.map_cons, List.map_nil, Mix.put_lit, Reg.put_none, List.set_cons_succ, List.set_cons_zero, Array.getD, Nat.zero_add, Nat.reduceAdd] at hFrg
  refine ⟨?_, ?_⟩
  · refine ⟨?_, ?_, ?_, ?_, ?_, ?_, ?_, ?_, ?_, ?_, ?_, ?_, ?_, ?_, ?_, trivial⟩
    · intro L w xs hh
      simp only [hFrg]
      refine .inl ⟨rfl, ?_⟩
      unfold Reg.upon
      have hc : Crg L w := hh.cls
      rw [HrghC.out] at hc
      rw [exec_load_has rfl rfl hc.1 Try.underlying77 rfl info_cl (clCells_len _ HLA.out)]
      exact ⟨Hrgk.out 0 L w  hh.cls, (by rw [Hrge0.out]; try rfl), Hrgx.out _⟩
    · intro L w xs hh
      simp only [hFrg]
      refine .inl ⟨rfl, ?_⟩
      unfold Reg.upon
      have hc : Crg L w := hh.cls
      rw [HrghC.out] at hc
      rw [exec_load_has rfl rfl hc.2.1 Try.underlying77 rfl info_cl (clCells_len _ HLB.out)]
      exact ⟨Hrgk.out 1 L w  hh.cls, (by rw [Hrge1.out]; try rfl), Hrgx.out _⟩
    · intro L w xs hh
      have d0 : Erg 0 (xs 0) w := hh.val 0 (by kernel_rfl) (by kernel_rfl)
      rw [Hrge0.out] at d0
      have d1 : Erg 1 (xs 1) w := hh.val 1 (by kernel_rfl) (by kernel_rfl)
      rw [Hrge1.out] at d1
      simp only [hFrg, d0, d1]
      clear d0 d1
      refine .inl ⟨rfl, ?_⟩
      unfold Reg.upon
      have hk := Hrgk.out 2 L w  hh.cls
      have hx := Hrgx.out w
      have he : Erg 2 (.bool (clEq (a.take 16) (b.take 16))) w := by rw [Hrge2.out]
      have HK := Lib.hid (And.intro hk (And.intro he hx))
      clear hk hx he
      go_simp
      exact HK.out
    · intro L w xs hh
      simp only [hFrg]
      refine .inl ⟨rfl, ?_⟩
      unfold Reg.upon
      have hk := Hrgk.out 3 L w  hh.cls
      have hx := Hrgx.out w
      have he : Erg 3 (.slice ao a.length ka) w := by rw [Hrge3.out]
      have HK := Lib.hid (And.intro hk (And.intro he hx))
      clear hk hx he
      go_simp
      exact HK.out
    · intro L w xs hh
      simp only [hFrg]
      refine .inl ⟨rfl, ?_⟩
      unfold Reg.upon
      have hk := Hrgk.out 4 L w  hh.cls
      have hx := Hrgx.out w
      have he : Erg 4 (.slice ao a.length ka) w := by rw [Hrge4.out]
      have HK := Lib.hid (And.intro hk (And.intro he hx))
      clear hk hx he
      go_simp
      exact HK.out
    · intro L w xs hh
      have d4 : Erg 4 (xs 4) w := hh.val 4 (by kernel_rfl) (by kernel_rfl)
      rw [Hrge4.out] at d4
      simp only [hFrg, d4]
      clear d4
      refine .inl ⟨rfl, ?_⟩
      unfold Reg.upon
      have hk := Hrgk.out 5 L w  hh.cls
      have hx := Hrgx.out w
      have he : Erg 5 (.int .i64 a.length) w := by rw [Hrge5.out]
      have HK := Lib.hid (And.intro hk (And.intro he hx))
      clear hk hx he
      go_simp
      exact HK.out
    · intro L w xs hh
      have d5 : Erg 5 (xs 5) w := hh.val 5 (by kernel_rfl) (by kernel_rfl)
      rw [Hrge5.out] at d5
      simp only [hFrg, d5]
      clear d5
      refine .inl ⟨rfl, ?_⟩
      unfold Reg.upon
      have hc : Crg L w := hh.cls
      rw [HrghC.out] at hc
      go_simp
      rw [HNA.out]
      exact ⟨Hrgk.out 6 L w  hh.cls, (by rw [Hrge6.out]; try rfl), Hrgx.out _⟩
    · intro L w xs hh
      have d3 : Erg 3 (xs 3) w := hh.val 3 (by kernel_rfl) (by kernel_rfl)
      rw [Hrge3.out] at d3
      have d6 : Erg 6 (xs 6) w := hh.val 6 (by kernel_rfl) (by kernel_rfl)
      rw [Hrge6.out] at d6
      simp only [hFrg, d3, d6]
      clear d3 d6
      refine .inl ⟨rfl, ?_⟩
      unfold Reg.upon
      have hk := Hrgk.out 7 L w  hh.cls
      have hx := Hrgx.out w
      have he : Erg 7 (.slice ao na ka) w := by rw [Hrge7.out]
      have HK := Lib.hid (And.intro hk (And.intro he hx))
      clear hk hx he
      go_simp
      exact HK.out
    · intro L w xs hh
      simp only [hFrg]
      refine .inl ⟨rfl, ?_⟩
      unfold Reg.upon
      have hk := Hrgk.out 8 L w  hh.cls
      have hx := Hrgx.out w
      have he : Erg 8 (.slice bo b.length kb) w := by rw [Hrge8.out]
      have HK := Lib.hid (And.intro hk (And.intro he hx))
      clear hk hx he
      go_simp
      exact HK.out
    · intro L w xs hh
      simp only [hFrg]
      refine .inl ⟨rfl, ?_⟩
      unfold Reg.upon
      have hk := Hrgk.out 9 L w  hh.cls
      have hx := Hrgx.out w
      have he : Erg 9 (.slice bo b.length kb) w := by rw [Hrge9.out]
      have HK := Lib.hid (And.intro hk (And.intro he hx))
      clear hk hx he
      go_simp
      exact HK.out
    · intro L w xs hh
      have d9 : Erg 9 (xs 9) w := hh.val 9 (by kernel_rfl) (by kernel_rfl)
      rw [Hrge9.out] at d9
      simp only [hFrg, d9]
      clear d9
      refine .inl ⟨rfl, ?_⟩
      unfold Reg.upon
      have hk := Hrgk.out 10 L w  hh.cls
      have hx := Hrgx.out w
      have he : Erg 10 (.int .i64 b.length) w := by rw [Hrge10.out]
      have HK := Lib.hid (And.intro hk (And.intro he hx))
      clear hk hx he
      go_simp
      exact HK.out
    · intro L w xs hh
      have d10 : Erg 10 (xs 10) w := hh.val 10 (by kernel_rfl) (by kernel_rfl)
      rw [Hrge10.out] at d10
      simp only [hFrg, d10]
      clear d10
      refine .inl ⟨rfl, ?_⟩
      unfold Reg.upon
      have hc : Crg L w := hh.cls
      rw [HrghC.out] at hc
      go_simp
      rw [HNB.out]
      exact ⟨Hrgk.out 11 L w  hh.cls, (by rw [Hrge11.out]; try rfl), Hrgx.out _⟩
    · intro L w xs hh
      have d8 : Erg 8 (xs 8) w := hh.val 8 (by kernel_rfl) (by kernel_rfl)
      rw [Hrge8.out] at d8
      have d11 : Erg 11 (xs 11) w := hh.val 11 (by kernel_rfl) (by kernel_rfl)
      rw [Hrge11.out] at d11
      simp only [hFrg, d8, d11]
      clear d8 d11
      refine .inl ⟨rfl, ?_⟩
      unfold Reg.upon
      have hk := Hrgk.out 12 L w  hh.cls
      have hx := Hrgx.out w
      have he : Erg 12 (.slice bo nb kb) w := by rw [Hrge12.out]
      have HK := Lib.hid (And.intro hk (And.intro he hx))
      clear hk hx he
      go_simp
      exact HK.out
    · intro L w xs hh
      have d7 : Erg 7 (xs 7) w := hh.val 7 (by kernel_rfl) (by kernel_rfl)
      rw [Hrge7.out] at d7
      have d12 : Erg 12 (xs 12) w := hh.val 12 (by kernel_rfl) (by kernel_rfl)
      rw [Hrge12.out] at d12
      simp only [hFrg, d7, d12]
      clear d7 d12
      refine .inl ⟨rfl, ?_⟩
      unfold Reg.upon
      have hc : Crg L w := hh.cls
      rw [HrghC.out] at hc
      go_simp
      refine (HS.out _ hc.2.2).mono ?_
      rintro e w2 ⟨rfl, hb⟩
      exact ⟨_, rfl, Hrgk.out 13 L w2  (Hrgb.out L w w2 hh.cls hb), (by rw [Hrge13.out]; try rfl), Hrgxb.out w w2 hb⟩
    · intro L w xs hh
      have d2 : Erg 2 (xs 2) w := hh.val 2 (by kernel_rfl) (by kernel_rfl)
      rw [Hrge2.out] at d2
      have d13 : Erg 13 (xs 13) w := hh.val 13 (by kernel_rfl) (by kernel_rfl)
      rw [Hrge13.out] at d13
      simp only [hFrg, d2, d13]
      clear d2 d13
      refine .inl ⟨rfl, ?_⟩
      unfold Reg.upon
      have hk := Hrgk.out 14 L w  hh.cls
      have hx := Hrgx.out w
      have he : Erg 14 (.bool false) w := by rw [Hrge14.out]
      have HK := Lib.hid (And.intro hk (And.intro he hx))
      clear hk hx he
      go_simp
      exact HK.out
  intro xs wrg hcrg hvrg
  rw [HrghC.out] at hcrg
  simp only [hFrg]
  have vrg14 : Erg 14 (xs 14) wrg := hvrg 14 (by decide)
  rw [Hrge14.out] at vrg14
  rw [vrg14]
  clear hvrg hFrg Hrgk Hrgx Hrgst Hrgc HrghC HrghX Hrgb Hrgxb Hrge0 Hrge1 Hrge2 Hrge3 Hrge4 Hrge5 Hrge6 Hrge7 Hrge8 Hrge9 Hrge10 Hrge11 Hrge12 Hrge13 Hrge14
  obtain ⟨h7, h8, hb7⟩ := hcrg
  have hE : ∃ (E : List Int) (q : Bool), E.length ≤ 16 ∧ clEq E (a.take 16) = q ∧ decide ((16 : Int) ≤ (a.length : Int)) = q ∧ ∀ G w', ClAt w' G (a.take 16) → Calls Try.prog 48 #[.pointer (some ⟨G, 0, none⟩), .int .i32 r] w' fun e w'' => ∃ y, e = .returned (.bool y) ∧ ClAt w'' G E ∧ But G w'.heap.size w' w'' := by
    rcases HEA.out.2.2 with ⟨h1, _⟩ | ⟨h1, _⟩
    · refine ⟨a.take 16, true, HLA.out, by simp [clEq], decide_eq_true (by omega), fun G w' h => ?_⟩
      refine (cadd_full G _ r w' h (by simp; omega)).mono ?_
      rintro e w2 ⟨rfl, rfl⟩
      exact ⟨false, rfl, h, But.refl _ _ _⟩
    · refine ⟨a.take 16 ++ [r], false, by simp; omega, ?_, decide_eq_false (by omega), fun G w' h => ?_⟩
      · unfold clEq
        rw [decide_eq_false_iff_not]
        intro he
        have := congrArg List.length he
        simp at this
      · refine (cadd_any G _ r w' h (by simp; omega)).mono ?_
        rintro e w2 ⟨rfl, h1, h2⟩
        exact ⟨true, rfl, h1, h2⟩
  obtain ⟨E, q, lE, hq, hd, hadd⟩ := hE
  have HADD := Lib.hid hadd
  have HLE := Lib.hid lE
  clear hadd lE heq h8 HNA HNB
  go_wp2_with (first
    | (refine wpList_load_has rfl 77 (.tmp 7) rfl g rfl 77 (clCells (a.take 16)) _ 17 h7 Try.underlying77 rfl info_cl (clCells_len _ HLA.out) ?_)
    | (refine wpList_store_has rfl 77 (.tmp 9) (.tmp 42) rfl wrg.heap.size rfl 77 (clCells []) (clCells (a.take 16)) 17 rfl (Has.new wrg (clCells []) _) info_cl rfl (clCells_len _ HLA.out) (cl_cells_one _) ?_; intro w8 h9 b8))
  have hlt := h7.lt
  obtain ⟨G, hG⟩ : ∃ G, G = wrg.heap.size := ⟨_, rfl⟩
  have h7b : ClAt w8 g (a.take 16) := (Has.alloc h7 _).but b8 (by simp; omega) (by omega)
  have hb8 : Below w.heap.size w w8 := (hb7.alloc hb7.size _).trans (b8.below (by have := hb7.size; simp; omega) hb7.size)
  rw [← hG] at h9 ⊢
  have hGg : g ≠ G := by omega
  have hGb : w.heap.size ≤ G := by have := hb7.size; omega
  clear hG b8 hlt h7 hb7
  go_wp2_with fail
  refine (HADD.out G _ h9).mono ?_
  rintro e w10 ⟨y, rfl, h10, b10⟩
  have h7c := h7b.but b10 h7b.lt hGg
  have hb10 := hb8.trans (b10.below hb8.size hGb)
  have heq1 := fun w => cl_eql (a.take 16) (a.take 16) HLA.out HLA.out w
  rw [show clEq (a.take 16) (a.take 16) = true by simp [clEq]] at heq1
  have heq2 := fun w => cl_eql E (a.take 16) HLE.out HLA.out w
  rw [hq] at heq2
  have HD := Lib.hid hd
  clear h7b b10 hb8 h9 HADD hq hd
  obtain ⟨Ergb, hErgb⟩ : ∃ EE : Nat → Value → World → Prop, EE = fun jj xx ww => match jj with
      | 0 => xx = .agg (clCells (a.take 16)).toArray
      | 1 => xx = .slice ao a.length ka
      | 2 => xx = .agg (clCells (a.take 16)).toArray
      | 3 => xx = .bool true
      | 4 => xx = .bool true
      | 5 => xx = .agg (clCells E).toArray
      | 6 => xx = .agg (clCells (a.take 16)).toArray
      | 7 => xx = .bool q
      | 8 => xx = .slice ao a.length ka
      | 9 => xx = .int .i64 a.length
      | 10 => xx = .bool q
      | 11 => xx = .bool true
      | 12 => xx = .bool true
      | 13 => xx = .bool true
      | _ => True := ⟨_, rfl⟩
  have ergb0 : ∀ xx ww, Ergb 0 xx ww = (xx = .agg (clCells (a.take 16)).toArray) := fun xx ww => congrFun (congrFun (congrFun hErgb 0) xx) ww
  have ergb1 : ∀ xx ww, Ergb 1 xx ww = (xx = .slice ao a.length ka) := fun xx ww => congrFun (congrFun (congrFun hErgb 1) xx) ww
  have ergb2 : ∀ xx ww, Ergb 2 xx ww = (xx = .agg (clCells (a.take 16)).toArray) := fun xx ww => congrFun (congrFun (congrFun hErgb 2) xx) ww
  have ergb3 : ∀ xx ww, Ergb 3 xx ww = (xx = .bool true) := fun xx ww => congrFun (congrFun (congrFun hErgb 3) xx) ww
  have ergb4 : ∀ xx ww, Ergb 4 xx ww = (xx = .bool true) := fun xx ww => congrFun (congrFun (congrFun hErgb 4) xx) ww
  have ergb5 : ∀ xx ww, Ergb 5 xx ww = (xx = .agg (clCells E).toArray) := fun xx ww => congrFun (congrFun (congrFun hErgb 5) xx) ww
  have ergb6 : ∀ xx ww, Ergb 6 xx ww = (xx = .agg (clCells (a.take 16)).toArray) := fun xx ww => congrFun (congrFun (congrFun hErgb 6) xx) ww
  have ergb7 : ∀ xx ww, Ergb 7 xx ww = (xx = .bool q) := fun xx ww => congrFun (congrFun (congrFun hErgb 7) xx) ww
  have ergb8 : ∀ xx ww, Ergb 8 xx ww = (xx = .slice ao a.length ka) := fun xx ww => congrFun (congrFun (congrFun hErgb 8) xx) ww
  have ergb9 : ∀ xx ww, Ergb 9 xx ww = (xx = .int .i64 a.length) := fun xx ww => congrFun (congrFun (congrFun hErgb 9) xx) ww
  have ergb10 : ∀ xx ww, Ergb 10 xx ww = (xx = .bool q) := fun xx ww => congrFun (congrFun (congrFun hErgb 10) xx) ww
  have ergb11 : ∀ xx ww, Ergb 11 xx ww = (xx = .bool true) := fun xx ww => congrFun (congrFun (congrFun hErgb 11) xx) ww
  have ergb12 : ∀ xx ww, Ergb 12 xx ww = (xx = .bool true) := fun xx ww => congrFun (congrFun (congrFun hErgb 12) xx) ww
  have ergb13 : ∀ xx ww, Ergb 13 xx ww = (xx = .bool true) := fun xx ww => congrFun (congrFun (congrFun hErgb 13) xx) ww
  obtain ⟨Crgb, hCrgb⟩ : ∃ CC : Array Bool → World → Prop, CC = fun L w' => ClAt w' g (a.take 16) ∧ ClAt w' G E ∧ Below w.heap.size w w' := ⟨_, rfl⟩
  have krgb : ∀ i L w,  Crgb L w → Crgb (L.setIfInBounds i true) w := by
    intro i L w  h
    rw [hCrgb] at h ⊢
    exact h
  obtain ⟨Xrgb, hXrgb⟩ : ∃ XX : World → World → Prop, XX = fun w w1 => Below w.heap.size w w1 := ⟨_, rfl⟩
  have xrgb : ∀ w, Xrgb w w := fun w => by rw [hXrgb]; exact Below.refl _ _
  have strgb : ∀ j x w w1, Xrgb w w1 → Ergb j x w → Ergb j x w1 := by
    intro j x w w1 hx h
    rw [hXrgb] at hx
    match j with
    | 0 => rw [ergb0] at h ⊢; exact h
    | 1 => rw [ergb1] at h ⊢; exact h
    | 2 => rw [ergb2] at h ⊢; exact h
    | 3 => rw [ergb3] at h ⊢; exact h
    | 4 => rw [ergb4] at h ⊢; exact h
    | 5 => rw [ergb5] at h ⊢; exact h
    | 6 => rw [ergb6] at h ⊢; exact h
    | 7 => rw [ergb7] at h ⊢; exact h
    | 8 => rw [ergb8] at h ⊢; exact h
    | 9 => rw [ergb9] at h ⊢; exact h
    | 10 => rw [ergb10] at h ⊢; exact h
    | 11 => rw [ergb11] at h ⊢; exact h
    | 12 => rw [ergb12] at h ⊢; exact h
    | 13 => rw [ergb13] at h ⊢; exact h
    | j + 14 => rw [hErgb]; trivial
  have crgb : Crgb (Array.replicate 14 false) w10.drew := by rw [hCrgb]; exact ⟨h7c, h10, hb10.drew⟩
  have brgb : ∀ L w w1, Crgb L w → Below w.heap.size w w1 → Crgb L w1 := by
    intro L w w1 h hb
    rw [hCrgb] at h ⊢
    exact ⟨Has.below h.1 hb h.1.lt, Has.below h.2.1 hb h.2.1.lt, h.2.2.trans (hb.mono h.2.2.size)⟩
  have xbrgb : ∀ w w1, Below w.heap.size w w1 → Xrgb w w1 := by
    intro w w1 hb
    rw [hXrgb]
    exact hb
  have Hrgbb := Lib.hid brgb
  have Hrgbxb := Lib.hid xbrgb
  clear brgb xbrgb
  clear hErgb
  have Hrgbk := Lib.hid krgb
  have Hrgbx := Lib.hid xrgb
  have Hrgbst := Lib.hid strgb
  have Hrgbc := Lib.hid crgb
  have HrgbhC := Lib.hid hCrgb
  have HrgbhX := Lib.hid hXrgb
  have Hrgbe0 := Lib.hid ergb0
  have Hrgbe1 := Lib.hid ergb1
  have Hrgbe2 := Lib.hid ergb2
  have Hrgbe3 := Lib.hid ergb3
  have Hrgbe4 := Lib.hid ergb4
  have Hrgbe5 := Lib.hid ergb5
  have Hrgbe6 := Lib.hid ergb6
  have Hrgbe7 := Lib.hid ergb7
  have Hrgbe8 := Lib.hid ergb8
  have Hrgbe9 := Lib.hid ergb9
  have Hrgbe10 := Lib.hid ergb10
  have Hrgbe11 := Lib.hid ergb11
  have Hrgbe12 := Lib.hid ergb12
  have Hrgbe13 := Lib.hid ergb13
  clear krgb xrgb strgb crgb hCrgb hXrgb ergb0 ergb1 ergb2 ergb3 ergb4 ergb5 ergb6 ergb7 ergb8 ergb9 ergb10 ergb11 ergb12 ergb13
  go_wp2_with fail
  refine Reg.regionF Ergb Crgb Xrgb Hrgbst.out (by kernel_rfl) (by kernel_rfl) (by kernel_rfl) Hrgbc.out (fun Frgb hFrgb => ?_)
  simp only [Reg.frame, Reg.dsts, List.map_cons, List.map_nil, Mix.put_lit, Reg.put_none, List.set_cons_succ, List.set_cons_zero, Array.getD, Nat.zero_add, Nat.reduceAdd] at hFrgb
  refine ⟨?_, ?_⟩
  · refine ⟨?_, ?_, ?_, ?_, ?_, ?_, ?_, ?_, ?_, ?_, ?_, ?_, ?_, ?_, trivial⟩
    · intro L w xs hh
      simp only [hFrgb]
      refine .inl ⟨rfl, ?_⟩
      unfold Reg.upon
      have hc : Crgb L w := hh.cls
      rw [HrgbhC.out] at hc
      rw [exec_load_has rfl rfl hc.1 Try.underlying77 rfl info_cl (clCells_len _ HLA.out)]
      exact ⟨Hrgbk.out 0 L w  hh.cls, (by rw [Hrgbe0.out]; try rfl), Hrgbx.out _⟩
    · intro L w xs hh
      simp only [hFrgb]
      refine .inl ⟨rfl, ?_⟩
      unfold Reg.upon
      have hk := Hrgbk.out 1 L w  hh.cls
      have hx := Hrgbx.out w
      have he : Ergb 1 (.slice ao a.length ka) w := by rw [Hrgbe1.out]
      have HK := Lib.hid (And.intro hk (And.intro he hx))
      clear hk hx he
      go_simp
      exact HK.out
    · intro L w xs hh
      have d1 : Ergb 1 (xs 1) w := hh.val 1 (by kernel_rfl) (by kernel_rfl)
      rw [Hrgbe1.out] at d1
      simp only [hFrgb, d1]
      clear d1
      refine .inl ⟨rfl, ?_⟩
      unfold Reg.upon
      have hc : Crgb L w := hh.cls
      rw [HrgbhC.out] at hc
      go_simp
      refine (cof_any _ a _ (HA.out.below hc.2.2) (by omega)).mono ?_
      rintro e w2 ⟨rfl, hb⟩
      exact ⟨_, rfl, Hrgbk.out 2 L w2  (Hrgbb.out L w w2 hh.cls hb), (by rw [Hrgbe2.out]; try rfl), Hrgbxb.out w w2 hb⟩
    · intro L w xs hh
      have d0 : Ergb 0 (xs 0) w := hh.val 0 (by kernel_rfl) (by kernel_rfl)
      rw [Hrgbe0.out] at d0
      have d2 : Ergb 2 (xs 2) w := hh.val 2 (by kernel_rfl) (by kernel_rfl)
      rw [Hrgbe2.out] at d2
      simp only [hFrgb, d0, d2]
      clear d0 d2
      refine .inl ⟨rfl, ?_⟩
      unfold Reg.upon
      have hk := Hrgbk.out 3 L w  hh.cls
      have hx := Hrgbx.out w
      have he : Ergb 3 (.bool true) w := by rw [Hrgbe3.out]
      have HK := Lib.hid (And.intro hk (And.intro he hx))
      clear hk hx he
      go_simp
      exact HK.out
    · intro L w xs hh
      have d3 : Ergb 3 (xs 3) w := hh.val 3 (by kernel_rfl) (by kernel_rfl)
      rw [Hrgbe3.out] at d3
      simp only [hFrgb, d3]
      clear d3
      refine .inl ⟨rfl, ?_⟩
      unfold Reg.upon
      have hk := Hrgbk.out 4 L w  hh.cls
      have hx := Hrgbx.out w
      have he : Ergb 4 (.bool true) w := by rw [Hrgbe4.out]
      have HK := Lib.hid (And.intro hk (And.intro he hx))
      clear hk hx he
      go_simp
      exact HK.out
    · intro L w xs hh
      have d4 : Ergb 4 (xs 4) w := hh.val 4 (by kernel_rfl) (by kernel_rfl)
      rw [Hrgbe4.out] at d4
      simp only [hFrgb, d4]
      clear d4
      refine .inl ⟨rfl, ?_⟩
      unfold Reg.upon
      have hc : Crgb L w := hh.cls
      rw [HrgbhC.out] at hc
      rw [exec_load_has rfl rfl hc.2.1 Try.underlying77 rfl info_cl (clCells_len _ HLE.out)]
      exact ⟨Hrgbk.out 5 L w  hh.cls, (by rw [Hrgbe5.out]; try rfl), Hrgbx.out _⟩
    · intro L w xs hh
      have d4 : Ergb 4 (xs 4) w := hh.val 4 (by kernel_rfl) (by kernel_rfl)
      rw [Hrgbe4.out] at d4
      simp only [hFrgb, d4]
      clear d4
      refine .inl ⟨rfl, ?_⟩
      unfold Reg.upon
      have hc : Crgb L w := hh.cls
      rw [HrgbhC.out] at hc
      rw [exec_load_has rfl rfl hc.1 Try.underlying77 rfl info_cl (clCells_len _ HLA.out)]
      exact ⟨Hrgbk.out 6 L w  hh.cls, (by rw [Hrgbe6.out]; try rfl), Hrgbx.out _⟩
    · intro L w xs hh
      have d4 : Ergb 4 (xs 4) w := hh.val 4 (by kernel_rfl) (by kernel_rfl)
      rw [Hrgbe4.out] at d4
      have d5 : Ergb 5 (xs 5) w := hh.val 5 (by kernel_rfl) (by kernel_rfl)
      rw [Hrgbe5.out] at d5
      have d6 : Ergb 6 (xs 6) w := hh.val 6 (by kernel_rfl) (by kernel_rfl)
      rw [Hrgbe6.out] at d6
      simp only [hFrgb, d4, d5, d6]
      clear d4 d5 d6
      refine .inl ⟨rfl, ?_⟩
      unfold Reg.upon
      have hk := Hrgbk.out 7 L w  hh.cls
      have hx := Hrgbx.out w
      have he : Ergb 7 (.bool q) w := by rw [Hrgbe7.out]
      have HK := Lib.hid (And.intro hk (And.intro he hx))
      clear hk hx he
      go_simp
      exact HK.out
    · intro L w xs hh
      have d4 : Ergb 4 (xs 4) w := hh.val 4 (by kernel_rfl) (by kernel_rfl)
      rw [Hrgbe4.out] at d4
      simp only [hFrgb, d4]
      clear d4
      refine .inl ⟨rfl, ?_⟩
      unfold Reg.upon
      have hk := Hrgbk.out 8 L w  hh.cls
      have hx := Hrgbx.out w
      have he : Ergb 8 (.slice ao a.length ka) w := by rw [Hrgbe8.out]
      have HK := Lib.hid (And.intro hk (And.intro he hx))
      clear hk hx he
      go_simp
      exact HK.out
    · intro L w xs hh
      have d4 : Ergb 4 (xs 4) w := hh.val 4 (by kernel_rfl) (by kernel_rfl)
      rw [Hrgbe4.out] at d4
      have d8 : Ergb 8 (xs 8) w := hh.val 8 (by kernel_rfl) (by kernel_rfl)
      rw [Hrgbe8.out] at d8
      simp only [hFrgb, d4, d8]
      clear d4 d8
      refine .inl ⟨rfl, ?_⟩
      unfold Reg.upon
      have hk := Hrgbk.out 9 L w  hh.cls
      have hx := Hrgbx.out w
      have he : Ergb 9 (.int .i64 a.length) w := by rw [Hrgbe9.out]
      have HK := Lib.hid (And.intro hk (And.intro he hx))
      clear hk hx he
      go_simp
      exact HK.out
    · intro L w xs hh
      have d4 : Ergb 4 (xs 4) w := hh.val 4 (by kernel_rfl) (by kernel_rfl)
      rw [Hrgbe4.out] at d4
      have d9 : Ergb 9 (xs 9) w := hh.val 9 (by kernel_rfl) (by kernel_rfl)
      rw [Hrgbe9.out] at d9
      simp only [hFrgb, d4, d9]
      clear d4 d9
      refine .inl ⟨rfl, ?_⟩
      unfold Reg.upon
      have hc : Crgb L w := hh.cls
      rw [HrgbhC.out] at hc
      go_simp
      rw [HD.out]
      exact ⟨Hrgbk.out 10 L w  hh.cls, (by rw [Hrgbe10.out]; try rfl), Hrgbx.out _⟩
    · intro L w xs hh
      have d4 : Ergb 4 (xs 4) w := hh.val 4 (by kernel_rfl) (by kernel_rfl)
      rw [Hrgbe4.out] at d4
      have d7 : Ergb 7 (xs 7) w := hh.val 7 (by kernel_rfl) (by kernel_rfl)
      rw [Hrgbe7.out] at d7
      have d10 : Ergb 10 (xs 10) w := hh.val 10 (by kernel_rfl) (by kernel_rfl)
      rw [Hrgbe10.out] at d10
      simp only [hFrgb, d4, d7, d10]
      clear d4 d7 d10
      refine .inl ⟨rfl, ?_⟩
      unfold Reg.upon
      have hk := Hrgbk.out 11 L w  hh.cls
      have hx := Hrgbx.out w
      have he : Ergb 11 (.bool true) w := by rw [Hrgbe11.out]
      have HK := Lib.hid (And.intro hk (And.intro he hx))
      clear hk hx he
      go_simp
      exact HK.out
    · intro L w xs hh
      have d4 : Ergb 4 (xs 4) w := hh.val 4 (by kernel_rfl) (by kernel_rfl)
      rw [Hrgbe4.out] at d4
      have d11 : Ergb 11 (xs 11) w := hh.val 11 (by kernel_rfl) (by kernel_rfl)
      rw [Hrgbe11.out] at d11
      simp only [hFrgb, d4, d11]
      clear d4 d11
      refine .inl ⟨rfl, ?_⟩
      unfold Reg.upon
      have hk := Hrgbk.out 12 L w  hh.cls
      have hx := Hrgbx.out w
      have he : Ergb 12 (.bool true) w := by rw [Hrgbe12.out]
      have HK := Lib.hid (And.intro hk (And.intro he hx))
      clear hk hx he
      go_simp
      exact HK.out
    · intro L w xs hh
      have d12 : Ergb 12 (xs 12) w := hh.val 12 (by kernel_rfl) (by kernel_rfl)
      rw [Hrgbe12.out] at d12
      simp only [hFrgb, d12]
      clear d12
      refine .inl ⟨rfl, ?_⟩
      unfold Reg.upon
      have hk := Hrgbk.out 13 L w  hh.cls
      have hx := Hrgbx.out w
      have he : Ergb 13 (.bool true) w := by rw [Hrgbe13.out]
      have HK := Lib.hid (And.intro hk (And.intro he hx))
      clear hk hx he
      go_simp
      exact HK.out
  intro xs wrgb hcrgb hvrgb
  rw [HrgbhC.out] at hcrgb
  simp only [hFrgb]
  have vrgb13 : Ergb 13 (xs 13) wrgb := hvrgb 13 (by decide)
  rw [Hrgbe13.out] at vrgb13
  rw [vrgb13]
  clear hvrgb hFrgb Hrgbk Hrgbx Hrgbst Hrgbc HrgbhC HrgbhX Hrgbb Hrgbxb Hrgbe0 Hrgbe1 Hrgbe2 Hrgbe3 Hrgbe4 Hrgbe5 Hrgbe6 Hrgbe7 Hrgbe8 Hrgbe9 Hrgbe10 Hrgbe11 Hrgbe12 Hrgbe13
  have hb := hcrgb.2.2
  clear hcrgb
  go_wp2
  go_ret
  exact ⟨(ret_eq (by first | rfl | (simp <;> omega))), hb⟩
theorem na_of (a : List Int) : ∃ na, na ≤ a.length ∧ a.take 16 = a.take na ∧ ((16 ≤ a.length ∧ na = 16) ∨ (a.length < 16 ∧ na = a.length)) := by
  rcases Nat.lt_or_ge a.length 16 with h | h
  · exact ⟨a.length, Nat.le_refl _, by rw [List.take_of_length_le (by omega), List.take_of_length_le (Nat.le_refl _)], .inr ⟨h, rfl⟩⟩
  · exact ⟨16, h, rfl, .inl ⟨h, rfl⟩⟩
set_option maxRecDepth 100000 in
theorem walk {H : Type} {enc : TypeId × Value → H} (W : World) {base base' : Nat} (v : Value) {d : DataW H} {p : List MemPlace} (hv : Value.okWide Try.prog W .any base 29 v) (h : DataW.Trod enc Try.prog W 0 (fun _ => true) true 29 v d p)
    (u : Value) {d' : DataW H} {p' : List MemPlace} (hv' : Value.okWide Try.prog W .any base' 29 u) (h' : DataW.Trod enc Try.prog W 0 (fun _ => true) true 29 u d' p') (r : Int) (_wr : (Lit.int .i32 r).wf = true) : Calls Try.prog 14 #[v, u, .int .i32 r] W (Yes W) := by
  obtain ⟨a, ha, ca, _⟩ := heldc_arg Try.underlying29 Try.underlying21 (by kernel_rfl) hv h
  obtain ⟨b, hb, cb, _⟩ := heldc_arg Try.underlying29 Try.underlying21 (by kernel_rfl) hv' h'
  obtain ⟨na, ea⟩ := na_of a
  obtain ⟨nb, eb⟩ := na_of b
  rcases Nat.lt_or_ge 1000 a.length with hl | hla
  · obtain ⟨ao, ka, rfl, _⟩ := id ha.view
    obtain ⟨bo, kb, rfl, _⟩ := id hb.view
    clear hv h hv' h' ha hb ca cb ea eb
    go_enter Try.func14, Try.ntmps14
    go_wp2_with fail
    refine (works20_any _).mono ?_
    rintro e w1 ⟨rfl, b1⟩
    go_wp2_with fail
    refine (works20_any _).mono ?_
    rintro e w2 ⟨rfl, b2⟩
    go_wp2
    go_ret
    exact ⟨(ret_eq (by first | rfl | (simp <;> omega))), b1.trans (b2.mono b1.size)⟩
  rcases Nat.lt_or_ge 1000 b.length with hl | hlb
  · obtain ⟨ao, ka, rfl, _⟩ := id ha.view
    obtain ⟨bo, kb, rfl, _⟩ := id hb.view
    clear hv h hv' h' ha hb ca cb ea eb
    go_enter Try.func14, Try.ntmps14
    go_wp2_with fail
    refine (works20_any _).mono ?_
    rintro e w1 ⟨rfl, b1⟩
    go_wp2_with fail
    refine (works20_any _).mono ?_
    rintro e w2 ⟨rfl, b2⟩
    go_wp2
    go_ret
    exact ⟨(ret_eq (by first | rfl | (simp <;> omega))), b1.trans (b2.mono b1.size)⟩
  exact walkN W v u a b r ha hb ca cb hla hlb na nb ea eb

set_option maxRecDepth 100000 in
theorem lifted (os : Os) (started : os.Started) (H : Type) (enc : TypeId × Value → H) :
    ReturnsInHanded {} Try.checked os 14 .any (Rows.clusterSameSpec.pre6 enc Try.prog Try.f14 Rows.clusterSameRow.domain false) (Rows.clusterSameSpec.post enc Try.prog Try.f14 false true false false) := by
  refine law_frame_plain (C := Try.checked) (tb := 4) (by kernel_rfl) started (by kernel_rfl) Try.func14 (by kernel_rfl) (by kernel_rfl) Try.underlying4 rfl
    (by rw [Try.params14]; intro t ht; simp at ht; rcases ht with rfl | rfl <;> exact ⟨by kernel_rfl, of_decide_eq_true (by kernel_rfl)⟩)
    (by rw [Try.params14]; intro ds hd; match ds, hd with | [_, _, _], _ => rfl)
    (ChangeSpec.witness6 (enc := enc) (C := Try.checked) false ⟨#[], #[.slice none 0 0, .slice none 0 0, .int .i32 0], []⟩ 8 (by kernel_rfl) (by kernel_rfl) (by kernel_rfl) (by kernel_rfl)) ?_
  intro W base args ds before hval hA
  rw [Try.params14] at hA hval
  obtain ⟨v0, vs0, d0, ds0, p0, q0, hargs, rfl, rfl, h0, r0⟩ := trodAll_cons hA
  obtain ⟨v1, vs1, d1, ds1, p1, q1, rfl, rfl, rfl, h1, r1⟩ := trodAll_cons r0
  obtain ⟨v2, vs2, d2, ds2, p2, q2, rfl, rfl, rfl, h2, r2⟩ := trodAll_cons r1
  obtain ⟨rfl, rfl, rfl⟩ := trodAll_nil r2
  obtain rfl : args = #[v0, v1, v2] := by cases args; simp_all
  obtain ⟨x2, rfl, rfl, rfl, wx2⟩ := open_int Try.underlying21 (hval 2 21 v2 rfl rfl) h2
  exact walk W v0 (hval 0 29 v0 rfl rfl) h0 v1 (hval 1 29 v1 rfl rfl) h1 x2 wx2

theorem proved : Rows.ClusterSameSaid :=
  OpenClaim.holds_of_wide 14 Try.f14 rfl rfl rfl rfl rfl rfl rfl ⟨rfl, rfl, rfl, rfl, rfl⟩ rfl rfl rfl rfl rfl (by kernel_rfl) Try.func14 (by kernel_rfl)
    (of_decide_eq_true (by kernel_rfl)) (by unfold Func.isWrapper; first | (rw [if_pos (by decide +kernel)]; kernel_rfl) | (rw [if_neg (by decide +kernel)]; exact ⟨rfl, rfl⟩))
    (fun os started H enc _ => lifted os started H enc)
#print axioms proved

end Go.Proofs.Ytmfoldohmbaikaa.lawClusterSame
