/- works of layer 20. -/
import Derived.Test.YtmfoldohmbaikaaClusF
import Derived.Test.YtmfoldohmbaikaaReg
import Derived.Test.YtmfoldohmbaikaaScalarR
import Derived.Test.YtmfoldohmbaikaaFrame
namespace Go.Proofs.Ytmfoldohmbaikaa
open Go.RowKit Go.ChangeShapes Go.WideShapes
theorem fresh_past {k : IntKind} {w w1 : World} {g : Nat} {v : Value} {xs : List Int} (h : Held k w v xs) (hf : Fresh (g + 1) v) (hb : But g w.heap.size w w1) : Held k w1 v xs := by
  obtain ⟨ao, cap, rfl, hn, hc⟩ := h
  refine ⟨ao, cap, rfl, hn, fun i hi => ?_⟩
  obtain ⟨b, off, rfl, hlt, hcell⟩ := hc i hi
  have hg : g + 1 ≤ b := hf _ _ _ rfl
  refine ⟨b, off, rfl, by have := hb.size; omega, ?_⟩
  rw [World.cell?_of_block (hb.block b hlt (by omega))]
  exact hcell
theorem cl_new (w : World) : ∃ W g, g = w.heap.size ∧ W = w.alloc (.cells #[Value.int .i64 0, .int .i32 0, .int .i32 0, .int .i32 0, .int .i32 0, .int .i32 0, .int .i32 0, .int .i32 0, .int .i32 0, .int .i32 0, .int .i32 0, .int .i32 0, .int .i32 0, .int .i32 0, .int .i32 0, .int .i32 0, .int .i32 0] 77) ∧ ClAt W g [] ∧ Below w.heap.size w W ∧ W.heap.size = g + 1 :=
  ⟨_, _, rfl, rfl, Has.new w (clCells []) _, (Below.refl _ _).alloc (Nat.le_refl _) _, by simp⟩
set_option maxRecDepth 100000 in
set_option maxHeartbeats 1000000 in
theorem works20_any (w : World) : Calls Try.prog 47 #[] w (Yes w) := by
  have hof := cof_any _ [5, 6] (w.alloc (.cells [Value.int .i32 5, .int .i32 6].toArray 21)) (held_new .i32 w [.int .i32 5, .int .i32 6] 21 2 2 [5, 6] rfl rfl) (by decide)
  have HOF := Lib.hid hof
  clear hof
  go_enter Try.func47, Try.ntmps47
  go_wp2_with fail
  refine HOF.out.mono ?_
  rintro e w1 ⟨rfl, b1⟩
  rw [show ([5, 6] : List Int).take 16 = [5, 6] from rfl]
  have hb1 : Below w.heap.size w w1 := ((Below.refl _ _).alloc (Nat.le_refl _) _).trans (b1.mono (by simp))
  clear HOF b1
  go_wp2_with (refine wpList_store_has rfl 77 (.tmp 1) (.tmp 3) rfl w1.heap.size rfl 77 (clCells []) (clCells [5, 6]) 17 rfl (Has.new w1 _ _) info_cl rfl rfl (cl_cells_one _) ?_; intro w9 hr9 hb9)
  obtain ⟨g, hg⟩ : ∃ g, g = w1.heap.size := ⟨_, rfl⟩
  have hgb : w.heap.size ≤ g := by have := hb1.size; omega
  have hb9' : Below w.heap.size w w9 := (hb1.alloc hb1.size _).trans (hb9.below (by have := hb1.size; simp; omega) (by have := hb1.size; omega))
  rw [← hg] at hr9 ⊢
  have hr : ClAt w9 g [5, 6] := hr9
  have hne : clEq [5, 6, 7] [5, 6] = false := by decide
  have hneq := fun w => cl_neq [5, 6, 7] [5, 6] (by decide) (by decide) w
  rw [hne] at hneq
  clear hg hr9 hb9 hb1 hne
  obtain ⟨Erg, hErg⟩ : ∃ EE : Nat → Value → World → Prop, EE = fun jj xx ww => match jj with
      | 0 => xx = .int .i64 2
      | 1 => xx = .bool true
      | 2 => xx = .bool true
      | 3 => xx = .bool true
      | 4 => xx = .bool true
      | 5 => xx = .bool true
      | 6 => (fun x w => Held .i32 w x [5, 6, 7] ∧ Fresh (g + 1) x) xx ww
      | 7 => (fun x w => Held .i32 w x [5, 6, 7] ∧ Fresh (g + 1) x) xx ww
      | 8 => xx = .bool true
      | 9 => xx = .bool true
      | 10 => xx = .bool true
      | 11 => xx = .agg (clCells [5, 6, 7]).toArray
      | 12 => (fun x w => Held .i32 w x [5, 6] ∧ Fresh (g + 1) x) xx ww
      | 13 => xx = .agg (clCells [5, 6]).toArray
      | 14 => xx = .bool true
      | 15 => xx = .bool true
      | 16 => xx = .bool true
      | _ => True := ⟨_, rfl⟩
  have erg0 : ∀ xx ww, Erg 0 xx ww = (xx = .int .i64 2) := fun xx ww => congrFun (congrFun (congrFun hErg 0) xx) ww
  have erg1 : ∀ xx ww, Erg 1 xx ww = (xx = .bool true) := fun xx ww => congrFun (congrFun (congrFun hErg 1) xx) ww
  have erg2 : ∀ xx ww, Erg 2 xx ww = (xx = .bool true) := fun xx ww => congrFun (congrFun (congrFun hErg 2) xx) ww
  have erg3 : ∀ xx ww, Erg 3 xx ww = (xx = .bool true) := fun xx ww => congrFun (congrFun (congrFun hErg 3) xx) ww
  have erg4 : ∀ xx ww, Erg 4 xx ww = (xx = .bool true) := fun xx ww => congrFun (congrFun (congrFun hErg 4) xx) ww
  have erg5 : ∀ xx ww, Erg 5 xx ww = (xx = .bool true) := fun xx ww => congrFun (congrFun (congrFun hErg 5) xx) ww
  have erg6 : ∀ xx ww, Erg 6 xx ww = ((fun x w => Held .i32 w x [5, 6, 7] ∧ Fresh (g + 1) x) xx ww) := fun xx ww => congrFun (congrFun (congrFun hErg 6) xx) ww
  have erg7 : ∀ xx ww, Erg 7 xx ww = ((fun x w => Held .i32 w x [5, 6, 7] ∧ Fresh (g + 1) x) xx ww) := fun xx ww => congrFun (congrFun (congrFun hErg 7) xx) ww
  have erg8 : ∀ xx ww, Erg 8 xx ww = (xx = .bool true) := fun xx ww => congrFun (congrFun (congrFun hErg 8) xx) ww
  have erg9 : ∀ xx ww, Erg 9 xx ww = (xx = .bool true) := fun xx ww => congrFun (congrFun (congrFun hErg 9) xx) ww
  have erg10 : ∀ xx ww, Erg 10 xx ww = (xx = .bool true) := fun xx ww => congrFun (congrFun (congrFun hErg 10) xx) ww
  have erg11 : ∀ xx ww, Erg 11 xx ww = (xx = .agg (clCells [5, 6, 7]).toArray) := fun xx ww => congrFun (congrFun (congrFun hErg 11) xx) ww
  have erg12 : ∀ xx ww, Erg 12 xx ww = ((fun x w => Held .i32 w x [5, 6] ∧ Fresh (g + 1) x) xx ww) := fun xx ww => congrFun (congrFun (congrFun hErg 12) xx) ww
  have erg13 : ∀ xx ww, Erg 13 xx ww = (xx = .agg (clCells [5, 6]).toArray) := fun xx ww => congrFun (congrFun (congrFun hErg 13) xx) ww
  have erg14 : ∀ xx ww, Erg 14 xx ww = (xx = .bool true) := fun xx ww => congrFun (congrFun (congrFun hErg 14) xx) ww
  have erg15 : ∀ xx ww, Erg 15 xx ww = (xx = .bool true) := fun xx ww => congrFun (congrFun (congrFun hErg 15) xx) ww
  have erg16 : ∀ xx ww, Erg 16 xx ww = (xx = .bool true) := fun xx ww => congrFun (congrFun (congrFun hErg 16) xx) ww
  obtain ⟨Crg, hCrg⟩ : ∃ CC : Array Bool → World → Prop, CC = fun L w' => ClAt w' g (if Mix.one L 3 = 0 then [5, 6] else [5, 6, 7]) ∧ Below w.heap.size w w' := ⟨_, rfl⟩
  have krg : ∀ i L w, i ≠ 3 →  Crg L w → Crg (L.setIfInBounds i true) w := by
    intro i L w q3 h
    rw [hCrg] at h ⊢
    simp only [Mix.one_ne q3]; exact h
  obtain ⟨Xrg, hXrg⟩ : ∃ XX : World → World → Prop, XX = fun w w1 => But g w.heap.size w w1 := ⟨_, rfl⟩
  have xrg : ∀ w, Xrg w w := fun w => by rw [hXrg]; exact But.refl _ _ _
  have strg : ∀ j x w w1, Xrg w w1 → Erg j x w → Erg j x w1 := by
    intro j x w w1 hx h
    rw [hXrg] at hx
    match j with
    | 0 => rw [erg0] at h ⊢; exact h
    | 1 => rw [erg1] at h ⊢; exact h
    | 2 => rw [erg2] at h ⊢; exact h
    | 3 => rw [erg3] at h ⊢; exact h
    | 4 => rw [erg4] at h ⊢; exact h
    | 5 => rw [erg5] at h ⊢; exact h
    | 6 => rw [erg6] at h ⊢; (exact ⟨fresh_past h.1 h.2 hx, h.2⟩)
    | 7 => rw [erg7] at h ⊢; (exact ⟨fresh_past h.1 h.2 hx, h.2⟩)
    | 8 => rw [erg8] at h ⊢; exact h
    | 9 => rw [erg9] at h ⊢; exact h
    | 10 => rw [erg10] at h ⊢; exact h
    | 11 => rw [erg11] at h ⊢; exact h
    | 12 => rw [erg12] at h ⊢; (exact ⟨fresh_past h.1 h.2 hx, h.2⟩)
    | 13 => rw [erg13] at h ⊢; exact h
    | 14 => rw [erg14] at h ⊢; exact h
    | 15 => rw [erg15] at h ⊢; exact h
    | 16 => rw [erg16] at h ⊢; exact h
    | j + 17 => rw [hErg]; trivial
  have crg : Crg (Array.replicate 17 false) w9.drew := by rw [hCrg]; exact ⟨hr, ⟨hb9'.os, hb9'.tape, hb9'.output, hb9'.size, hb9'.block⟩⟩
  have brg : ∀ L w w1, Crg L w → Below w.heap.size w w1 → Crg L w1 := by
    intro L w w1 h hb
    rw [hCrg] at h ⊢
    exact ⟨Has.below h.1 hb h.1.lt, h.2.trans (hb.mono h.2.size)⟩
  have xbrg : ∀ w w1, Below w.heap.size w w1 → Xrg w w1 := by
    intro w w1 hb
    rw [hXrg]
    exact But.ofBelow hb
  have Hrgb := Lib.hid brg
  have Hrgxb := Lib.hid xbrg
  clear brg xbrg
  clear hErg
  have Hrgk := Lib.hid krg
  have Hrgx := Lib.hid xrg
  have Hrgst := Lib.hid strg
  have Hrgc := Lib.hid crg
  have HrghC := Lib.hid hCrg
  have HrghX := Lib.hid hXrg
  have Hrge0 := Lib.hid erg0
  have Hrge1 := Lib.hid erg1
  have Hrge2 := Lib.hid erg2
  have Hrge3 := Lib.hid erg3
  have Hrge4 := Lib.hid erg4
  have Hrge5 := Lib.hid erg5
  have Hrge6 := Lib.hid erg6
  have Hrge7 := Lib.hid erg7
  have Hrge8 := Lib.hid erg8
  have Hrge9 := Lib.hid erg9
  have Hrge10 := Lib.hid erg10
  have Hrge11 := Lib.hid erg11
  have Hrge12 := Lib.hid erg12
  have Hrge13 := Lib.hid erg13
  have Hrge14 := Lib.hid erg14
  have Hrge15 := Lib.hid erg15
  have Hrge16 := Lib.hid erg16
  clear krg xrg strg crg hCrg hXrg erg0 erg1 erg2 erg3 erg4 erg5 erg6 erg7 erg8 erg9 erg10 erg11 erg12 erg13 erg14 erg15 erg16
  go_wp2_with fail
  refine Reg.regionF Erg Crg Xrg Hrgst.out (by kernel_rfl) (by kernel_rfl) (by kernel_rfl) Hrgc.out (fun Frg hFrg => ?_)
  simp only [Reg.frame, Reg.dsts, List.map_cons, List.map_nil, Mix.put_lit, Reg.put_none, List.set_cons_succ, List.set_cons_zero, Array.getD, Nat.zero_add, Nat.reduceAdd] at hFrg
  refine ⟨?_, ?_⟩
  · refine ⟨?_, ?_, ?_, ?_, ?_, ?_, ?_, ?_, ?_, ?_, ?_, ?_, ?_, ?_, ?_, ?_, ?_, trivial⟩
    · intro Lq wq xq hh
      simp only [hFrg]
      refine .inl ⟨rfl, ?_⟩
      unfold Reg.upon
      have hc : Crg Lq wq := hh.cls
      rw [HrghC.out] at hc
      rw [Mix.one_un (hh.notYet 3 (by kernel_rfl)), if_pos rfl] at hc
      go_simp
      refine (clen_any g [5, 6] _ hc.1).mono ?_
      rintro e w2 ⟨rfl, rfl⟩
      exact ⟨_, rfl, Hrgk.out 0 Lq wq (by decide)  hh.cls, (by rw [Hrge0.out]; try rfl), Hrgx.out _⟩
    · intro Lq wq xq hh
      have d0 : Erg 0 (xq 0) wq := hh.val 0 (by kernel_rfl) (by kernel_rfl)
      rw [Hrge0.out] at d0
      simp only [hFrg, d0]
      clear d0
      refine .inl ⟨rfl, ?_⟩
      unfold Reg.upon
      have hk := Hrgk.out 1 Lq wq (by decide)  hh.cls
      have hx := Hrgx.out wq
      have he : Erg 1 (.bool true) wq := by rw [Hrge1.out]
      have HK := Lib.hid (And.intro hk (And.intro he hx))
      clear hk hx he
      go_simp
      exact HK.out
    · intro Lq wq xq hh
      have d1 : Erg 1 (xq 1) wq := hh.val 1 (by kernel_rfl) (by kernel_rfl)
      rw [Hrge1.out] at d1
      simp only [hFrg, d1]
      clear d1
      refine .inl ⟨rfl, ?_⟩
      unfold Reg.upon
      have hk := Hrgk.out 2 Lq wq (by decide)  hh.cls
      have hx := Hrgx.out wq
      have he : Erg 2 (.bool true) wq := by rw [Hrge2.out]
      have HK := Lib.hid (And.intro hk (And.intro he hx))
      clear hk hx he
      go_simp
      exact HK.out
    · intro Lq wq xq hh
      have d2 : Erg 2 (xq 2) wq := hh.val 2 (by kernel_rfl) (by kernel_rfl)
      rw [Hrge2.out] at d2
      simp only [hFrg, d2]
      clear d2
      refine .inl ⟨rfl, ?_⟩
      unfold Reg.upon
      have hc : Crg Lq wq := hh.cls
      rw [HrghC.out] at hc
      rw [hh.un, if_pos rfl] at hc
      go_simp
      refine (cadd_any g [5, 6] 7 _ hc.1 (by decide)).mono ?_
      rintro e w2 ⟨rfl, h1, h2⟩
      refine ⟨_, rfl, ?_, (by rw [Hrge3.out]), (by rw [HrghX.out]; exact h2)⟩
      rw [HrghC.out]
      dsimp only
      rw [Mix.one_set (by rw [hh.size]; decide), if_neg (by decide)]
      exact ⟨h1, hc.2.trans (h2.below hc.2.size hgb)⟩
    · intro Lq wq xq hh
      have d2 : Erg 2 (xq 2) wq := hh.val 2 (by kernel_rfl) (by kernel_rfl)
      rw [Hrge2.out] at d2
      have d3 : Erg 3 (xq 3) wq := hh.val 3 (by kernel_rfl) (by kernel_rfl)
      rw [Hrge3.out] at d3
      simp only [hFrg, d2, d3]
      clear d2 d3
      refine .inl ⟨rfl, ?_⟩
      unfold Reg.upon
      have hk := Hrgk.out 4 Lq wq (by decide)  hh.cls
      have hx := Hrgx.out wq
      have he : Erg 4 (.bool true) wq := by rw [Hrge4.out]
      have HK := Lib.hid (And.intro hk (And.intro he hx))
      clear hk hx he
      go_simp
      exact HK.out
    · intro Lq wq xq hh
      have d4 : Erg 4 (xq 4) wq := hh.val 4 (by kernel_rfl) (by kernel_rfl)
      rw [Hrge4.out] at d4
      simp only [hFrg, d4]
      clear d4
      refine .inl ⟨rfl, ?_⟩
      unfold Reg.upon
      have hk := Hrgk.out 5 Lq wq (by decide)  hh.cls
      have hx := Hrgx.out wq
      have he : Erg 5 (.bool true) wq := by rw [Hrge5.out]
      have HK := Lib.hid (And.intro hk (And.intro he hx))
      clear hk hx he
      go_simp
      exact HK.out
    · intro Lq wq xq hh
      have d5 : Erg 5 (xq 5) wq := hh.val 5 (by kernel_rfl) (by kernel_rfl)
      rw [Hrge5.out] at d5
      simp only [hFrg, d5]
      clear d5
      refine .inl ⟨rfl, ?_⟩
      unfold Reg.upon
      have hc : Crg Lq wq := hh.cls
      rw [HrghC.out] at hc
      rw [hh.isDone 3 (by kernel_rfl), if_neg (by decide)] at hc
      go_simp
      refine (ctext_any g [5, 6, 7] _ hc.1 (by decide)).mono ?_
      rintro e w2 ⟨v2, rfl, h1, hb⟩
      exact ⟨_, rfl, Hrgk.out 6 Lq w2 (by decide) (Hrgb.out Lq wq w2 hh.cls hb), (by rw [Hrge6.out]; exact ⟨held_of_owns h1, (Fresh.ofOwn h1).mono hc.1.lt⟩), Hrgxb.out wq w2 hb⟩
    · intro Lq wq xq hh
      have d5 : Erg 5 (xq 5) wq := hh.val 5 (by kernel_rfl) (by kernel_rfl)
      rw [Hrge5.out] at d5
      simp only [hFrg, d5]
      clear d5
      refine .inl ⟨rfl, ?_⟩
      unfold Reg.upon
      have hc : Crg Lq wq := hh.cls
      rw [HrghC.out] at hc
      go_simp
      have hb := (Below.refl wq.heap.size wq).alloc (Nat.le_refl _) (.cells [Value.int .i32 5, Value.int .i32 6, Value.int .i32 7].toArray 21)
      refine ⟨Hrgk.out 7 Lq _ (by decide)  (Hrgb.out Lq wq _ hh.cls hb), ?_, Hrgxb.out wq _ hb⟩
      rw [Hrge7.out]
      exact ⟨held_new .i32 wq [Value.int .i32 5, Value.int .i32 6, Value.int .i32 7] 21 3 3 [5, 6, 7] rfl rfl, Fresh.at_ _ _ _ _ _ hc.1.lt⟩
    · intro Lq wq xq hh
      have d5 : Erg 5 (xq 5) wq := hh.val 5 (by kernel_rfl) (by kernel_rfl)
      rw [Hrge5.out] at d5
      have d6 : Erg 6 (xq 6) wq := hh.val 6 (by kernel_rfl) (by kernel_rfl)
      rw [Hrge6.out] at d6
      have d7 : Erg 7 (xq 7) wq := hh.val 7 (by kernel_rfl) (by kernel_rfl)
      rw [Hrge7.out] at d7
      simp only [hFrg, d5]
      clear d5
      refine .inl ⟨rfl, ?_⟩
      unfold Reg.upon
      have hc : Crg Lq wq := hh.cls
      rw [HrghC.out] at hc
      go_simp
      refine (same_any _ _ [5, 6, 7] [5, 6, 7] _ d6.1 d7.1 (by decide)).mono ?_
      rintro e w2 ⟨rfl, hb⟩
      exact ⟨_, rfl, Hrgk.out 8 Lq w2 (by decide)  (Hrgb.out Lq wq w2 hh.cls hb), (by rw [Hrge8.out]; try rfl), Hrgxb.out wq w2 hb⟩
    · intro Lq wq xq hh
      have d5 : Erg 5 (xq 5) wq := hh.val 5 (by kernel_rfl) (by kernel_rfl)
      rw [Hrge5.out] at d5
      have d8 : Erg 8 (xq 8) wq := hh.val 8 (by kernel_rfl) (by kernel_rfl)
      rw [Hrge8.out] at d8
      simp only [hFrg, d5, d8]
      clear d5 d8
      refine .inl ⟨rfl, ?_⟩
      unfold Reg.upon
      have hk := Hrgk.out 9 Lq wq (by decide)  hh.cls
      have hx := Hrgx.out wq
      have he : Erg 9 (.bool true) wq := by rw [Hrge9.out]
      have HK := Lib.hid (And.intro hk (And.intro he hx))
      clear hk hx he
      go_simp
      exact HK.out
    · intro Lq wq xq hh
      have d9 : Erg 9 (xq 9) wq := hh.val 9 (by kernel_rfl) (by kernel_rfl)
      rw [Hrge9.out] at d9
      simp only [hFrg, d9]
      clear d9
      refine .inl ⟨rfl, ?_⟩
      unfold Reg.upon
      have hk := Hrgk.out 10 Lq wq (by decide)  hh.cls
      have hx := Hrgx.out wq
      have he : Erg 10 (.bool true) wq := by rw [Hrge10.out]
      have HK := Lib.hid (And.intro hk (And.intro he hx))
      clear hk hx he
      go_simp
      exact HK.out
    · intro Lq wq xq hh
      have d10 : Erg 10 (xq 10) wq := hh.val 10 (by kernel_rfl) (by kernel_rfl)
      rw [Hrge10.out] at d10
      simp only [hFrg, d10]
      clear d10
      refine .inl ⟨rfl, ?_⟩
      unfold Reg.upon
      have hc : Crg Lq wq := hh.cls
      rw [HrghC.out] at hc
      rw [hh.isDone 3 (by kernel_rfl), if_neg (by decide)] at hc
      rw [exec_load_has rfl rfl hc.1 Try.underlying77 rfl info_cl rfl]
      exact ⟨Hrgk.out 11 Lq wq (by decide)  hh.cls, (by rw [Hrge11.out]; try rfl), Hrgx.out _⟩
    · intro Lq wq xq hh
      have d10 : Erg 10 (xq 10) wq := hh.val 10 (by kernel_rfl) (by kernel_rfl)
      rw [Hrge10.out] at d10
      simp only [hFrg, d10]
      clear d10
      refine .inl ⟨rfl, ?_⟩
      unfold Reg.upon
      have hc : Crg Lq wq := hh.cls
      rw [HrghC.out] at hc
      go_simp
      have hb := (Below.refl wq.heap.size wq).alloc (Nat.le_refl _) (.cells [Value.int .i32 5, Value.int .i32 6].toArray 21)
      refine ⟨Hrgk.out 12 Lq _ (by decide)  (Hrgb.out Lq wq _ hh.cls hb), ?_, Hrgxb.out wq _ hb⟩
      rw [Hrge12.out]
      exact ⟨held_new .i32 wq [Value.int .i32 5, Value.int .i32 6] 21 2 2 [5, 6] rfl rfl, Fresh.at_ _ _ _ _ _ hc.1.lt⟩
    · intro Lq wq xq hh
      have d10 : Erg 10 (xq 10) wq := hh.val 10 (by kernel_rfl) (by kernel_rfl)
      rw [Hrge10.out] at d10
      have d12 : Erg 12 (xq 12) wq := hh.val 12 (by kernel_rfl) (by kernel_rfl)
      rw [Hrge12.out] at d12
      simp only [hFrg, d10]
      clear d10
      refine .inl ⟨rfl, ?_⟩
      unfold Reg.upon
      have hc : Crg Lq wq := hh.cls
      rw [HrghC.out] at hc
      go_simp
      refine (cof_any _ [5, 6] _ d12.1 (by decide)).mono ?_
      rintro e w2 ⟨rfl, hb⟩
      exact ⟨_, rfl, Hrgk.out 13 Lq w2 (by decide)  (Hrgb.out Lq wq w2 hh.cls hb), (by rw [Hrge13.out]; try rfl), Hrgxb.out wq w2 hb⟩
    · intro Lq wq xq hh
      have d10 : Erg 10 (xq 10) wq := hh.val 10 (by kernel_rfl) (by kernel_rfl)
      rw [Hrge10.out] at d10
      have d11 : Erg 11 (xq 11) wq := hh.val 11 (by kernel_rfl) (by kernel_rfl)
      rw [Hrge11.out] at d11
      have d13 : Erg 13 (xq 13) wq := hh.val 13 (by kernel_rfl) (by kernel_rfl)
      rw [Hrge13.out] at d13
      simp only [hFrg, d10, d11, d13]
      clear d10 d11 d13
      refine .inl ⟨rfl, ?_⟩
      unfold Reg.upon
      have hk := Hrgk.out 14 Lq wq (by decide)  hh.cls
      have hx := Hrgx.out wq
      have he : Erg 14 (.bool true) wq := by rw [Hrge14.out]
      have HK := Lib.hid (And.intro hk (And.intro he hx))
      clear hk hx he
      go_simp
      exact HK.out
    · intro Lq wq xq hh
      have d10 : Erg 10 (xq 10) wq := hh.val 10 (by kernel_rfl) (by kernel_rfl)
      rw [Hrge10.out] at d10
      have d14 : Erg 14 (xq 14) wq := hh.val 14 (by kernel_rfl) (by kernel_rfl)
      rw [Hrge14.out] at d14
      simp only [hFrg, d10, d14]
      clear d10 d14
      refine .inl ⟨rfl, ?_⟩
      unfold Reg.upon
      have hk := Hrgk.out 15 Lq wq (by decide)  hh.cls
      have hx := Hrgx.out wq
      have he : Erg 15 (.bool true) wq := by rw [Hrge15.out]
      have HK := Lib.hid (And.intro hk (And.intro he hx))
      clear hk hx he
      go_simp
      exact HK.out
    · intro Lq wq xq hh
      have d15 : Erg 15 (xq 15) wq := hh.val 15 (by kernel_rfl) (by kernel_rfl)
      rw [Hrge15.out] at d15
      simp only [hFrg, d15]
      clear d15
      refine .inl ⟨rfl, ?_⟩
      unfold Reg.upon
      have hk := Hrgk.out 16 Lq wq (by decide)  hh.cls
      have hx := Hrgx.out wq
      have he : Erg 16 (.bool true) wq := by rw [Hrge16.out]
      have HK := Lib.hid (And.intro hk (And.intro he hx))
      clear hk hx he
      go_simp
      exact HK.out
  intro xq wrg hcrg hvrg
  rw [HrghC.out] at hcrg
  simp only [hFrg]
  have vrg16 : Erg 16 (xq 16) wrg := hvrg 16 (by decide)
  rw [Hrge16.out] at vrg16
  rw [vrg16]
  clear hvrg hFrg Hrgk Hrgx Hrgst Hrgc HrghC HrghX Hrgb Hrgxb Hrge0 Hrge1 Hrge2 Hrge3 Hrge4 Hrge5 Hrge6 Hrge7 Hrge8 Hrge9 Hrge10 Hrge11 Hrge12 Hrge13 Hrge14 Hrge15 Hrge16
  have hb := hcrg.2
  clear hcrg
  go_wp2
  go_ret
  exact ⟨(ret_eq (by first | rfl | (simp <;> omega))), hb⟩
end Go.Proofs.Ytmfoldohmbaikaa
