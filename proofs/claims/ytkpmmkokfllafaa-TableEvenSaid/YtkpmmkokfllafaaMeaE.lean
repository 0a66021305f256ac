/- measure.Head (21). -/
import Derived.Test.YtkpmmkokfllafaaMg7
import Derived.Test.YtkpmmkokfllafaaMg6
import Derived.Test.YtkpmmkokfllafaaMg1
namespace Go.Proofs.Ytkpmmkokfllafaa
open Go.RowKit Go.ChangeShapes Go.WideShapes
attribute [local go_sem] Oper.semAt_some
/-- How wide the first k clusters are. -/
def cumW (xs : List Int) (k : Nat) : Int := sumW ((cluA xs).take k)
theorem cluA_n (xs : List Int) : (cluA xs).length = (clS xs).length := by unfold cluA; rw [List.length_map]
theorem cumW_zero (xs : List Int) : cumW xs 0 = 0 := by unfold cumW sumW; simp
theorem cumW_succ (xs : List Int) (k : Nat) (h : k < (clS xs).length) : cumW xs (k + 1) = cumW xs k + wdC (sliceL xs ((clS xs).getD k (0, 0))) := by
  unfold cumW
  rw [cluA_take xs k h, sumW_snoc]
theorem cumW_all (xs : List Int) : cumW xs (clS xs).length = colsC xs := by
  unfold cumW colsC
  rw [← cluA_n, List.take_length]
theorem cumW_bd (xs : List Int) (k : Nat) : 0 ≤ cumW xs k ∧ cumW xs k ≤ 2 * (xs.length : Int) := by
  have h1 := sumW_bd ((cluA xs).take k)
  have h2 := cluA_n xs
  have h3 := clS_len xs
  have h4 : ((cluA xs).take k).length ≤ (cluA xs).length := by rw [List.length_take]; omega
  unfold cumW
  omega
theorem cumW_step (xs : List Int) (k : Nat) (h : k < (clS xs).length) : cumW xs k ≤ cumW xs (k + 1) := by
  rw [cumW_succ xs k h]
  have := wdC_bd (sliceL xs ((clS xs).getD k (0, 0)))
  omega
/-- The longest beginning that has room. -/
def HeadOK (xs : List Int) (W n u : Int) : Prop := (W < 0 ∧ n = 0 ∧ u = 0) ∨ (0 ≤ W ∧ ∃ k, k ≤ (clS xs).length ∧ n = endC xs k ∧ u = cumW xs k ∧ u ≤ W ∧ (k < (clS xs).length → W < cumW xs (k + 1)))
def GivesHead (xs : List Int) (W : Int) (w : World) (e : Ending) (w' : World) : Prop := ∃ n u, e = .returned (.tuple #[.int .i64 n, .int .i64 u]) ∧ HeadOK xs W n u ∧ Below w.heap.size w w'
def HedI (w : World) (lo : Nat) (xs : List Int) (Wd : Int) (hi : Nat) (pre : List Cu) (A : World) : Prop := lo ≤ hi ∧ Has A w.heap.size [.int .i64 Wd] 3 ∧ Has A (w.heap.size + 1) [.int .i64 0] 3 ∧ Has A (w.heap.size + 2) [.int .i64 (cumW xs pre.length)] 3 ∧ Below w.heap.size w A ∧ hi ≤ A.heap.size ∧ pre.length ≤ 1000000 ∧ cumW xs pre.length ≤ Wd
def HedX (w : World) (lo : Nat) (xs : List Int) (Wd : Int) (hi : Nat) (c : Code) (pre : List Cu) (A : World) : Prop := c = .ret ∧ lo ≤ hi ∧ ∃ n u, Has A (w.heap.size + 1) [.int .i64 n] 3 ∧ Has A (w.heap.size + 2) [.int .i64 u] 3 ∧ HeadOK xs Wd n u ∧ Below w.heap.size w A
set_option maxRecDepth 100000 in
set_option maxHeartbeats 3000000 in
theorem mhead_any (v : Value) (xs : List Int) (Wd : Int) (w : World) (hx : Held .i32 w v xs) (hn : xs.length ≤ 1000000) (hW : Wd ≤ 9223372036854775807) : Calls Try.prog 41 #[v, .int .i64 Wd] w (GivesHead xs Wd w) := by
  obtain ⟨ao, ca, rfl⟩ := hx.len
  refine (callsIn_wide (n := 9)).1 ?_
  have b1 : Below w.heap.size w (w.alloc (.cells #[.int .i64 Wd] 3)) := (Below.refl _ _).alloc (Nat.le_refl _) _
  have b2 : Below (w.heap.size + 1) (w.alloc (.cells #[.int .i64 Wd] 3)) ((w.alloc (.cells #[.int .i64 Wd] 3)).alloc (.cells #[.int .i64 0] 3)) := (Below.refl _ _).alloc (by simp) _
  have b3 : Below (w.heap.size + 2) ((w.alloc (.cells #[.int .i64 Wd] 3)).alloc (.cells #[.int .i64 0] 3)) (((w.alloc (.cells #[.int .i64 Wd] 3)).alloc (.cells #[.int .i64 0] 3)).alloc (.cells #[.int .i64 0] 3)) := (Below.refl _ _).alloc (by simp) _
  have n1 := Has.new w [.int .i64 Wd] 3
  have n2 := Has.new (w.alloc (.cells #[.int .i64 Wd] 3)) [.int .i64 0] 3
  have n3 := Has.new ((w.alloc (.cells #[.int .i64 Wd] 3)).alloc (.cells #[.int .i64 0] 3)) [.int .i64 0] 3
  simp only [World.size_alloc] at n2 n3
  have n1 := (n1.below b2 (by omega)).below b3 (by omega)
  have n2 := n2.below b3 (by omega)
  have bb : Below w.heap.size w (((w.alloc (.cells #[.int .i64 Wd] 3)).alloc (.cells #[.int .i64 0] 3)).alloc (.cells #[.int .i64 0] 3)) := (b1.trans (b2.mono (by omega))).trans (b3.mono (by omega))
  have HC := Lib.hid (gall_any _ xs _ (hx.below bb) hn)
  have HB := Lib.hid bb
  have HN := Lib.hid (And.intro n1 (And.intro n2 n3))
  have k1 := n1.cell 0 _ rfl
  have HS3 : (((w.alloc (.cells #[.int .i64 Wd] 3)).alloc (.cells #[.int .i64 0] 3)).alloc (.cells #[.int .i64 0] 3)).heap.size = w.heap.size + 3 := by simp
  clear hx b1 b2 b3 bb
  by_cases hw0 : Wd < 0
  · have k2 := n2.cell 0 _ rfl
    have k3 := n3.cell 0 _ rfl
    have f2 := n2.free 0
    have f3 := n3.free 0
    have hdec : decide (Wd < 0) = true := by simpa using hw0
    have HW0 := Lib.hid hw0
    clear hw0 n1 n2 n3
    refine callsIn_of_wp_marks Try.func41 rfl trivial ?_ rfl
    simp only [Try.ntmps41, List.size_toArray, List.length_cons, List.length_nil, Nat.reduceAdd, Nat.reduceSub, Array.replicate_succ, Array.replicate_zero, List.push_toArray, List.append_toArray, List.nil_append, List.cons_append]
    gi_wp2
    exact ⟨_, by simp [results, Try.results41, go_sem, k2, k3]; try rfl, 0, 0, rfl, .inl ⟨HW0.out, rfl, rfl⟩, HB.out⟩
  · have hdec : decide (Wd < 0) = false := by simpa using hw0
    have HW0 := Lib.hid (show 0 ≤ Wd from by omega)
    clear hw0 n1 n2 n3
    refine callsIn_of_wp_marks Try.func41 rfl trivial ?_ rfl
    simp only [Try.ntmps41, List.size_toArray, List.length_cons, List.length_nil, Nat.reduceAdd, Nat.reduceSub, Array.replicate_succ, Array.replicate_zero, List.push_toArray, List.append_toArray, List.nil_append, List.cons_append]
    gi_wp2_with fail
    first | refine ⟨trivial, (fun h => absurd h (by decide)), (callsIn_wide.2 (HC.out)).mono ?_⟩ | refine ⟨trivial, (callsIn_wide.2 (HC.out)).mono ?_⟩
    rintro e w1 ⟨B, vk, rfl, hB, hk, b1, hBl⟩
    have hbs := b1.size
    rw [HS3] at hbs
    have HX := Lib.hid (show Has w1 w.heap.size [.int .i64 Wd] 3 ∧ Has w1 (w.heap.size + 1) [.int .i64 0] 3 ∧ Has w1 (w.heap.size + 2) [.int .i64 0] 3 from ⟨HN.out.1.below b1 HN.out.1.lt, HN.out.2.1.below b1 HN.out.2.1.lt, HN.out.2.2.below b1 HN.out.2.2.lt⟩)
    have HWB := Lib.hid (HB.out.trans (b1.mono HB.out.size))
    have HLT := Lib.hid hbs
    have h1 : 1 ≤ 9 := by decide
    clear HN HB HC b1 hbs hBl k1
    gi_wp2_with fail
    refine wpIn_rangeO rfl h1 (gf := 32) (lb := #[.pointer (some ⟨B, 0, none⟩)]) rfl trivial (enters_of Try.func32 (by kernel_rfl) rfl) (gall1_in B vk xs w1 hB hk hn _ (fun b => w.heap.size ≤ b ∧ b < w.heap.size + 3)) (Below.refl _ _) (fun _ => rfl) (fun b e => by have := HLT.out; omega)
      (HedI w (w1.heap.size + 2) xs Wd) (HedX w (w1.heap.size + 2) xs Wd) ?hI ?hIx ?h0 (fun x => { tmps := #[.slice ao xs.length ca, .int .i64 Wd, undef, .pointer (some ⟨w.heap.size, 0, none⟩), .pointer (some ⟨w.heap.size + 1, 0, none⟩), .pointer (some ⟨w.heap.size + 2, 0, none⟩), .int .i64 (x.p.1 : Int), x.v, undef, .int .i64 Wd, .bool false, .slice ao xs.length ca, .func (.func 32) #[] #[.pointer (some ⟨B, 0, none⟩)], .int .i64 (x.p.1 : Int), x.v, undef, undef, undef, undef, undef, undef, undef, undef, undef, undef, undef, undef, undef, undef, undef], defers := [] }) ?assign ?body ?done ?stop
    case hI =>
      rintro hi pre A A' ⟨hlo, h1, h2, h3, h4, h5, h6, h7⟩ hu
      exact ⟨hlo, hu.keep.has h1 (fun e => by have := HLT.out; omega), hu.keep.has h2 (fun e => by have := HLT.out; omega), hu.keep.has h3 (fun e => by have := HLT.out; omega), h4.upd hu h4.size (fun b e => by have := HLT.out; omega), Nat.le_trans h5 hu.size, h6, h7⟩
    case hIx =>
      rintro hi c pre A A' ⟨hc, hlo, n, u, h1, h2, h3, h4⟩ hu
      exact ⟨hc, hlo, n, u, hu.keep.has h1 (fun e => by have := HLT.out; omega), hu.keep.has h2 (fun e => by have := HLT.out; omega), h3, h4.upd hu h4.size (fun b e => by have := HLT.out; omega)⟩
    case h0 =>
      intro hi W1 hb h1 h2
      refine ⟨h1, HX.out.1.below hb HX.out.1.lt, HX.out.2.1.below hb HX.out.2.1.lt, ?_, HWB.out.trans (hb.mono HWB.out.size), h2, Nat.zero_le _, by rw [List.length_nil, cumW_zero]; exact HW0.out⟩
      rw [List.length_nil, cumW_zero]
      exact HX.out.2.2.below hb HX.out.2.2.lt
    case assign =>
      intro l x W K hK
      unfold encCu
      gi_wp2
      exact hK
    case stop =>
      rintro hi c pre W _ ⟨rfl, hlo, n, u, h1, h2, h3, h4⟩ hK
      have hu := upd_putObj (S := fun b => b = w1.heap.size) W w1.heap.size (.deferred none) rfl
      have q1 := (hu.keep.has h1 (fun e => by have := HLT.out; omega)).cell 0 _ rfl
      have q2 := (hu.keep.has h2 (fun e => by have := HLT.out; omega)).cell 0 _ rfl
      have HE := Lib.hid (h4.upd hu h4.size (fun b e => by have := HLT.out; omega))
      have HF := Lib.hid h3
      clear h1 h2 h3 h4
      gi_wp2
      refine ⟨by simp, .inl ⟨_, _, rfl, run_takeDeferred hK, ?_⟩⟩
      exact ⟨_, by simp [results, Try.results41, go_sem, q1, q2]; try rfl, n, u, rfl, HF.out, HE.out⟩
    case done =>
      rintro hi ys W hS ⟨hlo, h1, h2, h3, h4, h5, h6, h7⟩ hK
      have hyl : ys.length = (clS xs).length := by rw [← hS, List.length_map]
      rw [hyl] at h3 h7
      have HF := Lib.hid (show HeadOK xs Wd (xs.length : Int) (cumW xs (clS xs).length) from .inr ⟨HW0.out, _, Nat.le_refl _, by rw [endC_last], rfl, h7, fun h => absurd h (Nat.lt_irrefl _)⟩)
      have HH2 := Lib.hid h2
      have HH3 := Lib.hid h3
      have HL := Lib.hid h4
      obtain ⟨u, hu⟩ : ∃ u, u = cumW xs (clS xs).length := ⟨_, rfl⟩
      rw [← hu] at HH3 HF
      have hsz := h2.lt
      have hsz3 := h3.lt
      clear h1 h2 h3 h4 hyl h7 hu
      gi_wp2
      obtain ⟨Erg, hErg⟩ : ∃ EE : Nat → Value → World → Prop, EE = fun jj xx ww => match jj with
          | 0 => xx = .slice ao xs.length ca
          | 1 => xx = .int .i64 (xs.length : Int)
          | 2 => xx = .int .i64 u
          | 3 => xx = undef
          | 4 => xx = undef
          | _ => True := ⟨_, rfl⟩
      have erg0 : ∀ xx ww, Erg 0 xx ww = (xx = .slice ao xs.length ca) := fun xx ww => congrFun (congrFun (congrFun hErg 0) xx) ww
      have erg1 : ∀ xx ww, Erg 1 xx ww = (xx = .int .i64 (xs.length : Int)) := fun xx ww => congrFun (congrFun (congrFun hErg 1) xx) ww
      have erg2 : ∀ xx ww, Erg 2 xx ww = (xx = .int .i64 u) := fun xx ww => congrFun (congrFun (congrFun hErg 2) xx) ww
      have erg3 : ∀ xx ww, Erg 3 xx ww = (xx = undef) := fun xx ww => congrFun (congrFun (congrFun hErg 3) xx) ww
      have erg4 : ∀ xx ww, Erg 4 xx ww = (xx = undef) := fun xx ww => congrFun (congrFun (congrFun hErg 4) xx) ww
      obtain ⟨Crg, hCrg⟩ : ∃ CC : Array Bool → World → Prop, CC = fun L8 w' => (Mix.one L8 3 = 0 → Has w' (w.heap.size + 1) [.int .i64 0] 3) ∧ (Mix.one L8 3 = 1 → Has w' (w.heap.size + 1) [.int .i64 (xs.length : Int)] 3) ∧ Has w' (w.heap.size + 2) [.int .i64 u] 3 ∧ Upd (fun b => b = w.heap.size + 1 ∨ b = w.heap.size + 2) W w' := ⟨_, rfl⟩
      have krg : ∀ i L w, i ≠ 3 → i ≠ 4 →  Crg L w → Crg (L.setIfInBounds i true) w := by
        intro i L w q3 q4 h
        rw [hCrg] at h ⊢
        simp only [Mix.one_ne q3, Mix.one_ne q4]; exact h
      obtain ⟨Xrg, hXrg⟩ : ∃ XX : World → World → Prop, XX = fun x y => Upd (fun b => b = w.heap.size + 1 ∨ b = w.heap.size + 2) x y := ⟨_, rfl⟩
      have xrg : ∀ w, Xrg w w := fun w => by rw [hXrg]; exact Upd.refl _ _
      have strg : ∀ j x w w1, Xrg w w1 → Erg j x w → Erg j x w1 := by
        intro j x w w1 hx h
        rw [hXrg] at hx
        match j with
        | 0 => rw [erg0] at h ⊢; exact h
        | 1 => rw [erg1] at h ⊢; exact h
        | 2 => rw [erg2] at h ⊢; exact h
        | 3 => rw [erg3] at h ⊢; exact h
        | 4 => rw [erg4] at h ⊢; exact h
        | j + 5 => rw [hErg]; trivial
      have crg : Crg (Array.replicate 5 false) W.drew := by rw [hCrg]; exact ⟨fun _ => HH2.out, fun e => absurd e (by decide), HH3.out, (Upd.refl _ _).drew⟩
      have brg : ∀ L w w1, Crg L w → Below w.heap.size w w1 → Crg L w1 := by
        intro L w w1 h hb
        rw [hCrg] at h ⊢
        (obtain ⟨q1, q2, q3, q4⟩ := h; exact ⟨fun e => (q1 e).below hb (q1 e).lt, fun e => (q2 e).below hb (q2 e).lt, q3.below hb q3.lt, q4.trans (.ofBelow hb)⟩)
      have xbrg : ∀ w w1, Below w.heap.size w w1 → Xrg w w1 := by
        intro w w1 hb
        rw [hXrg]
        exact Upd.ofBelow hb
      have Hrgb := Lib.hid brg
      have Hrgxb := Lib.hid xbrg
      clear brg xbrg
      clear hErg
      have Hrgk := Lib.hid krg
      have Hrgx := Lib.hid xrg
      have Hrgst := Lib.hid strg
      have Hrgc := Lib.hid crg
      have HrghC := Lib.hid hCrg
      have HrghX := Lib.hid hXrg
      have Hrge0 := Lib.hid erg0
      have Hrge1 := Lib.hid erg1
      have Hrge2 := Lib.hid erg2
      have Hrge3 := Lib.hid erg3
      have Hrge4 := Lib.hid erg4
      clear krg xrg strg crg hCrg hXrg erg0 erg1 erg2 erg3 erg4
      gi_wp2_with fail
      refine Reg.regionFIn (fun _ => trivial) rfl Reg.calls_wide (by kernel_rfl) Erg Crg Xrg Hrgst.out (by kernel_rfl) (by kernel_rfl) (by kernel_rfl) Hrgc.out (fun Frg hFrg => ?_)
      simp only [Reg.frame, Reg.dsts, List.map_cons, List.map_nil, Mix.put_lit, Reg.put_none, List.set_cons_succ, List.set_cons_zero, Nat.zero_add, Nat.reduceAdd] at hFrg
      refine ⟨?_, ?_⟩
      · refine ⟨?_, ?_, ?_, ?_, ?_, trivial⟩
        · intro Lq wq xq hh
          simp only [hFrg]
          refine .inl ⟨rfl, ?_⟩
          unfold Reg.upon
          have hk := Hrgk.out 0 Lq wq (by decide) (by decide)  hh.cls
          have hx := Hrgx.out wq
          have he : Erg 0 (.slice ao xs.length ca) wq := by rw [Hrge0.out]
          have HK := Lib.hid (And.intro hk (And.intro he hx))
          clear hk hx he
          go_simp
          exact HK.out
        · intro Lq wq xq hh
          have d0 : Erg 0 (xq 0) wq := hh.val 0 (by kernel_rfl) (by kernel_rfl)
          rw [Hrge0.out] at d0
          simp only [hFrg, d0]
          clear d0
          refine .inl ⟨rfl, ?_⟩
          unfold Reg.upon
          have hk := Hrgk.out 1 Lq wq (by decide) (by decide)  hh.cls
          have hx := Hrgx.out wq
          have he : Erg 1 (.int .i64 (xs.length : Int)) wq := by rw [Hrge1.out]
          have HK := Lib.hid (And.intro hk (And.intro he hx))
          clear hk hx he
          go_simp
          exact HK.out
        · intro Lq wq xq hh
          simp only [hFrg]
          refine .inl ⟨rfl, ?_⟩
          unfold Reg.upon
          have hc : Crg Lq wq := hh.cls
          rw [HrghC.out] at hc
          have q0 := hc.2.2.1.cell 0 _ rfl
          clear hc
          have hk := Hrgk.out 2 Lq wq (by decide) (by decide)  hh.cls
          have hx := Hrgx.out wq
          have he : Erg 2 (.int .i64 u) wq := by rw [Hrge2.out]
          have HK := Lib.hid (And.intro hk (And.intro he hx))
          clear hk hx he
          go_simp
          exact HK.out
        · intro Lq wq xq hh
          have d1 : Erg 1 (xq 1) wq := hh.val 1 (by kernel_rfl) (by kernel_rfl)
          rw [Hrge1.out] at d1
          simp only [hFrg, d1]
          clear d1
          refine .inl ⟨rfl, ?_⟩
          unfold Reg.upon
          have hc : Crg Lq wq := hh.cls
          rw [HrghC.out] at hc
          have h4 := hc.1 hh.un
          have c9 := h4.cell 0 _ rfl
          have f9 := h4.free 0
          have h5 := h4.set 0 (.int .i64 (xs.length : Int))
          have u5 := (Upd.refl (fun b => b = w.heap.size + 1) wq).setCell (p := ⟨w.heap.size + 1, 0, none⟩) (.inl rfl) (.int .i64 (xs.length : Int))
          have hF : Crg (Lq.setIfInBounds 3 true) (World.setCell wq ⟨w.heap.size + 1, 0, none⟩ (.int .i64 (xs.length : Int))) ∧ Erg 3 undef (World.setCell wq ⟨w.heap.size + 1, 0, none⟩ (.int .i64 (xs.length : Int))) ∧ Xrg wq (World.setCell wq ⟨w.heap.size + 1, 0, none⟩ (.int .i64 (xs.length : Int))) := by
            refine ⟨?_, by rw [Hrge3.out], by rw [HrghX.out]; exact u5.mono (fun b _ e => .inl e)⟩
            rw [HrghC.out]
            exact ⟨fun e9 => (by rw [Mix.one_set (by rw [hh.size]; decide)] at e9; exact absurd e9 (by decide)), fun _ => h5, u5.keep.has hc.2.2.1 (by omega), hc.2.2.2.trans (u5.mono (fun b _ e => .inl e))⟩
          clear hc h5 u5 h4
          go_simp
          try exact hF
        · intro Lq wq xq hh
          have d2 : Erg 2 (xq 2) wq := hh.val 2 (by kernel_rfl) (by kernel_rfl)
          rw [Hrge2.out] at d2
          simp only [hFrg, d2]
          clear d2
          refine .inl ⟨rfl, ?_⟩
          unfold Reg.upon
          have hc : Crg Lq wq := hh.cls
          rw [HrghC.out] at hc
          have h4 := hc.2.2.1
          have c9 := h4.cell 0 _ rfl
          have f9 := h4.free 0
          have h5 := h4.set 0 (.int .i64 u)
          have u5 := (Upd.refl (fun b => b = w.heap.size + 2) wq).setCell (p := ⟨w.heap.size + 2, 0, none⟩) (.inl rfl) (.int .i64 u)
          have hF : Crg (Lq.setIfInBounds 4 true) (World.setCell wq ⟨w.heap.size + 2, 0, none⟩ (.int .i64 u)) ∧ Erg 4 undef (World.setCell wq ⟨w.heap.size + 2, 0, none⟩ (.int .i64 u)) ∧ Xrg wq (World.setCell wq ⟨w.heap.size + 2, 0, none⟩ (.int .i64 u)) := by
            refine ⟨?_, by rw [Hrge4.out], by rw [HrghX.out]; exact u5.mono (fun b _ e => .inr e)⟩
            rw [HrghC.out]
            exact ⟨fun e => (by rw [Mix.one_ne (by decide)] at e; exact u5.keep.has (hc.1 e) (by omega)), fun e => (by rw [Mix.one_ne (by decide)] at e; exact u5.keep.has (hc.2.1 e) (by omega)), h5, hc.2.2.2.trans (u5.mono (fun b _ e => .inr e))⟩
          clear hc h5 u5 h4
          go_simp
          try exact hF
      intro xq wrg hcrg hvrg
      rw [HrghC.out] at hcrg
      simp only [hFrg]
      clear hvrg hFrg Hrgk Hrgx Hrgst Hrgc HrghC HrghX Hrgb Hrgxb Hrge0 Hrge1 Hrge2 Hrge3 Hrge4
      obtain ⟨_, q2, q3, q4⟩ := hcrg
      have q2 := q2 (by kernel_rfl)
      have hKr : wrg.heap[w1.heap.size]? = some (.deferred (some [])) := (q4.block _ (Array.getElem?_eq_some_iff.1 hK).1 (by have := HLT.out; omega)).trans hK
      have hu := upd_putObj (S := fun b => b = w1.heap.size) wrg w1.heap.size (.deferred none) rfl
      have p1 := (hu.keep.has q2 (fun e => by have := HLT.out; omega)).cell 0 _ rfl
      have p2 := (hu.keep.has q3 (fun e => by have := HLT.out; omega)).cell 0 _ rfl
      have HE := Lib.hid ((HL.out.upd q4 HL.out.size (fun b e => by omega)).upd hu (HL.out.upd q4 HL.out.size (fun b e => by omega)).size (fun b e => by have := HLT.out; omega))
      clear q2 q3 q4 hK
      gi_wp2
      refine ⟨by simp, .inl ⟨_, _, rfl, run_takeDeferred hKr, ?_⟩⟩
      exact ⟨_, by simp [results, Try.results41, go_sem, p1, p2]; try rfl, _, _, rfl, HF.out, HE.out⟩
    case body =>
      rintro l hi pre x W hlo hhi ⟨_, h1, h2, h3, h4, h5, h6, h7⟩ ⟨Wx, hx, hux⟩ hR
      have hx := hx.upd hux (fun b h1 h2 => by omega)
      have HXV := Lib.hid hx.held
      have HXP := Lib.hid (cu_pos hx)
      have hpl := pre_len hR
      obtain ⟨hk1, hk2, _⟩ := next_cu hR
      obtain ⟨k, hk⟩ : ∃ k, k = pre.length := ⟨_, rfl⟩
      have hsn : (pre ++ [x]).length = k + 1 := by rw [List.length_append, List.length_singleton, hk]
      rw [← hk] at h3 h6 h7 hk1 hk2 hpl
      have hcs := cumW_succ xs k hk1
      rw [clS_at xs k hk1, ← hk2] at hcs
      have hcb := cumW_bd xs k
      have hwb := wdC_bd (sliceL xs x.p)
      have hp1 : x.p.1 = endC xs k := by rw [hk2]
      have HFX := Lib.hid (show ∀ u wd : Int, u = cumW xs k → cumW xs (k + 1) = u + wd → u ≤ Wd → Wd < u + wd → HeadOK xs Wd (x.p.1 : Int) u from fun u wd e1 e2 h1 h2 => .inr ⟨HW0.out, k, Nat.le_of_lt hk1, by rw [hp1], e1, h1, fun _ => by rw [e2]; exact h2⟩)
      have HHI := Lib.hid (show hi ≤ W.heap.size ∧ w.heap.size + 3 ≤ hi from ⟨hhi, by have := HLT.out; omega⟩)
      have HL := Lib.hid h4
      have HH := Lib.hid (And.intro h1 (And.intro h2 h3))
      have HKL := Lib.hid (show k + 1 ≤ 1000000 by omega)
      obtain ⟨T, hT⟩ : ∃ T, T = sliceL xs x.p := ⟨_, rfl⟩
      rw [← hT] at HXV HXP hwb hcs
      obtain ⟨xv, hxv⟩ : ∃ xv, xv = x.v := ⟨_, rfl⟩
      rw [← hxv] at HXV ⊢
      obtain ⟨at0, hat⟩ : ∃ at0 : Int, at0 = (x.p.1 : Int) := ⟨_, rfl⟩
      rw [← hat] at HFX ⊢
      obtain ⟨u, hu⟩ : ∃ u, u = cumW xs k := ⟨_, rfl⟩
      rw [← hu] at HH h7 hcb hcs
      have HU := Lib.hid hu
      obtain ⟨wd, hwd⟩ : ∃ wd, wd = wdC T := ⟨_, rfl⟩
      have HWD := Lib.hid (show ∀ w', Below W.heap.size W w' → Calls Try.prog 16 #[xv] w' (Gives w' (.int .i64 wd)) from fun w' h => by rw [hwd]; exact mwidth_any xv T w' (HXV.out.below h) HXP.out.1 (by have := HXP.out; omega))
      rw [← hwd] at hcs hwb
      have HCS := Lib.hid hcs
      have HEND := Lib.hid (show ∀ W', Has W' w.heap.size [.int .i64 Wd] 3 → Has W' (w.heap.size + 1) [.int .i64 0] 3 → Has W' (w.heap.size + 2) [.int .i64 (u + wd)] 3 → Below w.heap.size w W' → hi ≤ W'.heap.size → u + wd ≤ Wd → HedI w (w1.heap.size + 2) xs Wd hi (pre ++ [x]) W' from fun W' a1 a2 a3 a4 a5 a6 => by unfold HedI; rw [hsn, HCS.out]; exact ⟨hlo, a1, a2, a3, a4, a5, HKL.out, a6⟩)
      have hsub : IntKind.i64.wrap (Wd - u) = Wd - u := by rw [IntKind.wrap_i64]; have := HW0.out; have := HXP.out; omega
      have hadd : IntKind.i64.wrap (u + wd) = u + wd := by rw [IntKind.wrap_i64]; have := HXP.out; omega
      have HUW := Lib.hid (And.intro h7 (And.intro hcb hwb))
      clear hx hux hR hpl hk1 hk2 hk h1 h2 h3 h4 h6 h7 hsn hcs hcb hwb hp1 hT hxv hat hu hwd h5
      gi_wp2_with fail
      gi_wp2_with fail
      first | refine ⟨trivial, (fun h => absurd h (by decide)), (CallsIn.inRound l (callsIn_wide.2 (HWD.out _ (Below.refl _ _)))).mono ?_⟩ | refine ⟨trivial, (CallsIn.inRound l (callsIn_wide.2 (HWD.out _ (Below.refl _ _)))).mono ?_⟩
      rintro e w2 ⟨rfl, b2⟩
      have HB2 := Lib.hid b2
      have h1 := HH.out.1.below b2 HH.out.1.lt
      have h2 := HH.out.2.1.below b2 HH.out.2.1.lt
      have h3 := HH.out.2.2.below b2 HH.out.2.2.lt
      have k1 := h1.cell 0 _ rfl
      have k3 := h3.cell 0 _ rfl
      have HL2 := Lib.hid (HL.out.trans (b2.mono HL.out.size))
      have HS2 := Lib.hid b2.size
      clear b2
      by_cases hgt : Wd - u < wd
      · have hdg : decide (Wd - u < wd) = true := by simpa using hgt
        have HH2 := Lib.hid h2
        have HH3 := Lib.hid h3
        have HF := Lib.hid (HFX.out u wd HU.out HCS.out HUW.out.1 (by omega))
        have hsz := h2.lt
        have hsz3 := h3.lt
        clear h1 h2 h3 hgt
        gi_wp2_with fail
        obtain ⟨Erg, hErg⟩ : ∃ EE : Nat → Value → World → Prop, EE = fun jj xx ww => match jj with
            | 0 => xx = .int .i64 at0
            | 1 => xx = .int .i64 u
            | 2 => xx = undef
            | 3 => xx = undef
            | _ => True := ⟨_, rfl⟩
        have erg0 : ∀ xx ww, Erg 0 xx ww = (xx = .int .i64 at0) := fun xx ww => congrFun (congrFun (congrFun hErg 0) xx) ww
        have erg1 : ∀ xx ww, Erg 1 xx ww = (xx = .int .i64 u) := fun xx ww => congrFun (congrFun (congrFun hErg 1) xx) ww
        have erg2 : ∀ xx ww, Erg 2 xx ww = (xx = undef) := fun xx ww => congrFun (congrFun (congrFun hErg 2) xx) ww
        have erg3 : ∀ xx ww, Erg 3 xx ww = (xx = undef) := fun xx ww => congrFun (congrFun (congrFun hErg 3) xx) ww
        obtain ⟨Crg, hCrg⟩ : ∃ CC : Array Bool → World → Prop, CC = fun L8 w' => (Mix.one L8 2 = 0 → Has w' (w.heap.size + 1) [.int .i64 0] 3) ∧ (Mix.one L8 2 = 1 → Has w' (w.heap.size + 1) [.int .i64 at0] 3) ∧ Has w' (w.heap.size + 2) [.int .i64 u] 3 ∧ Upd (fun b => b = w.heap.size + 1 ∨ b = w.heap.size + 2) w2 w' := ⟨_, rfl⟩
        have krg : ∀ i L w, i ≠ 2 → i ≠ 3 →  Crg L w → Crg (L.setIfInBounds i true) w := by
          intro i L w q2 q3 h
          rw [hCrg] at h ⊢
          simp only [Mix.one_ne q2, Mix.one_ne q3]; exact h
        obtain ⟨Xrg, hXrg⟩ : ∃ XX : World → World → Prop, XX = fun x y => Upd (fun b => b = w.heap.size + 1 ∨ b = w.heap.size + 2) x y := ⟨_, rfl⟩
        have xrg : ∀ w, Xrg w w := fun w => by rw [hXrg]; exact Upd.refl _ _
        have strg : ∀ j x w w1, Xrg w w1 → Erg j x w → Erg j x w1 := by
          intro j x w w1 hx h
          rw [hXrg] at hx
          match j with
          | 0 => rw [erg0] at h ⊢; exact h
          | 1 => rw [erg1] at h ⊢; exact h
          | 2 => rw [erg2] at h ⊢; exact h
          | 3 => rw [erg3] at h ⊢; exact h
          | j + 4 => rw [hErg]; trivial
        have crg : Crg (Array.replicate 4 false) w2.drew := by rw [hCrg]; exact ⟨fun _ => HH2.out, fun e => absurd e (by decide), HH3.out, (Upd.refl _ _).drew⟩
        have brg : ∀ L w w1, Crg L w → Below w.heap.size w w1 → Crg L w1 := by
          intro L w w1 h hb
          rw [hCrg] at h ⊢
          (obtain ⟨q1, q2, q3, q4⟩ := h; exact ⟨fun e => (q1 e).below hb (q1 e).lt, fun e => (q2 e).below hb (q2 e).lt, q3.below hb q3.lt, q4.trans (.ofBelow hb)⟩)
        have xbrg : ∀ w w1, Below w.heap.size w w1 → Xrg w w1 := by
          intro w w1 hb
          rw [hXrg]
          exact Upd.ofBelow hb
        have Hrgb := Lib.hid brg
        have Hrgxb := Lib.hid xbrg
        clear brg xbrg
        clear hErg
        have Hrgk := Lib.hid krg
        have Hrgx := Lib.hid xrg
        have Hrgst := Lib.hid strg
        have Hrgc := Lib.hid crg
        have HrghC := Lib.hid hCrg
        have HrghX := Lib.hid hXrg
        have Hrge0 := Lib.hid erg0
        have Hrge1 := Lib.hid erg1
        have Hrge2 := Lib.hid erg2
        have Hrge3 := Lib.hid erg3
        clear krg xrg strg crg hCrg hXrg erg0 erg1 erg2 erg3
        gi_wp2_with fail
        refine Reg.regionFIn (fun _ => trivial) rfl Reg.calls_round (by kernel_rfl) Erg Crg Xrg Hrgst.out (by kernel_rfl) (by kernel_rfl) (by kernel_rfl) Hrgc.out (fun Frg hFrg => ?_)
        simp only [Reg.frame, Reg.dsts, List.map_cons, List.map_nil, Mix.put_lit, Reg.put_none, List.set_cons_succ, List.set_cons_zero, Nat.zero_add, Nat.reduceAdd] at hFrg
        refine ⟨?_, ?_⟩
        · refine ⟨?_, ?_, ?_, ?_, trivial⟩
          · intro Lq wq xq hh
            simp only [hFrg]
            refine .inl ⟨rfl, ?_⟩
            unfold Reg.upon
            have hk := Hrgk.out 0 Lq wq (by decide) (by decide)  hh.cls
            have hx := Hrgx.out wq
            have he : Erg 0 (.int .i64 at0) wq := by rw [Hrge0.out]
            have HK := Lib.hid (And.intro hk (And.intro he hx))
            clear hk hx he
            go_simp
            exact HK.out
          · intro Lq wq xq hh
            simp only [hFrg]
            refine .inl ⟨rfl, ?_⟩
            unfold Reg.upon
            have hc : Crg Lq wq := hh.cls
            rw [HrghC.out] at hc
            have q0 := hc.2.2.1.cell 0 _ rfl
            clear hc
            have hk := Hrgk.out 1 Lq wq (by decide) (by decide)  hh.cls
            have hx := Hrgx.out wq
            have he : Erg 1 (.int .i64 u) wq := by rw [Hrge1.out]
            have HK := Lib.hid (And.intro hk (And.intro he hx))
            clear hk hx he
            go_simp
            exact HK.out
          · intro Lq wq xq hh
            have d0 : Erg 0 (xq 0) wq := hh.val 0 (by kernel_rfl) (by kernel_rfl)
            rw [Hrge0.out] at d0
            simp only [hFrg, d0]
            clear d0
            refine .inl ⟨rfl, ?_⟩
            unfold Reg.upon
            have hc : Crg Lq wq := hh.cls
            rw [HrghC.out] at hc
            have h4 := hc.1 hh.un
            have c9 := h4.cell 0 _ rfl
            have f9 := h4.free 0
            have h5 := h4.set 0 (.int .i64 at0)
            have u5 := (Upd.refl (fun b => b = w.heap.size + 1) wq).setCell (p := ⟨w.heap.size + 1, 0, none⟩) (.inl rfl) (.int .i64 at0)
            have hF : Crg (Lq.setIfInBounds 2 true) (World.setCell wq ⟨w.heap.size + 1, 0, none⟩ (.int .i64 at0)) ∧ Erg 2 undef (World.setCell wq ⟨w.heap.size + 1, 0, none⟩ (.int .i64 at0)) ∧ Xrg wq (World.setCell wq ⟨w.heap.size + 1, 0, none⟩ (.int .i64 at0)) := by
              refine ⟨?_, by rw [Hrge2.out], by rw [HrghX.out]; exact u5.mono (fun b _ e => .inl e)⟩
              rw [HrghC.out]
              exact ⟨fun e9 => (by rw [Mix.one_set (by rw [hh.size]; decide)] at e9; exact absurd e9 (by decide)), fun _ => h5, u5.keep.has hc.2.2.1 (by omega), hc.2.2.2.trans (u5.mono (fun b _ e => .inl e))⟩
            clear hc h5 u5 h4
            go_simp
            try exact hF
          · intro Lq wq xq hh
            have d1 : Erg 1 (xq 1) wq := hh.val 1 (by kernel_rfl) (by kernel_rfl)
            rw [Hrge1.out] at d1
            simp only [hFrg, d1]
            clear d1
            refine .inl ⟨rfl, ?_⟩
            unfold Reg.upon
            have hc : Crg Lq wq := hh.cls
            rw [HrghC.out] at hc
            have h4 := hc.2.2.1
            have c9 := h4.cell 0 _ rfl
            have f9 := h4.free 0
            have h5 := h4.set 0 (.int .i64 u)
            have u5 := (Upd.refl (fun b => b = w.heap.size + 2) wq).setCell (p := ⟨w.heap.size + 2, 0, none⟩) (.inl rfl) (.int .i64 u)
            have hF : Crg (Lq.setIfInBounds 3 true) (World.setCell wq ⟨w.heap.size + 2, 0, none⟩ (.int .i64 u)) ∧ Erg 3 undef (World.setCell wq ⟨w.heap.size + 2, 0, none⟩ (.int .i64 u)) ∧ Xrg wq (World.setCell wq ⟨w.heap.size + 2, 0, none⟩ (.int .i64 u)) := by
              refine ⟨?_, by rw [Hrge3.out], by rw [HrghX.out]; exact u5.mono (fun b _ e => .inr e)⟩
              rw [HrghC.out]
              exact ⟨fun e => (by rw [Mix.one_ne (by decide)] at e; exact u5.keep.has (hc.1 e) (by omega)), fun e => (by rw [Mix.one_ne (by decide)] at e; exact u5.keep.has (hc.2.1 e) (by omega)), h5, hc.2.2.2.trans (u5.mono (fun b _ e => .inr e))⟩
            clear hc h5 u5 h4
            go_simp
            try exact hF
        intro xq wrg hcrg hvrg
        rw [HrghC.out] at hcrg
        simp only [hFrg]
        clear hvrg hFrg Hrgk Hrgx Hrgst Hrgc HrghC HrghX Hrgb Hrgxb Hrge0 Hrge1 Hrge2 Hrge3
        obtain ⟨_, q2, q3, q4⟩ := hcrg
        have q2 := q2 (by kernel_rfl)
        have HF1 := Lib.hid (show Upd (fun b => (w.heap.size ≤ b ∧ b < w.heap.size + 3) ∨ hi ≤ b) W wrg from (Upd.ofBelow HB2.out).trans (q4.mono (fun b _ e => .inl (by omega))))
        have HF2 := Lib.hid (show HedX w (w1.heap.size + 2) xs Wd hi .ret (pre ++ [x]) wrg from ⟨rfl, hlo, at0, u, q2, q3, HF.out, HL2.out.upd q4 HL2.out.size (fun b e => by omega)⟩)
        clear q2 q3 q4
        gi_wp2
        exact ⟨HF1.out, HF2.out⟩
      · have hdg : decide (Wd - u < wd) = false := by simpa using hgt
        have f3 := h3.free 0
        have s3 := h3.set 0 (.int .i64 (u + wd))
        have u5 := (Upd.refl (fun b => b = w.heap.size + 2) w2).setCell (p := ⟨w.heap.size + 2, 0, none⟩) (.inl rfl) (.int .i64 (u + wd))
        have HF2 := Lib.hid (HEND.out _ (u5.keep.has h1 (by omega)) (u5.keep.has h2 (by omega)) s3 (HL2.out.upd u5 HL2.out.size (fun b e => by omega)) (Nat.le_trans (Nat.le_trans HHI.out.1 HS2.out) u5.size) (by omega))
        have HF1 := Lib.hid (show Upd (fun b => (w.heap.size ≤ b ∧ b < w.heap.size + 3) ∨ hi ≤ b) W _ from (Upd.ofBelow HB2.out).trans (u5.mono (fun b _ e => .inl (by omega))))
        clear h1 h2 h3 s3 u5 hgt
        gi_wp2
        exact ⟨HF1.out, HF2.out⟩
end Go.Proofs.Ytkpmmkokfllafaa
