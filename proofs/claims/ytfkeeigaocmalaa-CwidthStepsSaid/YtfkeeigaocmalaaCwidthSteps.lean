/- CwidthSteps (19.2, 19.3) answers true at every row of numbers with every row of properties, and turns nothing. No conditions. -/
import Derived.Test.YtfkeeigaocmalaaCwidE
import Derived.Test.YtfkeeigaocmalaaCwidS
import Derived.Test.YtfkeeigaocmalaaReg
import Derived.Test.YtfkeeigaocmalaaFrame
import Derived.Test.YtfkeeigaocmalaaRows
import Derived.ProofKit
namespace Go.Proofs.Ytfkeeigaocmalaa.lawCwidthSteps
open Go.ChangeShapes Go.WideShapes Go.ChangeAt Go.RowKit
def lenN : Value → Nat
  | .slice _ n _ => n
  | _ => 0
set_option maxRecDepth 100000 in
set_option maxHeartbeats 1000000 in
theorem walkH (w : World) (va vb : Value) (xs : List Int) (L0 : List Pr) (ha : Held .i32 w va xs) (hp : ∀ x ∈ xs, (Lit.int .i32 x).wf = true) (hv : HeldP w vb L0) (ka : CapOk va) (kb : CapOk vb) : Calls Try.prog 3 #[va, vb] w (Yes w) := by
  have HR := Lib.hid (show ∀ i, i < xs.length → -2147483648 ≤ xs.getD i 0 ∧ xs.getD i 0 ≤ 2147483647 from fun i hi => bounds_i32 (hp _ (by simp [List.getD, List.getElem?_eq_getElem hi])))
  obtain ⟨ao, ca, rfl, hc⟩ := id ha.view
  obtain ⟨bo, cb, rfl, _⟩ := id hv
  have hca : xs.length ≤ ca := ka _ _ _ rfl
  have HCB := Lib.hid kb
  have HA := Lib.hid ha
  have HC := Lib.hid hc
  have HV := Lib.hid hv
  clear ha hv hp hc ka kb
  by_cases hl : 200 < xs.length
  · go_enter Try.func3, Try.ntmps3
    go_wp2_with fail
    refine (works19_any _).mono ?_
    rintro e w1 ⟨rfl, b1⟩
    go_wp2_with fail
    refine (works19_any _).mono ?_
    rintro e w2 ⟨rfl, b2⟩
    have b2 := b1.trans (b2.mono b1.size)
    go_wp2
    go_ret
    exact ⟨(ret_eq (by first | rfl | (simp <;> omega))), b2⟩
  · go_enter Try.func3, Try.ntmps3
    go_wp2_with fail
    refine (works19_any _).mono ?_
    rintro e w1 ⟨rfl, b1⟩
    go_wp2
    go_loopw [1] (fun v wr => ∃ L : List Pr, HeldP wr v L ∧ CapOk v ∧ Below w.heap.size w wr) (fun v _ => xs.length - lenN v)
    case atStart => exact ⟨L0, HV.out.below b1, HCB.out, b1⟩
    case round =>
      obtain ⟨L, hL, hcp, hbw⟩ := hrel
      obtain ⟨po, pc, rfl, _⟩ := id hL
      have hpc : L.length ≤ pc := hcp _ _ _ rfl
      clear hcp
      have HL := Lib.hid hL
      clear hL
      by_cases hlt : L.length < xs.length
      · obtain ⟨b, off, rfl, hb, hcx⟩ := HC.out L.length hlt
        have hcx := (hbw.cell (p := ⟨b, off + L.length, none⟩) hb).trans hcx
        obtain ⟨r0, r1⟩ := HR.out L.length hlt
        obtain ⟨r, hr⟩ : ∃ r, r = xs.getD L.length 0 := ⟨_, rfl⟩
        rw [← hr] at hcx r0 r1
        have hb0 : b < wr.heap.size := by have := hbw.size; omega
        have HQ := Lib.hid (show ∀ w, Calls Try.prog 10 #[.int .i32 r] w (Gives w (.agg #[.int .i64 (knownPr r).br, .bool (knownPr r).pc, .int .i64 (knownPr r).cv, .int .i64 (knownPr r).ea])) from fun w => rucdof_any r w r0 r1)
        obtain ⟨q, hq⟩ : ∃ q, q = knownPr r := ⟨_, rfl⟩
        rw [← hq] at HQ
        have HX := Lib.hid hcx
        clear hq hr r0 r1 hcx
        obtain ⟨Erg, hErg⟩ : ∃ EE : Nat → Value → World → Prop, EE = fun jj xx ww => match jj with
            | 0 => (fun x w => ∃ g, x = .slice (some ⟨g, 0, none⟩) 0 0 ∧ w.ownsRow wr.heap.size 26 4 (.slice (some ⟨g, 0, none⟩) 0 0) 0 []) xx ww
            | 1 => xx = .slice po L.length pc
            | 2 => (fun x w => w.ownsRow wr.heap.size 26 4 x L.length (prsCells L)) xx ww
            | 3 => xx = .slice (some ⟨b, off, none⟩) xs.length ca
            | 4 => xx = .slice po L.length pc
            | 5 => xx = .int .i64 L.length
            | 6 => xx = .pointer (some ⟨b, off + L.length, none⟩)
            | 7 => xx = .int .i32 r
            | 8 => xx = .agg #[.int .i64 q.br, .bool q.pc, .int .i64 q.cv, .int .i64 q.ea]
            | 9 => (fun x w => ∃ g, x = .slice (some ⟨g, 0, none⟩) 1 1 ∧ w.ownsRow wr.heap.size 26 4 (.slice (some ⟨g, 0, none⟩) 1 1) 1 (prsCells [q])) xx ww
            | 10 => (fun x w => w.ownsRow wr.heap.size 26 4 x (L.length + 1) (prsCells L ++ prsCells [q])) xx ww
            | 11 => (fun x w => w.ownsRow wr.heap.size 26 4 x (L.length + 1) (prsCells L ++ prsCells [q])) xx ww
            | _ => True := ⟨_, rfl⟩
        have erg0 : ∀ xx ww, Erg 0 xx ww = ((fun x w => ∃ g, x = .slice (some ⟨g, 0, none⟩) 0 0 ∧ w.ownsRow wr.heap.size 26 4 (.slice (some ⟨g, 0, none⟩) 0 0) 0 []) xx ww) := fun xx ww => congrFun (congrFun (congrFun hErg 0) xx) ww
        have erg1 : ∀ xx ww, Erg 1 xx ww = (xx = .slice po L.length pc) := fun xx ww => congrFun (congrFun (congrFun hErg 1) xx) ww
        have erg2 : ∀ xx ww, Erg 2 xx ww = ((fun x w => w.ownsRow wr.heap.size 26 4 x L.length (prsCells L)) xx ww) := fun xx ww => congrFun (congrFun (congrFun hErg 2) xx) ww
        have erg3 : ∀ xx ww, Erg 3 xx ww = (xx = .slice (some ⟨b, off, none⟩) xs.length ca) := fun xx ww => congrFun (congrFun (congrFun hErg 3) xx) ww
        have erg4 : ∀ xx ww, Erg 4 xx ww = (xx = .slice po L.length pc) := fun xx ww => congrFun (congrFun (congrFun hErg 4) xx) ww
        have erg5 : ∀ xx ww, Erg 5 xx ww = (xx = .int .i64 L.length) := fun xx ww => congrFun (congrFun (congrFun hErg 5) xx) ww
        have erg6 : ∀ xx ww, Erg 6 xx ww = (xx = .pointer (some ⟨b, off + L.length, none⟩)) := fun xx ww => congrFun (congrFun (congrFun hErg 6) xx) ww
        have erg7 : ∀ xx ww, Erg 7 xx ww = (xx = .int .i32 r) := fun xx ww => congrFun (congrFun (congrFun hErg 7) xx) ww
        have erg8 : ∀ xx ww, Erg 8 xx ww = (xx = .agg #[.int .i64 q.br, .bool q.pc, .int .i64 q.cv, .int .i64 q.ea]) := fun xx ww => congrFun (congrFun (congrFun hErg 8) xx) ww
        have erg9 : ∀ xx ww, Erg 9 xx ww = ((fun x w => ∃ g, x = .slice (some ⟨g, 0, none⟩) 1 1 ∧ w.ownsRow wr.heap.size 26 4 (.slice (some ⟨g, 0, none⟩) 1 1) 1 (prsCells [q])) xx ww) := fun xx ww => congrFun (congrFun (congrFun hErg 9) xx) ww
        have erg10 : ∀ xx ww, Erg 10 xx ww = ((fun x w => w.ownsRow wr.heap.size 26 4 x (L.length + 1) (prsCells L ++ prsCells [q])) xx ww) := fun xx ww => congrFun (congrFun (congrFun hErg 10) xx) ww
        have erg11 : ∀ xx ww, Erg 11 xx ww = ((fun x w => w.ownsRow wr.heap.size 26 4 x (L.length + 1) (prsCells L ++ prsCells [q])) xx ww) := fun xx ww => congrFun (congrFun (congrFun hErg 11) xx) ww
        obtain ⟨Crg, hCrg⟩ : ∃ CC : Array Bool → World → Prop, CC = fun L8 w' => Below wr.heap.size wr w' := ⟨_, rfl⟩
        have krg : ∀ i L w,  Crg L w → Crg (L.setIfInBounds i true) w := by
          intro i L w  h
          rw [hCrg] at h ⊢
          exact h
        obtain ⟨Xrg, hXrg⟩ : ∃ XX : World → World → Prop, XX = fun w w1 => Kept w w1 wr.heap.size 26 4 (prsCells L ++ prsCells [q]) (prsCells [q]) 1 := ⟨_, rfl⟩
        have xrg : ∀ w, Xrg w w := fun w => by rw [hXrg]; exact Kept.refl _ _ _ _ _ _ _
        have strg : ∀ j x w w1, Xrg w w1 → Erg j x w → Erg j x w1 := by
          intro j x w w1 hx h
          rw [hXrg] at hx
          match j with
          | 0 => rw [erg0] at h ⊢; (first | exact hx.1 _ _ _ h (List.prefix_append _ _) | exact hx.1 _ _ _ h (List.prefix_refl _) | (obtain ⟨g, e, h⟩ := h; exact ⟨g, e, hx.1 _ _ _ h (List.nil_prefix)⟩) | (obtain ⟨g, e, h⟩ := h; exact ⟨g, e, hx.2 _ h⟩))
          | 1 => rw [erg1] at h ⊢; exact h
          | 2 => rw [erg2] at h ⊢; (first | exact hx.1 _ _ _ h (List.prefix_append _ _) | exact hx.1 _ _ _ h (List.prefix_refl _) | (obtain ⟨g, e, h⟩ := h; exact ⟨g, e, hx.1 _ _ _ h (List.nil_prefix)⟩) | (obtain ⟨g, e, h⟩ := h; exact ⟨g, e, hx.2 _ h⟩))
          | 3 => rw [erg3] at h ⊢; exact h
          | 4 => rw [erg4] at h ⊢; exact h
          | 5 => rw [erg5] at h ⊢; exact h
          | 6 => rw [erg6] at h ⊢; exact h
          | 7 => rw [erg7] at h ⊢; exact h
          | 8 => rw [erg8] at h ⊢; exact h
          | 9 => rw [erg9] at h ⊢; (first | exact hx.1 _ _ _ h (List.prefix_append _ _) | exact hx.1 _ _ _ h (List.prefix_refl _) | (obtain ⟨g, e, h⟩ := h; exact ⟨g, e, hx.1 _ _ _ h (List.nil_prefix)⟩) | (obtain ⟨g, e, h⟩ := h; exact ⟨g, e, hx.2 _ h⟩))
          | 10 => rw [erg10] at h ⊢; (first | exact hx.1 _ _ _ h (List.prefix_append _ _) | exact hx.1 _ _ _ h (List.prefix_refl _) | (obtain ⟨g, e, h⟩ := h; exact ⟨g, e, hx.1 _ _ _ h (List.nil_prefix)⟩) | (obtain ⟨g, e, h⟩ := h; exact ⟨g, e, hx.2 _ h⟩))
          | 11 => rw [erg11] at h ⊢; (first | exact hx.1 _ _ _ h (List.prefix_append _ _) | exact hx.1 _ _ _ h (List.prefix_refl _) | (obtain ⟨g, e, h⟩ := h; exact ⟨g, e, hx.1 _ _ _ h (List.nil_prefix)⟩) | (obtain ⟨g, e, h⟩ := h; exact ⟨g, e, hx.2 _ h⟩))
          | j + 12 => rw [hErg]; trivial
        have crg : Crg (Array.replicate 12 false) wr.drew := by rw [hCrg]; exact (Below.refl _ _).drew
        have brg : ∀ L w w1, Crg L w → Below w.heap.size w w1 → Crg L w1 := by
          intro L w w1 h hb
          rw [hCrg] at h ⊢
          exact h.trans (hb.mono h.size)
        have xbrg : ∀ w w1, Below w.heap.size w w1 → Xrg w w1 := by
          intro w w1 hb
          rw [hXrg]
          exact Kept.below hb _ _ _ _ _ _
        have Hrgb := Lib.hid brg
        have Hrgxb := Lib.hid xbrg
        clear brg xbrg
        clear hErg
        have Hrgk := Lib.hid krg
        have Hrgx := Lib.hid xrg
        have Hrgst := Lib.hid strg
        have Hrgc := Lib.hid crg
        have HrghC := Lib.hid hCrg
        have HrghX := Lib.hid hXrg
        have Hrge0 := Lib.hid erg0
        have Hrge1 := Lib.hid erg1
        have Hrge2 := Lib.hid erg2
        have Hrge3 := Lib.hid erg3
        have Hrge4 := Lib.hid erg4
        have Hrge5 := Lib.hid erg5
        have Hrge6 := Lib.hid erg6
        have Hrge7 := Lib.hid erg7
        have Hrge8 := Lib.hid erg8
        have Hrge9 := Lib.hid erg9
        have Hrge10 := Lib.hid erg10
        have Hrge11 := Lib.hid erg11
        clear krg xrg strg crg hCrg hXrg erg0 erg1 erg2 erg3 erg4 erg5 erg6 erg7 erg8 erg9 erg10 erg11
        go_wp2_with fail
        refine Reg.regionF Erg Crg Xrg Hrgst.out (by kernel_rfl) (by kernel_rfl) (by kernel_rfl) Hrgc.out (fun Frg hFrg => ?_)
        simp only [Reg.frame, Reg.dsts, List.map_cons, List.map_nil, Mix.put_lit, Reg.put_none, List.set_cons_succ, List.set_cons_zero, Array.getD, Nat.zero_add, Nat.reduceAdd] at hFrg
        refine ⟨?_, ?_⟩
        · refine ⟨?_, ?_, ?_, ?_, ?_, ?_, ?_, ?_, ?_, ?_, ?_, ?_, trivial⟩
          · intro Lq wq xq hh
            simp only [hFrg]
            refine .inl ⟨rfl, ?_⟩
            unfold Reg.upon
            go_simp
            have hb1 := (Below.refl wq.heap.size wq).alloc (Nat.le_refl _) (.cells #[] 26)
            refine ⟨Hrgk.out 0 Lq _ (Hrgb.out Lq wq _ hh.cls hb1), ?_, Hrgxb.out wq _ hb1⟩
            rw [Hrge0.out]
            exact ⟨_, rfl, World.ownsRow_lit wq #[] 0 (by have hc : Crg Lq wq := hh.cls; rw [HrghC.out] at hc; exact hc.size) (by decide) rfl⟩
          · intro Lq wq xq hh
            have d11 := hh.old 11 (by kernel_rfl)
            simp only [hFrg, d11]
            clear d11
            refine .inl ⟨rfl, ?_⟩
            unfold Reg.upon
            have hk := Hrgk.out 1 Lq wq  hh.cls
            have hx := Hrgx.out wq
            have he : Erg 1 (.slice po L.length pc) wq := by rw [Hrge1.out]
            have HK := Lib.hid (And.intro hk (And.intro he hx))
            clear hk hx he
            go_simp
            exact HK.out
          · intro Lq wq xq hh
            have d0 : Erg 0 (xq 0) wq := hh.val 0 (by kernel_rfl) (by kernel_rfl)
            rw [Hrge0.out] at d0
            have d1 : Erg 1 (xq 1) wq := hh.val 1 (by kernel_rfl) (by kernel_rfl)
            rw [Hrge1.out] at d1
            simp only [hFrg, d1]
            clear d1
            refine .inl ⟨rfl, ?_⟩
            unfold Reg.upon
            obtain ⟨g, e0, h0⟩ := d0
            rw [e0]
            have hc : Crg Lq wq := hh.cls
            rw [HrghC.out] at hc
            obtain ⟨v', w', hr, h2, hb1⟩ := prs_copy wq _ 23 g h0 _ L (HL.out.below hc) (by omega) hc.size
            rw [exec_append rfl rfl rfl hr]
            refine ⟨Hrgk.out 2 Lq _ (Hrgb.out Lq wq _ hh.cls hb1), ?_, Hrgxb.out wq _ hb1⟩
            rw [Hrge2.out]
            exact h2
          · intro Lq wq xq hh
            simp only [hFrg]
            refine .inl ⟨rfl, ?_⟩
            unfold Reg.upon
            have hk := Hrgk.out 3 Lq wq  hh.cls
            have hx := Hrgx.out wq
            have he : Erg 3 (.slice (some ⟨b, off, none⟩) xs.length ca) wq := by rw [Hrge3.out]
            have HK := Lib.hid (And.intro hk (And.intro he hx))
            clear hk hx he
            go_simp
            exact HK.out
          · intro Lq wq xq hh
            have d11 := hh.old 11 (by kernel_rfl)
            simp only [hFrg, d11]
            clear d11
            refine .inl ⟨rfl, ?_⟩
            unfold Reg.upon
            have hk := Hrgk.out 4 Lq wq  hh.cls
            have hx := Hrgx.out wq
            have he : Erg 4 (.slice po L.length pc) wq := by rw [Hrge4.out]
            have HK := Lib.hid (And.intro hk (And.intro he hx))
            clear hk hx he
            go_simp
            exact HK.out
          · intro Lq wq xq hh
            have d4 : Erg 4 (xq 4) wq := hh.val 4 (by kernel_rfl) (by kernel_rfl)
            rw [Hrge4.out] at d4
            simp only [hFrg, d4]
            clear d4
            refine .inl ⟨rfl, ?_⟩
            unfold Reg.upon
            have hk := Hrgk.out 5 Lq wq  hh.cls
            have hx := Hrgx.out wq
            have he : Erg 5 (.int .i64 L.length) wq := by rw [Hrge5.out]
            have HK := Lib.hid (And.intro hk (And.intro he hx))
            clear hk hx he
            go_simp
            exact HK.out
          · intro Lq wq xq hh
            have d3 : Erg 3 (xq 3) wq := hh.val 3 (by kernel_rfl) (by kernel_rfl)
            rw [Hrge3.out] at d3
            have d5 : Erg 5 (xq 5) wq := hh.val 5 (by kernel_rfl) (by kernel_rfl)
            rw [Hrge5.out] at d5
            simp only [hFrg, d3, d5]
            clear d3 d5
            refine .inl ⟨rfl, ?_⟩
            unfold Reg.upon
            have hk := Hrgk.out 6 Lq wq  hh.cls
            have hx := Hrgx.out wq
            have he : Erg 6 (.pointer (some ⟨b, off + L.length, none⟩)) wq := by rw [Hrge6.out]
            have HK := Lib.hid (And.intro hk (And.intro he hx))
            clear hk hx he
            go_simp
            exact HK.out
          · intro Lq wq xq hh
            have d6 : Erg 6 (xq 6) wq := hh.val 6 (by kernel_rfl) (by kernel_rfl)
            rw [Hrge6.out] at d6
            simp only [hFrg, d6]
            clear d6
            refine .inl ⟨rfl, ?_⟩
            unfold Reg.upon
            have hc : Crg Lq wq := hh.cls
            rw [HrghC.out] at hc
            have hcell := (hc.cell (p := ⟨b, off + L.length, none⟩) hb0).trans HX.out
            clear hc
            have hk := Hrgk.out 7 Lq wq  hh.cls
            have hx := Hrgx.out wq
            have he : Erg 7 (.int .i32 r) wq := by rw [Hrge7.out]
            have HK := Lib.hid (And.intro hk (And.intro he hx))
            clear hk hx he
            go_simp
            exact HK.out
          · intro Lq wq xq hh
            have d7 : Erg 7 (xq 7) wq := hh.val 7 (by kernel_rfl) (by kernel_rfl)
            rw [Hrge7.out] at d7
            simp only [hFrg, d7]
            clear d7
            refine .inl ⟨rfl, ?_⟩
            unfold Reg.upon
            have hc : Crg Lq wq := hh.cls
            rw [HrghC.out] at hc
            go_simp
            refine (HQ.out _).mono ?_
            rintro e w2 ⟨rfl, hb⟩
            exact ⟨_, rfl, Hrgk.out 8 Lq w2  (Hrgb.out Lq wq w2 hh.cls hb), (by rw [Hrge8.out]; try rfl), Hrgxb.out wq w2 hb⟩
          · intro Lq wq xq hh
            have d8 : Erg 8 (xq 8) wq := hh.val 8 (by kernel_rfl) (by kernel_rfl)
            rw [Hrge8.out] at d8
            simp only [hFrg, d8]
            clear d8
            refine .inl ⟨rfl, ?_⟩
            unfold Reg.upon
            go_simp
            have hb1 := (Below.refl wq.heap.size wq).alloc (Nat.le_refl _) (.cells #[.int .i64 q.br, .bool q.pc, .int .i64 q.cv, .int .i64 q.ea] 26)
            refine ⟨Hrgk.out 9 Lq _ (Hrgb.out Lq wq _ hh.cls hb1), ?_, Hrgxb.out wq _ hb1⟩
            rw [Hrge9.out]
            exact ⟨_, rfl, World.ownsRow_lit wq #[.int .i64 q.br, .bool q.pc, .int .i64 q.cv, .int .i64 q.ea] 1 (by have hc : Crg Lq wq := hh.cls; rw [HrghC.out] at hc; exact hc.size) (by decide) rfl⟩
          · intro Lq wq xq hh
            have d2 : Erg 2 (xq 2) wq := hh.val 2 (by kernel_rfl) (by kernel_rfl)
            rw [Hrge2.out] at d2
            have d9 : Erg 9 (xq 9) wq := hh.val 9 (by kernel_rfl) (by kernel_rfl)
            rw [Hrge9.out] at d9
            simp only [hFrg]
            refine .inl ⟨rfl, ?_⟩
            unfold Reg.upon
            obtain ⟨g, e9, h9⟩ := d9
            rw [e9]
            have hc : Crg Lq wq := hh.cls
            rw [HrghC.out] at hc
            obtain ⟨v', w', hr, h2, hb1, hk⟩ := prs_append wq _ 23 _ _ _ d2 g 1 [q] (heldP_of_owns h9) (by simp; omega) hc.size
            rw [exec_append rfl rfl rfl hr]
            refine ⟨Hrgk.out 10 Lq _ (by rw [HrghC.out]; exact hc.trans hb1), ?_, by rw [HrghX.out]; exact hk⟩
            rw [Hrge10.out]
            exact h2
          · intro Lq wq xq hh
            have d10 : Erg 10 (xq 10) wq := hh.val 10 (by kernel_rfl) (by kernel_rfl)
            rw [Hrge10.out] at d10
            simp only [hFrg]
            refine .inl ⟨rfl, ?_⟩
            unfold Reg.upon
            go_simp
            exact ⟨Hrgk.out 11 Lq wq hh.cls, (by rw [Hrge11.out]; exact d10), Hrgx.out wq⟩
        intro xq wrg hcrg hvrg
        rw [HrghC.out] at hcrg
        simp only [hFrg]
        have vrg11 : Erg 11 (xq 11) wrg := hvrg 11 (by decide)
        rw [Hrge11.out] at vrg11
        clear hvrg hFrg Hrgk Hrgx Hrgst Hrgc HrghC HrghX Hrgb Hrgxb Hrge0 Hrge1 Hrge2 Hrge3 Hrge4 Hrge5 Hrge6 Hrge7 Hrge8 Hrge9 Hrge10 Hrge11
        have hp2 : HeldP wrg (xq 11) (L ++ [q]) := heldP_of_owns (by rw [show prsCells (L ++ [q]) = prsCells L ++ prsCells [q] from by simp [prsCells]]; exact vrg11)
        have hbw2 := hbw.trans (hcrg.mono hbw.size)
        have hc2 := own_capP vrg11
        clear vrg11 hcrg
        obtain ⟨po2, pc2, e11, _⟩ := id hp2
        rw [e11] at hp2 hc2 ⊢
        have HC2 := Lib.hid hc2
        clear hc2
        have HP2 := Lib.hid hp2
        have HB2 := Lib.hid hbw2
        clear hp2 hbw2 hbw e11
        go_wp2
        go_roundw
        case rel => exact ⟨_, HP2.out, HC2.out, HB2.out⟩
        case measure => simp [lenN] <;> omega
      · obtain ⟨wo, hwo⟩ : ∃ wo, wo = wr := ⟨_, rfl⟩
        subst hwo
        obtain ⟨_, hd⟩ := HL.out.at
        have HD := Lib.hid hd
        clear hd
        have HBW := Lib.hid hbw
        clear hbw
        obtain ⟨G, hG⟩ : ∃ G, G = wo.heap.size := ⟨_, rfl⟩
        have HG := Lib.hid hG
        go_wp2
        rw [← hG]
        clear hG
        go_loopw [6] (fun a wz => ∃ k : Nat, k ≤ 2 ∧ a = .int .i64 k ∧ GaugeAt wz G false false false ∧ Below G wo wz) (fun a _ => 2 - (intOf a).toNat)
        case atStart => exact ⟨0, Nat.zero_le _, rfl, by rw [HG.out]; exact Has.new wo _ _, by rw [HG.out]; exact (Below.refl _ _).alloc (Nat.le_refl _) _⟩
        case round =>
          obtain ⟨k, hk, rfl, hg, hbw⟩ := hrel
          have HGA := Lib.hid hg
          have HBZ := Lib.hid hbw
          clear hg hbw
          by_cases hk2 : k < 2
          · obtain ⟨wk, hwk⟩ : ∃ wk, wk = wr := ⟨_, rfl⟩
            subst hwk
            have hkd : decide ((k : Int) < 2) = true := by simp; omega
            go_wp2
            clear hkd
            go_loopw [7, 8] (fun la i wz => ∃ j : Nat, j ≤ xs.length ∧ i = .int .i64 j ∧ la = .int .i64 (rowW xs L j) ∧ GaugeAt wz G (decide (0 < j)) (picAt L j) (anyW xs L j) ∧ Below G wo wz) (fun _ i _ => xs.length - (intOf i).toNat)
            case atStart => exact ⟨0, Nat.zero_le _, rfl, rfl, HGA.out, HBZ.out⟩
            case round =>
              obtain ⟨j, hj, rfl, rfl, hg, hbw⟩ := hrel
              have HGJ := Lib.hid hg
              have HBJ := Lib.hid hbw
              clear hg hbw
              by_cases hlt2 : j < xs.length
              · obtain ⟨b, off, rfl, hb, hcx⟩ := HC.out j hlt2
                have hcx := (HBW.out.cell (p := ⟨b, off + j, none⟩) hb).trans hcx
                have hbo : b < wo.heap.size := by have := HBW.out.size; omega
                have hjl : j < L.length := by omega
                obtain ⟨b2, off2, rfl, hb2, d0, d1, d2, d3⟩ := HD.out j hjl
                obtain ⟨r, hr⟩ : ∃ r, r = xs.getD j 0 := ⟨_, rfl⟩
                obtain ⟨q, hq⟩ : ∃ q, q = L.getD j Pr.none := ⟨_, rfl⟩
                have HST := Lib.hid (gstep_row G xs L j r q hr hq)
                rw [← hr] at hcx
                rw [← hq] at d0 d1 d2 d3
                have HX := Lib.hid hcx
                have HQ0 := Lib.hid (And.intro d0 (And.intro d1 (And.intro d2 d3)))
                have HMO := Lib.hid (rowW_mono xs L j)
                clear hr hq hcx d0 d1 d2 d3
                have HRW := Lib.hid (fun (w2 : World) (h : Below G wo w2) => rrow_take (some ⟨b, off, none⟩) (some ⟨b2, off2, none⟩) ca pc xs L (j + 1) w2 (HA.out.below (HBW.out.trans ((HG.out ▸ h : Below wo.heap.size wo w2).mono HBW.out.size))) (HL.out.below (HG.out ▸ h)) (by omega) (by omega) (by omega))
                obtain ⟨ro, hro⟩ : ∃ ro, ro = rowW xs L j := ⟨_, rfl⟩
                obtain ⟨rn, hrn⟩ : ∃ rn, rn = rowW xs L (j + 1) := ⟨_, rfl⟩
                rw [← hrn] at HST HMO HRW
                rw [← hro] at HMO ⊢
                have HRN := Lib.hid hrn
                clear hro hrn
                obtain ⟨g0, hg0⟩ : ∃ y, y = fun ww => GaugeAt ww G (decide (0 < j)) (picAt L j) (anyW xs L j) := ⟨_, rfl⟩
                obtain ⟨g1, hg1⟩ : ∃ y, y = fun ww => GaugeAt ww G (decide (0 < j + 1)) (picAt L (j + 1)) (anyW xs L (j + 1)) := ⟨_, rfl⟩
                have HG0 := Lib.hid hg0
                have HG1 := Lib.hid hg1
                clear hg0 hg1
                obtain ⟨Ergs, hErgs⟩ : ∃ EE : Nat → Value → World → Prop, EE = fun jj xx ww => match jj with
                    | 0 => xx = .slice (some ⟨b, off, none⟩) xs.length ca
                    | 1 => xx = .int .i64 j
                    | 2 => xx = .pointer (some ⟨b, off + j, none⟩)
                    | 3 => xx = .int .i32 r
                    | 4 => xx = .slice (some ⟨b2, off2, none⟩) L.length pc
                    | 5 => xx = .int .i64 j
                    | 6 => xx = .pointer (some ⟨b2, off2 + j * 4, none⟩)
                    | 7 => xx = .agg #[.int .i64 q.br, .bool q.pc, .int .i64 q.cv, .int .i64 q.ea]
                    | 8 => xx = .int .i64 rn
                    | 9 => xx = .int .i64 rn
                    | _ => True := ⟨_, rfl⟩
                have ergs0 : ∀ xx ww, Ergs 0 xx ww = (xx = .slice (some ⟨b, off, none⟩) xs.length ca) := fun xx ww => congrFun (congrFun (congrFun hErgs 0) xx) ww
                have ergs1 : ∀ xx ww, Ergs 1 xx ww = (xx = .int .i64 j) := fun xx ww => congrFun (congrFun (congrFun hErgs 1) xx) ww
                have ergs2 : ∀ xx ww, Ergs 2 xx ww = (xx = .pointer (some ⟨b, off + j, none⟩)) := fun xx ww => congrFun (congrFun (congrFun hErgs 2) xx) ww
                have ergs3 : ∀ xx ww, Ergs 3 xx ww = (xx = .int .i32 r) := fun xx ww => congrFun (congrFun (congrFun hErgs 3) xx) ww
                have ergs4 : ∀ xx ww, Ergs 4 xx ww = (xx = .slice (some ⟨b2, off2, none⟩) L.length pc) := fun xx ww => congrFun (congrFun (congrFun hErgs 4) xx) ww
                have ergs5 : ∀ xx ww, Ergs 5 xx ww = (xx = .int .i64 j) := fun xx ww => congrFun (congrFun (congrFun hErgs 5) xx) ww
                have ergs6 : ∀ xx ww, Ergs 6 xx ww = (xx = .pointer (some ⟨b2, off2 + j * 4, none⟩)) := fun xx ww => congrFun (congrFun (congrFun hErgs 6) xx) ww
                have ergs7 : ∀ xx ww, Ergs 7 xx ww = (xx = .agg #[.int .i64 q.br, .bool q.pc, .int .i64 q.cv, .int .i64 q.ea]) := fun xx ww => congrFun (congrFun (congrFun hErgs 7) xx) ww
                have ergs8 : ∀ xx ww, Ergs 8 xx ww = (xx = .int .i64 rn) := fun xx ww => congrFun (congrFun (congrFun hErgs 8) xx) ww
                have ergs9 : ∀ xx ww, Ergs 9 xx ww = (xx = .int .i64 rn) := fun xx ww => congrFun (congrFun (congrFun hErgs 9) xx) ww
                obtain ⟨Crgs, hCrgs⟩ : ∃ CC : Array Bool → World → Prop, CC = fun L8 w' => (if Mix.one L8 8 = 0 then g0 w' else g1 w') ∧ Below G wo w' := ⟨_, rfl⟩
                have krgs : ∀ i L w, i ≠ 8 →  Crgs L w → Crgs (L.setIfInBounds i true) w := by
                  intro i L w q8 h
                  rw [hCrgs] at h ⊢
                  simp only [Mix.one_ne q8]; exact h
                obtain ⟨Xrgs, hXrgs⟩ : ∃ XX : World → World → Prop, XX = fun w w1 => True := ⟨_, rfl⟩
                have xrgs : ∀ w, Xrgs w w := fun w => by rw [hXrgs]; exact trivial
                have strgs : ∀ j x w w1, Xrgs w w1 → Ergs j x w → Ergs j x w1 := by
                  intro j x w w1 hx h
                  rw [hXrgs] at hx
                  match j with
                  | 0 => rw [ergs0] at h ⊢; exact h
                  | 1 => rw [ergs1] at h ⊢; exact h
                  | 2 => rw [ergs2] at h ⊢; exact h
                  | 3 => rw [ergs3] at h ⊢; exact h
                  | 4 => rw [ergs4] at h ⊢; exact h
                  | 5 => rw [ergs5] at h ⊢; exact h
                  | 6 => rw [ergs6] at h ⊢; exact h
                  | 7 => rw [ergs7] at h ⊢; exact h
                  | 8 => rw [ergs8] at h ⊢; exact h
                  | 9 => rw [ergs9] at h ⊢; exact h
                  | j + 10 => rw [hErgs]; trivial
                have crgs : Crgs (Array.replicate 10 false) wr.drew := by rw [hCrgs]; exact ⟨(by rw [HG0.out]; exact HGJ.out), HBJ.out.drew⟩
                have brgs : ∀ L w w1, Crgs L w → Below w.heap.size w w1 → Crgs L w1 := by
                  intro L w w1 h hb
                  rw [hCrgs] at h ⊢
                  exact ⟨(by rw [HG0.out, HG1.out] at h ⊢; split <;> rename_i hs <;> simp only [hs, if_true, if_false] at h <;> exact Has.below h.1 hb h.1.lt), h.2.trans (hb.mono (by have := h.2.size; rw [HG.out]; exact this))⟩
                have xbrgs : ∀ w w1, Below w.heap.size w w1 → Xrgs w w1 := by
                  intro w w1 hb
                  rw [hXrgs]
                  trivial
                have Hrgsb := Lib.hid brgs
                have Hrgsxb := Lib.hid xbrgs
                clear brgs xbrgs
                clear hErgs
                have Hrgsk := Lib.hid krgs
                have Hrgsx := Lib.hid xrgs
                have Hrgsst := Lib.hid strgs
                have Hrgsc := Lib.hid crgs
                have HrgshC := Lib.hid hCrgs
                have HrgshX := Lib.hid hXrgs
                have Hrgse0 := Lib.hid ergs0
                have Hrgse1 := Lib.hid ergs1
                have Hrgse2 := Lib.hid ergs2
                have Hrgse3 := Lib.hid ergs3
                have Hrgse4 := Lib.hid ergs4
                have Hrgse5 := Lib.hid ergs5
                have Hrgse6 := Lib.hid ergs6
                have Hrgse7 := Lib.hid ergs7
                have Hrgse8 := Lib.hid ergs8
                have Hrgse9 := Lib.hid ergs9
                clear krgs xrgs strgs crgs hCrgs hXrgs ergs0 ergs1 ergs2 ergs3 ergs4 ergs5 ergs6 ergs7 ergs8 ergs9
                go_wp2_with fail
                refine Reg.regionF Ergs Crgs Xrgs Hrgsst.out (by kernel_rfl) (by kernel_rfl) (by kernel_rfl) Hrgsc.out (fun Frgs hFrgs => ?_)
                simp only [Reg.frame, Reg.dsts, List.map_cons, List.map_nil, Mix.put_lit, Reg.put_none, List.set_cons_succ, List.set_cons_zero, Array.getD, Nat.zero_add, Nat.reduceAdd] at hFrgs
                refine ⟨?_, ?_⟩
                · refine ⟨?_, ?_, ?_, ?_, ?_, ?_, ?_, ?_, ?_, ?_, trivial⟩
                  · intro Lq wq xq hh
                    simp only [hFrgs]
                    refine .inl ⟨rfl, ?_⟩
                    unfold Reg.upon
                    have hk := Hrgsk.out 0 Lq wq (by decide)  hh.cls
                    have hx := Hrgsx.out wq
                    have he : Ergs 0 (.slice (some ⟨b, off, none⟩) xs.length ca) wq := by rw [Hrgse0.out]
                    have HK := Lib.hid (And.intro hk (And.intro he hx))
                    clear hk hx he
                    go_simp
                    exact HK.out
                  · intro Lq wq xq hh
                    simp only [hFrgs]
                    refine .inl ⟨rfl, ?_⟩
                    unfold Reg.upon
                    have hk := Hrgsk.out 1 Lq wq (by decide)  hh.cls
                    have hx := Hrgsx.out wq
                    have he : Ergs 1 (.int .i64 j) wq := by rw [Hrgse1.out]
                    have HK := Lib.hid (And.intro hk (And.intro he hx))
                    clear hk hx he
                    go_simp
                    exact HK.out
                  · intro Lq wq xq hh
                    have d0 : Ergs 0 (xq 0) wq := hh.val 0 (by kernel_rfl) (by kernel_rfl)
                    rw [Hrgse0.out] at d0
                    have d1 : Ergs 1 (xq 1) wq := hh.val 1 (by kernel_rfl) (by kernel_rfl)
                    rw [Hrgse1.out] at d1
                    simp only [hFrgs, d0, d1]
                    clear d0 d1
                    refine .inl ⟨rfl, ?_⟩
                    unfold Reg.upon
                    have hk := Hrgsk.out 2 Lq wq (by decide)  hh.cls
                    have hx := Hrgsx.out wq
                    have he : Ergs 2 (.pointer (some ⟨b, off + j, none⟩)) wq := by rw [Hrgse2.out]
                    have HK := Lib.hid (And.intro hk (And.intro he hx))
                    clear hk hx he
                    go_simp
                    exact HK.out
                  · intro Lq wq xq hh
                    have d2 : Ergs 2 (xq 2) wq := hh.val 2 (by kernel_rfl) (by kernel_rfl)
                    rw [Hrgse2.out] at d2
                    simp only [hFrgs, d2]
                    clear d2
                    refine .inl ⟨rfl, ?_⟩
                    unfold Reg.upon
                    have hc : Crgs Lq wq := hh.cls
                    rw [HrgshC.out] at hc
                    have hcell := (hc.2.cell (p := ⟨b, off + j, none⟩) (by rw [HG.out]; exact hbo)).trans HX.out
                    clear hc
                    have hk := Hrgsk.out 3 Lq wq (by decide)  hh.cls
                    have hx := Hrgsx.out wq
                    have he : Ergs 3 (.int .i32 r) wq := by rw [Hrgse3.out]
                    have HK := Lib.hid (And.intro hk (And.intro he hx))
                    clear hk hx he
                    go_simp
                    exact HK.out
                  · intro Lq wq xq hh
                    simp only [hFrgs]
                    refine .inl ⟨rfl, ?_⟩
                    unfold Reg.upon
                    have hk := Hrgsk.out 4 Lq wq (by decide)  hh.cls
                    have hx := Hrgsx.out wq
                    have he : Ergs 4 (.slice (some ⟨b2, off2, none⟩) L.length pc) wq := by rw [Hrgse4.out]
                    have HK := Lib.hid (And.intro hk (And.intro he hx))
                    clear hk hx he
                    go_simp
                    exact HK.out
                  · intro Lq wq xq hh
                    simp only [hFrgs]
                    refine .inl ⟨rfl, ?_⟩
                    unfold Reg.upon
                    have hk := Hrgsk.out 5 Lq wq (by decide)  hh.cls
                    have hx := Hrgsx.out wq
                    have he : Ergs 5 (.int .i64 j) wq := by rw [Hrgse5.out]
                    have HK := Lib.hid (And.intro hk (And.intro he hx))
                    clear hk hx he
                    go_simp
                    exact HK.out
                  · intro Lq wq xq hh
                    have d4 : Ergs 4 (xq 4) wq := hh.val 4 (by kernel_rfl) (by kernel_rfl)
                    rw [Hrgse4.out] at d4
                    have d5 : Ergs 5 (xq 5) wq := hh.val 5 (by kernel_rfl) (by kernel_rfl)
                    rw [Hrgse5.out] at d5
                    simp only [hFrgs, d4, d5]
                    clear d4 d5
                    refine .inl ⟨rfl, ?_⟩
                    unfold Reg.upon
                    have hk := Hrgsk.out 6 Lq wq (by decide)  hh.cls
                    have hx := Hrgsx.out wq
                    have he : Ergs 6 (.pointer (some ⟨b2, off2 + j * 4, none⟩)) wq := by rw [Hrgse6.out]
                    have HK := Lib.hid (And.intro hk (And.intro he hx))
                    clear hk hx he
                    go_simp
                    exact HK.out
                  · intro Lq wq xq hh
                    have d6 : Ergs 6 (xq 6) wq := hh.val 6 (by kernel_rfl) (by kernel_rfl)
                    rw [Hrgse6.out] at d6
                    simp only [hFrgs, d6]
                    clear d6
                    refine .inl ⟨rfl, ?_⟩
                    unfold Reg.upon
                    have hc : Crgs Lq wq := hh.cls
                    rw [HrgshC.out] at hc
                    have p0 := (hc.2.cell (p := ⟨b2, off2 + j * 4, none⟩) (by rw [HG.out]; exact hb2)).trans HQ0.out.1
                    have p1 := (hc.2.cell (p := ⟨b2, off2 + j * 4 + 1, none⟩) (by rw [HG.out]; exact hb2)).trans HQ0.out.2.1
                    have p2 := (hc.2.cell (p := ⟨b2, off2 + j * 4 + 2, none⟩) (by rw [HG.out]; exact hb2)).trans HQ0.out.2.2.1
                    have p3 := (hc.2.cell (p := ⟨b2, off2 + j * 4 + 3, none⟩) (by rw [HG.out]; exact hb2)).trans HQ0.out.2.2.2
                    clear hc
                    have hk := Hrgsk.out 7 Lq wq (by decide)  hh.cls
                    have hx := Hrgsx.out wq
                    have he : Ergs 7 (.agg #[.int .i64 q.br, .bool q.pc, .int .i64 q.cv, .int .i64 q.ea]) wq := by rw [Hrgse7.out]
                    have HK := Lib.hid (And.intro hk (And.intro he hx))
                    clear hk hx he
                    go_simp
                    exact HK.out
                  · intro Lq wq xq hh
                    have d3 : Ergs 3 (xq 3) wq := hh.val 3 (by kernel_rfl) (by kernel_rfl)
                    rw [Hrgse3.out] at d3
                    have d7 : Ergs 7 (xq 7) wq := hh.val 7 (by kernel_rfl) (by kernel_rfl)
                    rw [Hrgse7.out] at d7
                    simp only [hFrgs, d3, d7]
                    clear d3 d7
                    refine .inl ⟨rfl, ?_⟩
                    unfold Reg.upon
                    have hc : Crgs Lq wq := hh.cls
                    rw [HrgshC.out] at hc
                    rw [hh.un, if_pos rfl] at hc
                    go_simp
                    refine (HST.out _ (by rw [HG0.out] at hc; exact hc.1)).mono ?_
                    rintro e w2 ⟨rfl, h1, h2⟩
                    refine ⟨_, rfl, ?_, (by rw [Hrgse8.out]), (by rw [HrgshX.out]; trivial)⟩
                    rw [HrgshC.out]
                    have h3 : Below G wo w2 := hc.2.trans (h2.below (by rw [HG.out]; exact hc.2.size) (Nat.le_refl _))
                    dsimp only
                    rw [Mix.one_set (by rw [hh.size]; decide), if_neg (by decide)]
                    exact ⟨(by rw [HG1.out]; exact h1), h3⟩
                  · intro Lq wq xq hh
                    have d8 : Ergs 8 (xq 8) wq := hh.val 8 (by kernel_rfl) (by kernel_rfl)
                    rw [Hrgse8.out] at d8
                    simp only [hFrgs, d8]
                    clear d8
                    refine .inl ⟨rfl, ?_⟩
                    unfold Reg.upon
                    have hk := Hrgsk.out 9 Lq wq (by decide)  hh.cls
                    have hx := Hrgsx.out wq
                    have he : Ergs 9 (.int .i64 rn) wq := by rw [Hrgse9.out]
                    have HK := Lib.hid (And.intro hk (And.intro he hx))
                    clear hk hx he
                    go_simp
                    exact HK.out
                intro xq wrgs hcrgs hvrgs
                rw [HrgshC.out] at hcrgs
                simp only [hFrgs]
                have vrgs9 : Ergs 9 (xq 9) wrgs := hvrgs 9 (by decide)
                rw [Hrgse9.out] at vrgs9
                rw [vrgs9]
                clear hvrgs hFrgs Hrgsk Hrgsx Hrgsst Hrgsc HrgshC HrgshX Hrgsb Hrgsxb Hrgse0 Hrgse1 Hrgse2 Hrgse3 Hrgse4 Hrgse5 Hrgse6 Hrgse7 Hrgse8 Hrgse9
                rw [Mix.one_all (by decide), if_neg (by decide), HG1.out] at hcrgs
                have HGN := Lib.hid hcrgs.1
                have HBN := Lib.hid hcrgs.2
                clear hcrgs vrgs9
                have w1 : IntKind.i64.wrap ((j : Int) + 1) = (j : Int) + 1 := by rw [IntKind.wrap_i64]; omega
                obtain ⟨Ergt, hErgt⟩ : ∃ EE : Nat → Value → World → Prop, EE = fun jj xx ww => match jj with
                    | 0 => xx = .int .i64 rn
                    | 1 => xx = .slice (some ⟨b, off, none⟩) xs.length ca
                    | 2 => xx = .int .i64 j
                    | 3 => xx = .int .i64 ((j : Int) + 1)
                    | 4 => xx = .slice (some ⟨b, off, none⟩) (j + 1) ca
                    | 5 => xx = .slice (some ⟨b2, off2, none⟩) L.length pc
                    | 6 => xx = .int .i64 j
                    | 7 => xx = .int .i64 ((j : Int) + 1)
                    | 8 => xx = .slice (some ⟨b2, off2, none⟩) (j + 1) pc
                    | 9 => xx = .int .i64 rn
                    | 10 => xx = .bool false
                    | 11 => xx = .bool false
                    | 12 => xx = .int .i64 rn
                    | 13 => xx = .int .i64 ro
                    | 14 => xx = .bool false
                    | 15 => xx = .bool false
                    | _ => True := ⟨_, rfl⟩
                have ergt0 : ∀ xx ww, Ergt 0 xx ww = (xx = .int .i64 rn) := fun xx ww => congrFun (congrFun (congrFun hErgt 0) xx) ww
                have ergt1 : ∀ xx ww, Ergt 1 xx ww = (xx = .slice (some ⟨b, off, none⟩) xs.length ca) := fun xx ww => congrFun (congrFun (congrFun hErgt 1) xx) ww
                have ergt2 : ∀ xx ww, Ergt 2 xx ww = (xx = .int .i64 j) := fun xx ww => congrFun (congrFun (congrFun hErgt 2) xx) ww
                have ergt3 : ∀ xx ww, Ergt 3 xx ww = (xx = .int .i64 ((j : Int) + 1)) := fun xx ww => congrFun (congrFun (congrFun hErgt 3) xx) ww
                have ergt4 : ∀ xx ww, Ergt 4 xx ww = (xx = .slice (some ⟨b, off, none⟩) (j + 1) ca) := fun xx ww => congrFun (congrFun (congrFun hErgt 4) xx) ww
                have ergt5 : ∀ xx ww, Ergt 5 xx ww = (xx = .slice (some ⟨b2, off2, none⟩) L.length pc) := fun xx ww => congrFun (congrFun (congrFun hErgt 5) xx) ww
                have ergt6 : ∀ xx ww, Ergt 6 xx ww = (xx = .int .i64 j) := fun xx ww => congrFun (congrFun (congrFun hErgt 6) xx) ww
                have ergt7 : ∀ xx ww, Ergt 7 xx ww = (xx = .int .i64 ((j : Int) + 1)) := fun xx ww => congrFun (congrFun (congrFun hErgt 7) xx) ww
                have ergt8 : ∀ xx ww, Ergt 8 xx ww = (xx = .slice (some ⟨b2, off2, none⟩) (j + 1) pc) := fun xx ww => congrFun (congrFun (congrFun hErgt 8) xx) ww
                have ergt9 : ∀ xx ww, Ergt 9 xx ww = (xx = .int .i64 rn) := fun xx ww => congrFun (congrFun (congrFun hErgt 9) xx) ww
                have ergt10 : ∀ xx ww, Ergt 10 xx ww = (xx = .bool false) := fun xx ww => congrFun (congrFun (congrFun hErgt 10) xx) ww
                have ergt11 : ∀ xx ww, Ergt 11 xx ww = (xx = .bool false) := fun xx ww => congrFun (congrFun (congrFun hErgt 11) xx) ww
                have ergt12 : ∀ xx ww, Ergt 12 xx ww = (xx = .int .i64 rn) := fun xx ww => congrFun (congrFun (congrFun hErgt 12) xx) ww
                have ergt13 : ∀ xx ww, Ergt 13 xx ww = (xx = .int .i64 ro) := fun xx ww => congrFun (congrFun (congrFun hErgt 13) xx) ww
                have ergt14 : ∀ xx ww, Ergt 14 xx ww = (xx = .bool false) := fun xx ww => congrFun (congrFun (congrFun hErgt 14) xx) ww
                have ergt15 : ∀ xx ww, Ergt 15 xx ww = (xx = .bool false) := fun xx ww => congrFun (congrFun (congrFun hErgt 15) xx) ww
                obtain ⟨Crgt, hCrgt⟩ : ∃ CC : Array Bool → World → Prop, CC = fun L8 w' => g1 w' ∧ Below G wo w' := ⟨_, rfl⟩
                have krgt : ∀ i L w,  Crgt L w → Crgt (L.setIfInBounds i true) w := by
                  intro i L w  h
                  rw [hCrgt] at h ⊢
                  exact h
                obtain ⟨Xrgt, hXrgt⟩ : ∃ XX : World → World → Prop, XX = fun w w1 => True := ⟨_, rfl⟩
                have xrgt : ∀ w, Xrgt w w := fun w => by rw [hXrgt]; exact trivial
                have strgt : ∀ j x w w1, Xrgt w w1 → Ergt j x w → Ergt j x w1 := by
                  intro j x w w1 hx h
                  rw [hXrgt] at hx
                  match j with
                  | 0 => rw [ergt0] at h ⊢; exact h
                  | 1 => rw [ergt1] at h ⊢; exact h
                  | 2 => rw [ergt2] at h ⊢; exact h
                  | 3 => rw [ergt3] at h ⊢; exact h
                  | 4 => rw [ergt4] at h ⊢; exact h
                  | 5 => rw [ergt5] at h ⊢; exact h
                  | 6 => rw [ergt6] at h ⊢; exact h
                  | 7 => rw [ergt7] at h ⊢; exact h
                  | 8 => rw [ergt8] at h ⊢; exact h
                  | 9 => rw [ergt9] at h ⊢; exact h
                  | 10 => rw [ergt10] at h ⊢; exact h
                  | 11 => rw [ergt11] at h ⊢; exact h
                  | 12 => rw [ergt12] at h ⊢; exact h
                  | 13 => rw [ergt13] at h ⊢; exact h
                  | 14 => rw [ergt14] at h ⊢; exact h
                  | 15 => rw [ergt15] at h ⊢; exact h
                  | j + 16 => rw [hErgt]; trivial
                have crgt : Crgt (Array.replicate 16 false) wrgs.drew := by rw [hCrgt]; exact ⟨(by rw [HG1.out]; exact HGN.out), HBN.out.drew⟩
                have brgt : ∀ L w w1, Crgt L w → Below w.heap.size w w1 → Crgt L w1 := by
                  intro L w w1 h hb
                  rw [hCrgt] at h ⊢
                  exact ⟨(by rw [HG1.out] at h ⊢; exact Has.below h.1 hb h.1.lt), h.2.trans (hb.mono (by have := h.2.size; rw [HG.out]; exact this))⟩
                have xbrgt : ∀ w w1, Below w.heap.size w w1 → Xrgt w w1 := by
                  intro w w1 hb
                  rw [hXrgt]
                  trivial
                have Hrgtb := Lib.hid brgt
                have Hrgtxb := Lib.hid xbrgt
                clear brgt xbrgt
                clear hErgt
                have Hrgtk := Lib.hid krgt
                have Hrgtx := Lib.hid xrgt
                have Hrgtst := Lib.hid strgt
                have Hrgtc := Lib.hid crgt
                have HrgthC := Lib.hid hCrgt
                have HrgthX := Lib.hid hXrgt
                have Hrgte0 := Lib.hid ergt0
                have Hrgte1 := Lib.hid ergt1
                have Hrgte2 := Lib.hid ergt2
                have Hrgte3 := Lib.hid ergt3
                have Hrgte4 := Lib.hid ergt4
                have Hrgte5 := Lib.hid ergt5
                have Hrgte6 := Lib.hid ergt6
                have Hrgte7 := Lib.hid ergt7
                have Hrgte8 := Lib.hid ergt8
                have Hrgte9 := Lib.hid ergt9
                have Hrgte10 := Lib.hid ergt10
                have Hrgte11 := Lib.hid ergt11
                have Hrgte12 := Lib.hid ergt12
                have Hrgte13 := Lib.hid ergt13
                have Hrgte14 := Lib.hid ergt14
                have Hrgte15 := Lib.hid ergt15
                clear krgt xrgt strgt crgt hCrgt hXrgt ergt0 ergt1 ergt2 ergt3 ergt4 ergt5 ergt6 ergt7 ergt8 ergt9 ergt10 ergt11 ergt12 ergt13 ergt14 ergt15
                go_wp2_with fail
                refine Reg.regionF Ergt Crgt Xrgt Hrgtst.out (by kernel_rfl) (by kernel_rfl) (by kernel_rfl) Hrgtc.out (fun Frgt hFrgt => ?_)
                simp only [Reg.frame, Reg.dsts, List.map_cons, List.map_nil, Mix.put_lit, Reg.put_none, List.set_cons_succ, List.set_cons_zero, Array.getD, Nat.zero_add, Nat.reduceAdd] at hFrgt
                refine ⟨?_, ?_⟩
                · refine ⟨?_, ?_, ?_, ?_, ?_, ?_, ?_, ?_, ?_, ?_, ?_, ?_, ?_, ?_, ?_, ?_, trivial⟩
                  · intro Lq wq xq hh
                    simp only [hFrgt]
                    refine .inl ⟨rfl, ?_⟩
                    unfold Reg.upon
                    have hk := Hrgtk.out 0 Lq wq  hh.cls
                    have hx := Hrgtx.out wq
                    have he : Ergt 0 (.int .i64 rn) wq := by rw [Hrgte0.out]
                    have HK := Lib.hid (And.intro hk (And.intro he hx))
                    clear hk hx he
                    go_simp
                    exact HK.out
                  · intro Lq wq xq hh
                    simp only [hFrgt]
                    refine .inl ⟨rfl, ?_⟩
                    unfold Reg.upon
                    have hk := Hrgtk.out 1 Lq wq  hh.cls
                    have hx := Hrgtx.out wq
                    have he : Ergt 1 (.slice (some ⟨b, off, none⟩) xs.length ca) wq := by rw [Hrgte1.out]
                    have HK := Lib.hid (And.intro hk (And.intro he hx))
                    clear hk hx he
                    go_simp
                    exact HK.out
                  · intro Lq wq xq hh
                    simp only [hFrgt]
                    refine .inl ⟨rfl, ?_⟩
                    unfold Reg.upon
                    have hk := Hrgtk.out 2 Lq wq  hh.cls
                    have hx := Hrgtx.out wq
                    have he : Ergt 2 (.int .i64 j) wq := by rw [Hrgte2.out]
                    have HK := Lib.hid (And.intro hk (And.intro he hx))
                    clear hk hx he
                    go_simp
                    exact HK.out
                  · intro Lq wq xq hh
                    have d2 : Ergt 2 (xq 2) wq := hh.val 2 (by kernel_rfl) (by kernel_rfl)
                    rw [Hrgte2.out] at d2
                    simp only [hFrgt, d2]
                    clear d2
                    refine .inl ⟨rfl, ?_⟩
                    unfold Reg.upon
                    have hk := Hrgtk.out 3 Lq wq  hh.cls
                    have hx := Hrgtx.out wq
                    have he : Ergt 3 (.int .i64 ((j : Int) + 1)) wq := by rw [Hrgte3.out]
                    have HK := Lib.hid (And.intro hk (And.intro he hx))
                    clear hk hx he
                    go_simp
                    exact HK.out
                  · intro Lq wq xq hh
                    have d1 : Ergt 1 (xq 1) wq := hh.val 1 (by kernel_rfl) (by kernel_rfl)
                    rw [Hrgte1.out] at d1
                    have d3 : Ergt 3 (xq 3) wq := hh.val 3 (by kernel_rfl) (by kernel_rfl)
                    rw [Hrgte3.out] at d3
                    simp only [hFrgt, d1, d3]
                    clear d1 d3
                    refine .inl ⟨rfl, ?_⟩
                    unfold Reg.upon
                    have hc : Crgt Lq wq := hh.cls
                    rw [HrgthC.out] at hc
                    have hsa : (0 : Int) ≤ (j : Int) + 1 ∧ (j : Int) + 1 ≤ (ca : Int) := ⟨by omega, by omega⟩
                    clear hc
                    have hk := Hrgtk.out 4 Lq wq  hh.cls
                    have hx := Hrgtx.out wq
                    have he : Ergt 4 (.slice (some ⟨b, off, none⟩) (j + 1) ca) wq := by rw [Hrgte4.out]
                    have HK := Lib.hid (And.intro hk (And.intro he hx))
                    clear hk hx he
                    go_simp
                    exact HK.out
                  · intro Lq wq xq hh
                    simp only [hFrgt]
                    refine .inl ⟨rfl, ?_⟩
                    unfold Reg.upon
                    have hk := Hrgtk.out 5 Lq wq  hh.cls
                    have hx := Hrgtx.out wq
                    have he : Ergt 5 (.slice (some ⟨b2, off2, none⟩) L.length pc) wq := by rw [Hrgte5.out]
                    have HK := Lib.hid (And.intro hk (And.intro he hx))
                    clear hk hx he
                    go_simp
                    exact HK.out
                  · intro Lq wq xq hh
                    simp only [hFrgt]
                    refine .inl ⟨rfl, ?_⟩
                    unfold Reg.upon
                    have hk := Hrgtk.out 6 Lq wq  hh.cls
                    have hx := Hrgtx.out wq
                    have he : Ergt 6 (.int .i64 j) wq := by rw [Hrgte6.out]
                    have HK := Lib.hid (And.intro hk (And.intro he hx))
                    clear hk hx he
                    go_simp
                    exact HK.out
                  · intro Lq wq xq hh
                    have d6 : Ergt 6 (xq 6) wq := hh.val 6 (by kernel_rfl) (by kernel_rfl)
                    rw [Hrgte6.out] at d6
                    simp only [hFrgt, d6]
                    clear d6
                    refine .inl ⟨rfl, ?_⟩
                    unfold Reg.upon
                    have hk := Hrgtk.out 7 Lq wq  hh.cls
                    have hx := Hrgtx.out wq
                    have he : Ergt 7 (.int .i64 ((j : Int) + 1)) wq := by rw [Hrgte7.out]
                    have HK := Lib.hid (And.intro hk (And.intro he hx))
                    clear hk hx he
                    go_simp
                    exact HK.out
                  · intro Lq wq xq hh
                    have d5 : Ergt 5 (xq 5) wq := hh.val 5 (by kernel_rfl) (by kernel_rfl)
                    rw [Hrgte5.out] at d5
                    have d7 : Ergt 7 (xq 7) wq := hh.val 7 (by kernel_rfl) (by kernel_rfl)
                    rw [Hrgte7.out] at d7
                    simp only [hFrgt, d5, d7]
                    clear d5 d7
                    refine .inl ⟨rfl, ?_⟩
                    unfold Reg.upon
                    have hc : Crgt Lq wq := hh.cls
                    rw [HrgthC.out] at hc
                    have hsa : (0 : Int) ≤ (j : Int) + 1 ∧ (j : Int) + 1 ≤ (pc : Int) := ⟨by omega, by omega⟩
                    clear hc
                    have hk := Hrgtk.out 8 Lq wq  hh.cls
                    have hx := Hrgtx.out wq
                    have he : Ergt 8 (.slice (some ⟨b2, off2, none⟩) (j + 1) pc) wq := by rw [Hrgte8.out]
                    have HK := Lib.hid (And.intro hk (And.intro he hx))
                    clear hk hx he
                    go_simp
                    exact HK.out
                  · intro Lq wq xq hh
                    have d4 : Ergt 4 (xq 4) wq := hh.val 4 (by kernel_rfl) (by kernel_rfl)
                    rw [Hrgte4.out] at d4
                    have d8 : Ergt 8 (xq 8) wq := hh.val 8 (by kernel_rfl) (by kernel_rfl)
                    rw [Hrgte8.out] at d8
                    simp only [hFrgt, d4, d8]
                    clear d4 d8
                    refine .inl ⟨rfl, ?_⟩
                    unfold Reg.upon
                    have hc : Crgt Lq wq := hh.cls
                    rw [HrgthC.out] at hc
                    go_simp
                    refine (HRW.out _ hc.2).mono ?_
                    rintro e w2 ⟨rfl, hb⟩
                    exact ⟨_, rfl, Hrgtk.out 9 Lq w2  (Hrgtb.out Lq wq w2 hh.cls hb), (by rw [Hrgte9.out]; try rfl), Hrgtxb.out wq w2 hb⟩
                  · intro Lq wq xq hh
                    have d0 : Ergt 0 (xq 0) wq := hh.val 0 (by kernel_rfl) (by kernel_rfl)
                    rw [Hrgte0.out] at d0
                    have d9 : Ergt 9 (xq 9) wq := hh.val 9 (by kernel_rfl) (by kernel_rfl)
                    rw [Hrgte9.out] at d9
                    simp only [hFrgt, d0, d9]
                    clear d0 d9
                    refine .inl ⟨rfl, ?_⟩
                    unfold Reg.upon
                    have hk := Hrgtk.out 10 Lq wq  hh.cls
                    have hx := Hrgtx.out wq
                    have he : Ergt 10 (.bool false) wq := by rw [Hrgte10.out]
                    have HK := Lib.hid (And.intro hk (And.intro he hx))
                    clear hk hx he
                    go_simp
                    exact HK.out
                  · intro Lq wq xq hh
                    have d10 : Ergt 10 (xq 10) wq := hh.val 10 (by kernel_rfl) (by kernel_rfl)
                    rw [Hrgte10.out] at d10
                    simp only [hFrgt, d10]
                    clear d10
                    refine .inl ⟨rfl, ?_⟩
                    unfold Reg.upon
                    have hk := Hrgtk.out 11 Lq wq  hh.cls
                    have hx := Hrgtx.out wq
                    have he : Ergt 11 (.bool false) wq := by rw [Hrgte11.out]
                    have HK := Lib.hid (And.intro hk (And.intro he hx))
                    clear hk hx he
                    go_simp
                    exact HK.out
                  · intro Lq wq xq hh
                    have d11 : Ergt 11 (xq 11) wq := hh.val 11 (by kernel_rfl) (by kernel_rfl)
                    rw [Hrgte11.out] at d11
                    simp only [hFrgt, d11]
                    clear d11
                    refine .inl ⟨rfl, ?_⟩
                    unfold Reg.upon
                    have hk := Hrgtk.out 12 Lq wq  hh.cls
                    have hx := Hrgtx.out wq
                    have he : Ergt 12 (.int .i64 rn) wq := by rw [Hrgte12.out]
                    have HK := Lib.hid (And.intro hk (And.intro he hx))
                    clear hk hx he
                    go_simp
                    exact HK.out
                  · intro Lq wq xq hh
                    have d11 : Ergt 11 (xq 11) wq := hh.val 11 (by kernel_rfl) (by kernel_rfl)
                    rw [Hrgte11.out] at d11
                    simp only [hFrgt, d11]
                    clear d11
                    refine .inl ⟨rfl, ?_⟩
                    unfold Reg.upon
                    have hk := Hrgtk.out 13 Lq wq  hh.cls
                    have hx := Hrgtx.out wq
                    have he : Ergt 13 (.int .i64 ro) wq := by rw [Hrgte13.out]
                    have HK := Lib.hid (And.intro hk (And.intro he hx))
                    clear hk hx he
                    go_simp
                    exact HK.out
                  · intro Lq wq xq hh
                    have d11 : Ergt 11 (xq 11) wq := hh.val 11 (by kernel_rfl) (by kernel_rfl)
                    rw [Hrgte11.out] at d11
                    have d12 : Ergt 12 (xq 12) wq := hh.val 12 (by kernel_rfl) (by kernel_rfl)
                    rw [Hrgte12.out] at d12
                    have d13 : Ergt 13 (xq 13) wq := hh.val 13 (by kernel_rfl) (by kernel_rfl)
                    rw [Hrgte13.out] at d13
                    simp only [hFrgt, d11, d12, d13]
                    clear d11 d12 d13
                    refine .inl ⟨rfl, ?_⟩
                    unfold Reg.upon
                    have hc : Crgt Lq wq := hh.cls
                    rw [HrgthC.out] at hc
                    have hm14 := HMO.out
                    clear hc
                    have hk := Hrgtk.out 14 Lq wq  hh.cls
                    have hx := Hrgtx.out wq
                    have he : Ergt 14 (.bool false) wq := by rw [Hrgte14.out]
                    have HK := Lib.hid (And.intro hk (And.intro he hx))
                    clear hk hx he
                    go_simp
                    exact HK.out
                  · intro Lq wq xq hh
                    have d11 : Ergt 11 (xq 11) wq := hh.val 11 (by kernel_rfl) (by kernel_rfl)
                    rw [Hrgte11.out] at d11
                    have d14 : Ergt 14 (xq 14) wq := hh.val 14 (by kernel_rfl) (by kernel_rfl)
                    rw [Hrgte14.out] at d14
                    simp only [hFrgt, d11, d14]
                    clear d11 d14
                    refine .inl ⟨rfl, ?_⟩
                    unfold Reg.upon
                    have hk := Hrgtk.out 15 Lq wq  hh.cls
                    have hx := Hrgtx.out wq
                    have he : Ergt 15 (.bool false) wq := by rw [Hrgte15.out]
                    have HK := Lib.hid (And.intro hk (And.intro he hx))
                    clear hk hx he
                    go_simp
                    exact HK.out
                intro xq wrgt hcrgt hvrgt
                rw [HrgthC.out] at hcrgt
                simp only [hFrgt]
                have vrgt15 : Ergt 15 (xq 15) wrgt := hvrgt 15 (by decide)
                rw [Hrgte15.out] at vrgt15
                rw [vrgt15]
                clear hvrgt hFrgt Hrgtk Hrgtx Hrgtst Hrgtc HrgthC HrgthX Hrgtb Hrgtxb Hrgte0 Hrgte1 Hrgte2 Hrgte3 Hrgte4 Hrgte5 Hrgte6 Hrgte7 Hrgte8 Hrgte9 Hrgte10 Hrgte11 Hrgte12 Hrgte13 Hrgte14 Hrgte15
                have HGF := Lib.hid hcrgt
                clear hcrgt
                go_wp2
                go_roundw
                case rel => exact ⟨j + 1, by omega, by go_num, by rw [← HRN.out], (by have := HGF.out.1; rw [HG1.out] at this; exact this), HGF.out.2⟩
                case measure => simp [intOf] <;> omega
              · obtain rfl : j = xs.length := by omega
                go_wp2_with fail
                refine (greset_any G _ _ _ _ HGJ.out).mono ?_
                rintro e w2 ⟨rfl, h1, h2⟩
                have hb2 : Below G wo w2 := HBJ.out.trans (h2.below (by rw [HG.out]; exact HBJ.out.size) (Nat.le_refl _))
                have H1 := Lib.hid h1
                have H2 := Lib.hid hb2
                clear h1 h2 hb2
                go_wp2
                go_roundw
                case rel => exact ⟨k + 1, by omega, by go_num, H1.out, H2.out⟩
                case measure => simp [intOf] <;> omega
          · go_wp2_with fail
            go_wp2_with fail
            refine (greset_nil _).mono ?_
            rintro e w' ⟨rfl, rfl⟩
            go_wp2_with fail
            refine (gstep_nil _ _ _ _ _ _).mono ?_
            rintro e w2 ⟨rfl, b2⟩
            have hb2 := HBW.out.trans ((HG.out ▸ HBZ.out : Below wo.heap.size wo wr).mono HBW.out.size)
            have hb3 := hb2.trans (b2.mono hb2.size)
            go_wp2
            go_ret
            exact ⟨(ret_eq (by first | rfl | (simp <;> omega))), hb3⟩
set_option maxRecDepth 100000 in
theorem walk {H : Type} {enc : TypeId × Value → H} (W : World) {base base' : Nat} (v : Value) {d : DataW H} {p : List MemPlace} (hv : Value.okWide Try.prog W .any base 22 v) (h : DataW.Trod enc Try.prog W 0 (fun _ => true) true 22 v d p)
    (u : Value) {d' : DataW H} {p' : List MemPlace} (hv' : Value.okWide Try.prog W .any base' 23 u) (h' : DataW.Trod enc Try.prog W 0 (fun _ => true) true 23 u d' p') : Calls Try.prog 3 #[v, u] W (Yes W) := by
  obtain ⟨xs, ha, ca, hw⟩ := heldc_arg Try.underlying22 Try.underlying21 (by kernel_rfl) hv h
  obtain ⟨L, hb⟩ := open_props hv' h'
  exact walkH W v u xs L ha hw hb ca (capP_arg hv' h')

set_option maxRecDepth 100000 in
theorem lifted (os : Os) (started : os.Started) (H : Type) (enc : TypeId × Value → H) :
    ReturnsInHanded {} Try.checked os 3 .any (Rows.cwidthStepsSpec.pre6 enc Try.prog Try.f3 Rows.cwidthStepsRow.domain false) (Rows.cwidthStepsSpec.post enc Try.prog Try.f3 false true false false) := by
  refine law_frame_plain (C := Try.checked) (tb := 4) (by kernel_rfl) started (by kernel_rfl) Try.func3 (by kernel_rfl) (by kernel_rfl) Try.underlying4 rfl
    (by rw [Try.params3]; intro t ht; simp at ht; rcases ht with rfl | rfl <;> exact ⟨by kernel_rfl, of_decide_eq_true (by kernel_rfl)⟩)
    (by rw [Try.params3]; intro ds hd; match ds, hd with | [_, _], _ => rfl)
    (ChangeSpec.witness6 (enc := enc) (C := Try.checked) false ⟨#[], #[.slice none 0 0, .slice none 0 0], []⟩ 8 (by kernel_rfl) (by kernel_rfl) (by kernel_rfl) (by kernel_rfl)) ?_
  intro W base args ds before hval hA
  rw [Try.params3] at hA hval
  obtain ⟨v0, vs0, d0, ds0, p0, q0, hargs, rfl, rfl, h0, r0⟩ := trodAll_cons hA
  obtain ⟨v1, vs1, d1, ds1, p1, q1, rfl, rfl, rfl, h1, r1⟩ := trodAll_cons r0
  obtain ⟨rfl, rfl, rfl⟩ := trodAll_nil r1
  obtain rfl : args = #[v0, v1] := by cases args; simp_all

  exact walk W v0 (hval 0 22 v0 rfl rfl) h0 v1 (hval 1 23 v1 rfl rfl) h1

theorem proved : Rows.CwidthStepsSaid :=
  OpenClaim.holds_of_wide 3 Try.f3 rfl rfl rfl rfl rfl rfl rfl ⟨rfl, rfl, rfl, rfl, rfl⟩ rfl rfl rfl rfl rfl (by kernel_rfl) Try.func3 (by kernel_rfl)
    (of_decide_eq_true (by kernel_rfl)) (by unfold Func.isWrapper; first | (rw [if_pos (by decide +kernel)]; kernel_rfl) | (rw [if_neg (by decide +kernel)]; exact ⟨rfl, rfl⟩))
    (fun os started H enc _ => lifted os started H enc)
#print axioms proved

end Go.Proofs.Ytfkeeigaocmalaa.lawCwidthSteps
