/- TableLays (60.1, 60.2) answers true at every table, gap and columns, and turns nothing. No condition: a text is no longer than the form's reach. -/
import Derived.Test.YtkpmmkokfllafaaGreatTblW
import Derived.Test.YtkpmmkokfllafaaGreatMg1
import Derived.Test.YtkpmmkokfllafaaGreatMg7
import Derived.ProofKit
namespace Go.Proofs.YtkpmmkokfllafaaGreat.lawTableLays
open Go.ChangeShapes Go.WideShapes Go.ChangeAt Go.RowKit
attribute [local go_sem] Oper.semAt_some
theorem info_iL : (Tryz.prog.info? 3).map (fun i => (i.zero, i.size, i.bytes)) = some (some (.int .i64 0), (intE .i64).size, 8) := by kernel_rfl
theorem take_fst (cols : List (Int × Int)) (k : Nat) (h : k < cols.length) : (cols.map Prod.fst).take (k + 1) = (cols.map Prod.fst).take k ++ [(cols.getD k (0, 0)).1] := by
  rw [List.take_succ_eq_append_getElem (by rw [List.length_map]; exact h)]
  simp [List.getD, List.getElem?_eq_getElem h]
theorem take_snd (cols : List (Int × Int)) (k : Nat) (h : k < cols.length) : (cols.map Prod.snd).take (k + 1) = (cols.map Prod.snd).take k ++ [(cols.getD k (0, 0)).2] := by
  rw [List.take_succ_eq_append_getElem (by rw [List.length_map]; exact h)]
  simp [List.getD, List.getElem?_eq_getElem h]
theorem take_len (cols : List (Int × Int)) (k : Nat) : ((cols.map Prod.fst).take k).length ≤ k ∧ ((cols.map Prod.snd).take k).length ≤ k := by
  simp only [List.length_map, List.length_take]
  omega
set_option maxRecDepth 100000 in
set_option maxHeartbeats 6000000 in
theorem walkH (W : World) (v u : Value) (rows : List (List (List Int))) (cols : List (Int × Int)) (gap : Int) (hv : HeldE rowsE (fun b => b < W.heap.size) W v rows) (hu : HeldE colE (fun b => b < W.heap.size) W u cols) (hr : ∀ i k, bounds32 (atC rows i k)) (ht : ∀ i k, (atC rows i k).length ≤ 35184372088832) : Calls Tryz.prog 3 #[v, .int .i64 gap, u] W (Yes W) := by
  have hmx1 := hv.max
  have hmx2 := hu.max
  obtain ⟨ao, ca, rfl⟩ := hv.len
  obtain ⟨bo, cb, rfl⟩ := hu.len
  have HV := Lib.hid hv
  have HU := Lib.hid hu
  have HR := Lib.hid hr
  have hcap1 := hv.spots.2.1
  have hcap2 := hu.spots.2.1
  have HG := Lib.hid (fun (w1 : World) (b1 : Below W.heap.size W w1) => great60_any _ _ rows w1 (hv.below b1) ht)
  have HTW := Lib.hid (fun (w1 : World) (b1 : Below W.heap.size W w1) => twid_any _ _ rows cols w1 ((hv.below b1).zone fun b hb _ => hb) ((hu.below b1).zone fun b hb _ => hb))
  have HTL := Lib.hid (fun (w1 : World) (b1 : Below W.heap.size W w1) => tlines_any _ _ rows cols gap w1 ((hv.below b1).zone fun b hb _ => hb) ((hu.below b1).zone fun b hb _ => hb))
  have HRW := Lib.hid (fun (w1 : World) (b1 : Below W.heap.size W w1) k most => rwid_any _ _ rows k most w1 (hv.below b1))
  have HRL := Lib.hid (fun (w1 : World) (b1 : Below W.heap.size W w1) mv sv i hm hs => rline_any _ mv sv rows cols i gap w1 ((hv.below b1).zone fun b hb _ => hb) hm hs)
  obtain ⟨rl, hrl⟩ : ∃ rl, rl = rows.length := ⟨_, rfl⟩
  obtain ⟨cl, hcl⟩ : ∃ cl, cl = cols.length := ⟨_, rfl⟩
  rw [← hrl] at hmx1 hcap1 HV HG HTW HTL HRW HRL ⊢
  rw [← hcl] at hmx2 hcap2 HU HTW HTL HRL ⊢
  have HRL0 := Lib.hid hrl
  have HCL0 := Lib.hid hcl
  clear hv hu hr ht hrl hcl
  go_enter Tryz.func3, Tryz.ntmps3
  go_wp2_with fail
  refine (works60_any _).mono ?_
  rintro e w1 ⟨rfl, b1⟩
  have hg := HG.out w1 b1
  go_wp2_with fail
  refine hg.mono ?_
  clear hg
  rintro e w2 ⟨bb, rfl, hbb, b2⟩
  have b2 := b1.trans (b2.mono b1.size)
  cases bb with
  | true =>
    clear hbb
    go_wp2_with fail
    refine (works60_any _).mono ?_
    rintro e w3 ⟨rfl, b3⟩
    have b3 := b2.trans (b3.mono b2.size)
    go_wp2
    go_ret
    exact ⟨(ret_eq (by first | rfl | (simp <;> omega))), b3⟩
  | false =>
    obtain ⟨hn, hsm⟩ := hbb rfl
    clear hbb
    by_cases hc : 10 < cl
    · have hd1 : decide ((10 : Int) < (cl : Int)) = true := by rw [decide_eq_true_eq]; omega
      have hd2 : decide (10 < cl) = true := by rw [decide_eq_true_eq]; omega
      clear hsm
      go_wp2_with fail
      refine (works60_any _).mono ?_
      rintro e w3 ⟨rfl, b3⟩
      have b3 := b2.trans (b3.mono b2.size)
      go_wp2
      go_ret
      exact ⟨(ret_eq (by first | rfl | (simp <;> omega))), b3⟩
    · have hd1 : decide ((10 : Int) < (cl : Int)) = false := by rw [decide_eq_false_iff_not]; omega
      have hd2 : decide (10 < cl) = false := by rw [decide_eq_false_iff_not]; omega
      have hc10 : cl ≤ 10 := by omega
      rw [HRL0.out] at hsm
      have HSM := Lib.hid (fun i k => Small.at hsm i k)
      have hts : ∀ i k, (atC rows i k).length ≤ 1000 := fun i k => by have := HSM.out i k; omega
      have hw := HTW.out w2 b2 (by omega) (by omega) hts
      have HTS := Lib.hid hts
      have B2 := Lib.hid b2
      clear b1 b2 hts hsm hc
      go_wp2_with fail
      refine hw.mono ?_
      clear hw
      rintro e w3 ⟨gw, rfl, hgw, hrow, b3⟩
      have HROW3 := Lib.hid hrow
      have B3 := Lib.hid (B2.out.trans (b3.mono B2.out.size))
      clear hgw hrow b3
      have hl := HTL.out w3 B3.out (by omega) (by omega) HTS.out
      go_wp2_with fail
      refine hl.mono ?_
      clear hl
      rintro e w4 ⟨g, VS, rfl, hld, b4⟩
      have HROW := Lib.hid (show IRow w4 gw (widsC rows cols cl) from Has.below HROW3.out b4 (Has.lt HROW3.out))
      have B4 := Lib.hid (B3.out.trans (b4.mono B3.out.size))
      have HLD := Lib.hid hld
      clear hld b4 HROW3
      go_wp2
      go_loopw [9, 10, 11] (fun mv sv kv wr => ∃ k : Nat, k ≤ cl ∧ kv = .int .i64 k ∧ OwnE (intE .i64) (fun _ => True) wr w4.heap.size 3 mv ((cols.map Prod.fst).take k) ∧ OwnE (intE .i64) (fun _ => True) wr w4.heap.size 3 sv ((cols.map Prod.snd).take k) ∧ (∀ b, mv.ownBlock = some b → sv.ownBlock ≠ some b) ∧ Below w4.heap.size w4 wr) (fun _ _ kv _ => cl - (intOf kv).toNat)
      case atStart => exact ⟨0, Nat.zero_le _, rfl, OwnE.nil _ _ _ _ _, OwnE.nil _ _ _ _ _, fun b hb => absurd hb (by simp [Value.ownBlock]), Below.refl _ _⟩
      case round =>
        obtain ⟨k, hk, rfl, hmo, hso, hne, hbk⟩ := hrel
        obtain ⟨mv, hmv⟩ : ∃ mv, mv = u9 := ⟨_, rfl⟩
        obtain ⟨sv, hsv⟩ : ∃ sv, sv = u10 := ⟨_, rfl⟩
        rw [← hmv] at hmo hne ⊢
        rw [← hsv] at hso hne ⊢
        obtain ⟨wk, hwk⟩ : ∃ wk, wk = wr := ⟨_, rfl⟩
        subst hwk
        have HMO := Lib.hid hmo
        have HSO := Lib.hid hso
        have HNE := Lib.hid hne
        have HBK := Lib.hid hbk
        clear hmv hsv hmo hso hne hbk
        by_cases hlt : k < cl
        · have g1 : decide ((k : Int) < (cl : Int)) = true := by rw [decide_eq_true_eq]; omega
          have g2 : decide (k < cl) = true := by rw [decide_eq_true_eq]; omega
          have hki : (k : Int) < (cl : Int) := by omega
          have hkc : k < cb := by omega
          have hwk : IntKind.i64.wrap ((k : Int) + 1) = (k : Int) + 1 := by rw [IntKind.wrap_i64]; omega
          have BK := Lib.hid (B4.out.trans (HBK.out.mono B4.out.size))
          obtain ⟨b, o, e, hb, hz, C, q8, hr⟩ := HU.out.spots.2.2 k (by rw [← HCL0.out]; exact hlt)
          subst e
          rw [col_rep] at hr
          subst hr
          have c0 := (BK.out.cell (p := ⟨b, o + k * 2, none⟩) hb).trans (q8 0 (by decide))
          have c1 := (BK.out.cell (p := ⟨b, o + k * 2 + 1, none⟩) hb).trans (q8 1 (by decide))
          simp only [List.getElem?_cons_zero, List.getElem?_cons_succ] at c0 c1
          rw [show colE.zero = ((0, 0) : Int × Int) from rfl] at c0 c1
          have htf := take_fst cols k (by rw [← HCL0.out]; exact hlt)
          have hts := take_snd cols k (by rw [← HCL0.out]; exact hlt)
          have hwa := wids_at rows cols cl k (by rw [← HCL0.out]; exact hlt)
          rw [if_pos hlt] at hwa
          obtain ⟨⟨most, side⟩, hms⟩ : ∃ y, y = cols.getD k (0, 0) := ⟨_, rfl⟩
          rw [← hms] at c0 c1 htf hts hwa
          simp only at c0 c1 htf hts hwa
          have HWID := Lib.hid (fun w' (hb : Below W.heap.size W w') => HRW.out w' hb k most (by omega) (by omega) HTS.out HR.out)
          obtain ⟨wd, hwd⟩ : ∃ wd, wd = widC rows k most := ⟨_, rfl⟩
          rw [← hwd] at hwa HWID
          have HWA := Lib.hid hwa
          have HTF := Lib.hid htf
          have HTD := Lib.hid hts
          have C0 := Lib.hid c0
          have C1 := Lib.hid c1
          have HBB9 := Lib.hid (show b < w4.heap.size from Nat.lt_of_lt_of_le hb B4.out.size)
          have HBL := Lib.hid (show b < wk.heap.size from Nat.lt_of_lt_of_le hb BK.out.size)
          have HRK := Lib.hid (show IRow wk gw (widsC rows cols cl) from Has.below HROW.out HBK.out (Has.lt HROW.out))
          have HTK := Lib.hid (take_len cols k)
          clear q8 hms hwd htf hts hwa hb hz
          clear c0 c1
          go_wp2
          obtain ⟨Ergk, hErgk⟩ : ∃ EE : Nat → Value → World → Prop, EE = fun jj xx ww => match jj with
              | 0 => xx = .slice (some ⟨gw, 0, none⟩) cl cl
              | 1 => xx = .int .i64 (k : Int)
              | 2 => xx = .pointer (some ⟨gw, k, none⟩)
              | 3 => xx = .int .i64 wd
              | 4 => xx = .slice ao rl ca
              | 5 => xx = .int .i64 (k : Int)
              | 6 => xx = .slice (some ⟨b, o, none⟩) cl cb
              | 7 => xx = .int .i64 (k : Int)
              | 8 => xx = .pointer (some ⟨b, o + k * 2, none⟩)
              | 9 => xx = .pointer (some ⟨b, o + k * 2, none⟩)
              | 10 => xx = .int .i64 most
              | 11 => xx = .int .i64 wd
              | 12 => xx = .bool false
              | _ => True := ⟨_, rfl⟩
          have ergk0 : ∀ xx ww, Ergk 0 xx ww = (xx = .slice (some ⟨gw, 0, none⟩) cl cl) := fun xx ww => congrFun (congrFun (congrFun hErgk 0) xx) ww
          have ergk1 : ∀ xx ww, Ergk 1 xx ww = (xx = .int .i64 (k : Int)) := fun xx ww => congrFun (congrFun (congrFun hErgk 1) xx) ww
          have ergk2 : ∀ xx ww, Ergk 2 xx ww = (xx = .pointer (some ⟨gw, k, none⟩)) := fun xx ww => congrFun (congrFun (congrFun hErgk 2) xx) ww
          have ergk3 : ∀ xx ww, Ergk 3 xx ww = (xx = .int .i64 wd) := fun xx ww => congrFun (congrFun (congrFun hErgk 3) xx) ww
          have ergk4 : ∀ xx ww, Ergk 4 xx ww = (xx = .slice ao rl ca) := fun xx ww => congrFun (congrFun (congrFun hErgk 4) xx) ww
          have ergk5 : ∀ xx ww, Ergk 5 xx ww = (xx = .int .i64 (k : Int)) := fun xx ww => congrFun (congrFun (congrFun hErgk 5) xx) ww
          have ergk6 : ∀ xx ww, Ergk 6 xx ww = (xx = .slice (some ⟨b, o, none⟩) cl cb) := fun xx ww => congrFun (congrFun (congrFun hErgk 6) xx) ww
          have ergk7 : ∀ xx ww, Ergk 7 xx ww = (xx = .int .i64 (k : Int)) := fun xx ww => congrFun (congrFun (congrFun hErgk 7) xx) ww
          have ergk8 : ∀ xx ww, Ergk 8 xx ww = (xx = .pointer (some ⟨b, o + k * 2, none⟩)) := fun xx ww => congrFun (congrFun (congrFun hErgk 8) xx) ww
          have ergk9 : ∀ xx ww, Ergk 9 xx ww = (xx = .pointer (some ⟨b, o + k * 2, none⟩)) := fun xx ww => congrFun (congrFun (congrFun hErgk 9) xx) ww
          have ergk10 : ∀ xx ww, Ergk 10 xx ww = (xx = .int .i64 most) := fun xx ww => congrFun (congrFun (congrFun hErgk 10) xx) ww
          have ergk11 : ∀ xx ww, Ergk 11 xx ww = (xx = .int .i64 wd) := fun xx ww => congrFun (congrFun (congrFun hErgk 11) xx) ww
          have ergk12 : ∀ xx ww, Ergk 12 xx ww = (xx = .bool false) := fun xx ww => congrFun (congrFun (congrFun hErgk 12) xx) ww
          obtain ⟨Crgk, hCrgk⟩ : ∃ CC : Array Bool → World → Prop, CC = fun L8 w' => Below wk.heap.size wk w' := ⟨_, rfl⟩
          have krgk : ∀ i L w,  Crgk L w → Crgk (L.setIfInBounds i true) w := by
            intro i L w  h
            rw [hCrgk] at h ⊢
            exact h
          obtain ⟨Xrgk, hXrgk⟩ : ∃ XX : World → World → Prop, XX = fun x y => Below x.heap.size x y := ⟨_, rfl⟩
          have xrgk : ∀ w, Xrgk w w := fun w => by rw [hXrgk]; exact Below.refl _ _
          have strgk : ∀ j x w w1, Xrgk w w1 → Ergk j x w → Ergk j x w1 := by
            intro j x w w1 hx h
            rw [hXrgk] at hx
            match j with
            | 0 => rw [ergk0] at h ⊢; exact h
            | 1 => rw [ergk1] at h ⊢; exact h
            | 2 => rw [ergk2] at h ⊢; exact h
            | 3 => rw [ergk3] at h ⊢; exact h
            | 4 => rw [ergk4] at h ⊢; exact h
            | 5 => rw [ergk5] at h ⊢; exact h
            | 6 => rw [ergk6] at h ⊢; exact h
            | 7 => rw [ergk7] at h ⊢; exact h
            | 8 => rw [ergk8] at h ⊢; exact h
            | 9 => rw [ergk9] at h ⊢; exact h
            | 10 => rw [ergk10] at h ⊢; exact h
            | 11 => rw [ergk11] at h ⊢; exact h
            | 12 => rw [ergk12] at h ⊢; exact h
            | j + 13 => rw [hErgk]; trivial
          have crgk : Crgk (Array.replicate 13 false) wk.drew := by rw [hCrgk]; exact (Below.refl _ _).drew
          have brgk : ∀ L w w1, Crgk L w → Below w.heap.size w w1 → Crgk L w1 := by
            intro L w w1 h hb
            rw [hCrgk] at h ⊢
            exact h.trans (hb.mono h.size)
          have xbrgk : ∀ w w1, Below w.heap.size w w1 → Xrgk w w1 := by
            intro w w1 hb
            rw [hXrgk]
            exact hb
          have Hrgkb := Lib.hid brgk
          have Hrgkxb := Lib.hid xbrgk
          clear brgk xbrgk
          clear hErgk
          have Hrgkk := Lib.hid krgk
          have Hrgkx := Lib.hid xrgk
          have Hrgkst := Lib.hid strgk
          have Hrgkc := Lib.hid crgk
          have HrgkhC := Lib.hid hCrgk
          have HrgkhX := Lib.hid hXrgk
          have Hrgke0 := Lib.hid ergk0
          have Hrgke1 := Lib.hid ergk1
          have Hrgke2 := Lib.hid ergk2
          have Hrgke3 := Lib.hid ergk3
          have Hrgke4 := Lib.hid ergk4
          have Hrgke5 := Lib.hid ergk5
          have Hrgke6 := Lib.hid ergk6
          have Hrgke7 := Lib.hid ergk7
          have Hrgke8 := Lib.hid ergk8
          have Hrgke9 := Lib.hid ergk9
          have Hrgke10 := Lib.hid ergk10
          have Hrgke11 := Lib.hid ergk11
          have Hrgke12 := Lib.hid ergk12
          clear krgk xrgk strgk crgk hCrgk hXrgk ergk0 ergk1 ergk2 ergk3 ergk4 ergk5 ergk6 ergk7 ergk8 ergk9 ergk10 ergk11 ergk12
          go_wp2_with fail
          refine Reg.regionF Ergk Crgk Xrgk Hrgkst.out (by kernel_rfl) (by kernel_rfl) (by kernel_rfl) Hrgkc.out (fun Frgk hFrgk => ?_)
          simp only [Reg.frame, Reg.dsts, List.map_cons, List.map_nil, Mix.put_lit, List.set_cons_succ, List.set_cons_zero, Nat.zero_add, Nat.reduceAdd] at hFrgk
          refine ⟨?_, ?_⟩
          · refine ⟨?_, ?_, ?_, ?_, ?_, ?_, ?_, ?_, ?_, ?_, ?_, ?_, ?_, trivial⟩
            · intro Lq wq xq hh
              simp only [hFrgk]
              refine .inl ⟨rfl, ?_⟩
              unfold Reg.upon
              have hk := Hrgkk.out 0 Lq wq  hh.cls
              have hx := Hrgkx.out wq
              have he : Ergk 0 (.slice (some ⟨gw, 0, none⟩) cl cl) wq := by rw [Hrgke0.out]
              have HK := Lib.hid (And.intro hk (And.intro he hx))
              clear hk hx he
              go_simp
              exact HK.out
            · intro Lq wq xq hh
              simp only [hFrgk]
              refine .inl ⟨rfl, ?_⟩
              unfold Reg.upon
              have hk := Hrgkk.out 1 Lq wq  hh.cls
              have hx := Hrgkx.out wq
              have he : Ergk 1 (.int .i64 (k : Int)) wq := by rw [Hrgke1.out]
              have HK := Lib.hid (And.intro hk (And.intro he hx))
              clear hk hx he
              go_simp
              exact HK.out
            · intro Lq wq xq hh
              have d0 : Ergk 0 (xq 0) wq := hh.val 0 (by kernel_rfl) (by kernel_rfl)
              rw [Hrgke0.out] at d0
              have d1 : Ergk 1 (xq 1) wq := hh.val 1 (by kernel_rfl) (by kernel_rfl)
              rw [Hrgke1.out] at d1
              simp only [hFrgk, d0, d1]
              clear d0 d1
              refine .inl ⟨rfl, ?_⟩
              unfold Reg.upon
              have hk := Hrgkk.out 2 Lq wq  hh.cls
              have hx := Hrgkx.out wq
              have he : Ergk 2 (.pointer (some ⟨gw, k, none⟩)) wq := by rw [Hrgke2.out]
              have HK := Lib.hid (And.intro hk (And.intro he hx))
              clear hk hx he
              go_simp
              exact HK.out
            · intro Lq wq xq hh
              have d2 : Ergk 2 (xq 2) wq := hh.val 2 (by kernel_rfl) (by kernel_rfl)
              rw [Hrgke2.out] at d2
              simp only [hFrgk, d2]
              clear d2
              refine .inl ⟨rfl, ?_⟩
              unfold Reg.upon
              have hc : Crgk Lq wq := hh.cls
              rw [HrgkhC.out] at hc
              have q0 := (hc.cell (p := ⟨gw, k, none⟩) (Has.lt HRK.out)).trans (IRow.cell HRK.out HWA.out)
              clear hc
              have hk := Hrgkk.out 3 Lq wq  hh.cls
              have hx := Hrgkx.out wq
              have he : Ergk 3 (.int .i64 wd) wq := by rw [Hrgke3.out]
              have HK := Lib.hid (And.intro hk (And.intro he hx))
              clear hk hx he
              go_simp
              exact HK.out
            · intro Lq wq xq hh
              simp only [hFrgk]
              refine .inl ⟨rfl, ?_⟩
              unfold Reg.upon
              have hk := Hrgkk.out 4 Lq wq  hh.cls
              have hx := Hrgkx.out wq
              have he : Ergk 4 (.slice ao rl ca) wq := by rw [Hrgke4.out]
              have HK := Lib.hid (And.intro hk (And.intro he hx))
              clear hk hx he
              go_simp
              exact HK.out
            · intro Lq wq xq hh
              simp only [hFrgk]
              refine .inl ⟨rfl, ?_⟩
              unfold Reg.upon
              have hk := Hrgkk.out 5 Lq wq  hh.cls
              have hx := Hrgkx.out wq
              have he : Ergk 5 (.int .i64 (k : Int)) wq := by rw [Hrgke5.out]
              have HK := Lib.hid (And.intro hk (And.intro he hx))
              clear hk hx he
              go_simp
              exact HK.out
            · intro Lq wq xq hh
              simp only [hFrgk]
              refine .inl ⟨rfl, ?_⟩
              unfold Reg.upon
              have hk := Hrgkk.out 6 Lq wq  hh.cls
              have hx := Hrgkx.out wq
              have he : Ergk 6 (.slice (some ⟨b, o, none⟩) cl cb) wq := by rw [Hrgke6.out]
              have HK := Lib.hid (And.intro hk (And.intro he hx))
              clear hk hx he
              go_simp
              exact HK.out
            · intro Lq wq xq hh
              simp only [hFrgk]
              refine .inl ⟨rfl, ?_⟩
              unfold Reg.upon
              have hk := Hrgkk.out 7 Lq wq  hh.cls
              have hx := Hrgkx.out wq
              have he : Ergk 7 (.int .i64 (k : Int)) wq := by rw [Hrgke7.out]
              have HK := Lib.hid (And.intro hk (And.intro he hx))
              clear hk hx he
              go_simp
              exact HK.out
            · intro Lq wq xq hh
              have d6 : Ergk 6 (xq 6) wq := hh.val 6 (by kernel_rfl) (by kernel_rfl)
              rw [Hrgke6.out] at d6
              have d7 : Ergk 7 (xq 7) wq := hh.val 7 (by kernel_rfl) (by kernel_rfl)
              rw [Hrgke7.out] at d7
              simp only [hFrgk, d6, d7]
              clear d6 d7
              refine .inl ⟨rfl, ?_⟩
              unfold Reg.upon
              have hk := Hrgkk.out 8 Lq wq  hh.cls
              have hx := Hrgkx.out wq
              have he : Ergk 8 (.pointer (some ⟨b, o + k * 2, none⟩)) wq := by rw [Hrgke8.out]
              have HK := Lib.hid (And.intro hk (And.intro he hx))
              clear hk hx he
              go_simp
              exact HK.out
            · intro Lq wq xq hh
              have d8 : Ergk 8 (xq 8) wq := hh.val 8 (by kernel_rfl) (by kernel_rfl)
              rw [Hrgke8.out] at d8
              simp only [hFrgk, d8]
              clear d8
              refine .inl ⟨rfl, ?_⟩
              unfold Reg.upon
              have hk := Hrgkk.out 9 Lq wq  hh.cls
              have hx := Hrgkx.out wq
              have he : Ergk 9 (.pointer (some ⟨b, o + k * 2, none⟩)) wq := by rw [Hrgke9.out]
              have HK := Lib.hid (And.intro hk (And.intro he hx))
              clear hk hx he
              go_simp
              exact HK.out
            · intro Lq wq xq hh
              have d9 : Ergk 9 (xq 9) wq := hh.val 9 (by kernel_rfl) (by kernel_rfl)
              rw [Hrgke9.out] at d9
              simp only [hFrgk, d9]
              clear d9
              refine .inl ⟨rfl, ?_⟩
              unfold Reg.upon
              have hc : Crgk Lq wq := hh.cls
              rw [HrgkhC.out] at hc
              have q0 := (hc.cell (p := ⟨b, o + k * 2, none⟩) HBL.out).trans C0.out
              clear hc
              have hk := Hrgkk.out 10 Lq wq  hh.cls
              have hx := Hrgkx.out wq
              have he : Ergk 10 (.int .i64 most) wq := by rw [Hrgke10.out]
              have HK := Lib.hid (And.intro hk (And.intro he hx))
              clear hk hx he
              go_simp
              exact HK.out
            · intro Lq wq xq hh
              have d4 : Ergk 4 (xq 4) wq := hh.val 4 (by kernel_rfl) (by kernel_rfl)
              rw [Hrgke4.out] at d4
              have d5 : Ergk 5 (xq 5) wq := hh.val 5 (by kernel_rfl) (by kernel_rfl)
              rw [Hrgke5.out] at d5
              have d10 : Ergk 10 (xq 10) wq := hh.val 10 (by kernel_rfl) (by kernel_rfl)
              rw [Hrgke10.out] at d10
              simp only [hFrgk, d4, d5, d10]
              clear d4 d5 d10
              refine .inl ⟨rfl, ?_⟩
              unfold Reg.upon
              have hc : Crgk Lq wq := hh.cls
              rw [HrgkhC.out] at hc
              go_simp
              refine (HWID.out wq (BK.out.trans (hc.mono BK.out.size))).mono ?_
              rintro e w2 ⟨rfl, hb⟩
              exact ⟨_, rfl, Hrgkk.out 11 Lq w2  (Hrgkb.out Lq wq w2 hh.cls hb), (by rw [Hrgke11.out]; try rfl), Hrgkxb.out wq w2 hb⟩
            · intro Lq wq xq hh
              have d3 : Ergk 3 (xq 3) wq := hh.val 3 (by kernel_rfl) (by kernel_rfl)
              rw [Hrgke3.out] at d3
              have d11 : Ergk 11 (xq 11) wq := hh.val 11 (by kernel_rfl) (by kernel_rfl)
              rw [Hrgke11.out] at d11
              simp only [hFrgk, d3, d11]
              clear d3 d11
              refine .inl ⟨rfl, ?_⟩
              unfold Reg.upon
              have hk := Hrgkk.out 12 Lq wq  hh.cls
              have hx := Hrgkx.out wq
              have he : Ergk 12 (.bool false) wq := by rw [Hrgke12.out]
              have HK := Lib.hid (And.intro hk (And.intro he hx))
              clear hk hx he
              go_simp
              exact HK.out
          intro xq wrgk hcrgk hvrgk
          rw [HrgkhC.out] at hcrgk
          simp only [hFrgk]
          have vrgk12 : Ergk 12 (xq 12) wrgk := hvrgk 12 (by decide)
          rw [Hrgke12.out] at vrgk12
          rw [vrgk12]
          clear hvrgk hFrgk Hrgkk Hrgkx Hrgkst Hrgkc HrgkhC HrgkhX Hrgkb Hrgkxb Hrgke0 Hrgke1 Hrgke2 Hrgke3 Hrgke4 Hrgke5 Hrgke6 Hrgke7 Hrgke8 Hrgke9 Hrgke10 Hrgke11 Hrgke12
          obtain ⟨wm, hwm⟩ : ∃ wm, wm = wrgk := ⟨_, rfl⟩
          subst hwm
          have hb0 := (Below.refl wm.heap.size wm).alloc (Nat.le_refl _) (.cells [.int .i64 most].toArray 3)
          have HO1 := Lib.hid ((HMO.out.below hcrgk).below hb0)
          have HBM := Lib.hid (hcrgk.trans (hb0.mono hcrgk.size))
          have HS1 := Lib.hid ((HSO.out.below hcrgk).below hb0)
          have HU1 := Lib.hid (show HeldE (intE .i64) (fun b => True ∧ mv.ownBlock ≠ some b) (wm.alloc (.cells [.int .i64 most].toArray 3)) (.slice (some ⟨wm.heap.size, 0, none⟩) 1 1) [most] from heldE_one (E := intE .i64) (Y := fun _ => False) [.int .i64 most] most rfl (fun _ _ h => h.elim) ⟨trivial, fun e => by have := (HMO.out.lt _ e).2; have := hcrgk.size; omega⟩)
          have HB4M := Lib.hid (show w4.heap.size ≤ (wm.alloc (.cells [.int .i64 most].toArray 3)).heap.size from Nat.le_trans HBK.out.size HBM.out.size)
          have c0 := (hcrgk.cell (p := ⟨b, o + k * 2, none⟩) HBL.out).trans C0.out
          clear hb0 vrgk12
          have HCR := Lib.hid hcrgk
          clear hcrgk
          go_wp2_with (at_builtin; refine wpList_append_e (E := intE .i64) (Z := fun _ => True) rfl (.tmp 63) (.tmp 69) 26 rfl (.int .i64 0) 8 Tryz.underlying26 info_iL rfl (by decide) rfl rfl HO1.out HU1.out (by have := HTK.out.1; simp only [List.length_singleton]; omega) (by have := HTK.out.1; simp only [List.length_singleton]; omega) HB4M.out ?_)
          intro mv2 wn ho2 b2 k2 h4
          rw [← HTF.out] at ho2
          have hu2 : Upd (fun b => mv.ownBlock = some b) (wm.alloc (.cells [.int .i64 most].toArray 3)) wn := ⟨b2.os, b2.tape, b2.output, k2.size, fun b hb hn => k2.block b hb hn⟩
          have HMO2 := Lib.hid ho2
          have HS2 := Lib.hid (OwnE.upd (ownE_ints (Z := fun _ => False) HS1.out.ints) hu2 (fun b hb e => by rcases hb with hb | hb; exact hb.elim; exact HNE.out b e hb))
          have HNE2 := Lib.hid (show ∀ b, mv2.ownBlock = some b → sv.ownBlock ≠ some b from fun b e1 e2 => h4 b (by have := (HS1.out.lt b e2).2; simpa using this) (fun e => HNE.out b e e2) e1)
          have c1 := ((hu2.keep.cell (b := b) (o := o + k * 2 + 1) (Nat.lt_of_lt_of_le HBL.out HBM.out.size) (fun e => by have := (HMO.out.lt b e).1; have := HBB9.out; omega)).trans (HBM.out.cell (p := ⟨b, o + k * 2 + 1, none⟩) HBL.out)).trans C1.out
          have HB2W := Lib.hid (HBM.out.trans (Below.refl _ _))
          have HBN := Lib.hid ((HBK.out.trans (HBM.out.mono HBK.out.size)).trans b2)
          clear c0 ho2 b2 k2 h4 hu2
          have hb5 := (Below.refl wn.heap.size wn).alloc (Nat.le_refl _) (.cells [.int .i64 side].toArray 3)
          have HO3 := Lib.hid (ownE_ints (Z := fun _ => True) (HS2.out.below hb5).ints)
          have HM3 := Lib.hid (HMO2.out.below hb5)
          have HBN2 := Lib.hid (HBN.out.trans (hb5.mono HBN.out.size))
          have HU3 := Lib.hid (show HeldE (intE .i64) (fun b => True ∧ sv.ownBlock ≠ some b) (wn.alloc (.cells [.int .i64 side].toArray 3)) (.slice (some ⟨wn.heap.size, 0, none⟩) 1 1) [side] from heldE_one (E := intE .i64) (Y := fun _ => False) [.int .i64 side] side rfl (fun _ _ h => h.elim) ⟨trivial, fun e => by have := (HS2.out.lt _ e).2; omega⟩)
          clear hb5
          go_wp2_with (at_builtin; refine wpList_append_e (E := intE .i64) (Z := fun _ => True) rfl (.tmp 71) (.tmp 77) 26 rfl (.int .i64 0) 8 Tryz.underlying26 info_iL rfl (by decide) rfl rfl HO3.out HU3.out (by have := HTK.out.2; simp only [List.length_singleton]; omega) (by have := HTK.out.2; simp only [List.length_singleton]; omega) HBN2.out.size ?_)
          intro sv2 wq ho3 b3 k3 h5
          rw [← HTD.out] at ho3
          have hu3 : Upd (fun b => sv.ownBlock = some b) (wn.alloc (.cells [.int .i64 side].toArray 3)) wq := ⟨b3.os, b3.tape, b3.output, k3.size, fun b hb hn => k3.block b hb hn⟩
          have HF1 := Lib.hid (ownE_ints (Z := fun _ => True) (OwnE.upd (ownE_ints (Z := fun _ => False) HM3.out.ints) hu3 (fun b hb e => by rcases hb with hb | hb; exact hb.elim; exact HNE2.out b hb e)).ints)
          have HF2 := Lib.hid ho3
          have HF3 := Lib.hid (show ∀ b, mv2.ownBlock = some b → sv2.ownBlock ≠ some b from fun b e1 e2 => h5 b (by have := (HM3.out.lt b e1).2; simpa using this) (fun e => HNE2.out b e1 e) e2)
          have HF4 := Lib.hid (HBN2.out.trans b3)
          clear ho3 b3 k3 h5 hu3 c1
          go_wp2
          go_roundw
          case rel => exact ⟨k + 1, by omega, by go_num, HF1.out, HF2.out, HF3.out, HF4.out⟩
          case measure => simp [intOf] <;> omega
        · obtain rfl : k = cl := by omega
          have g1 : decide ((k : Int) < (k : Int)) = false := by rw [decide_eq_false_iff_not]; omega
          have hmf := (HMO.out.held (fun _ _ _ => trivial)).lower
          have hsf := (HSO.out.held (fun _ _ _ => trivial)).lower
          rw [show (cols.map Prod.fst).take k = cols.map Prod.fst from by rw [HCL0.out, ← List.length_map (f := Prod.fst), List.take_length]] at hmf
          rw [show (cols.map Prod.snd).take k = cols.map Prod.snd from by rw [HCL0.out, ← List.length_map (f := Prod.snd), List.take_length]] at hsf
          have HMF := Lib.hid hmf
          have HSF := Lib.hid hsf
          have BK := Lib.hid (B4.out.trans (HBK.out.mono B4.out.size))
          have HLDK := Lib.hid (show ∀ i, i < rl → ∃ x, VS[i]? = some x ∧ wk.cell? ⟨g, i, none⟩ = some x ∧ g < wk.heap.size ∧ HeldE (intE .i32) (fun _ => True) wk x (lineC rows cols gap i k) from fun i hi => by
            obtain ⟨x, e1, e2⟩ := HLD.out.2.2.2.1 i hi
            rw [← HCL0.out] at e2
            exact ⟨x, e1, (HBK.out.cell (p := ⟨g, i, none⟩) HLD.out.2.1.lt).trans (HLD.out.2.1.cell i x e1), Nat.lt_of_lt_of_le HLD.out.2.1.lt HBK.out.size, (e2.zone (fun _ _ _ => trivial)).below HBK.out⟩)
          have HLEN := Lib.hid (fun i => lineC_len rows cols gap i (fun k => HTS.out i k) k)
          clear hmf hsf HMO HSO HNE HROW
          go_wp2
          go_loopw [12] (fun iv wr => ∃ i : Nat, i ≤ rl ∧ iv = .int .i64 i ∧ Below wk.heap.size wk wr) (fun iv _ => rl - (intOf iv).toNat)
          case atStart => exact ⟨0, Nat.zero_le _, rfl, Below.refl _ _⟩
          case round =>
            obtain ⟨i, hi, rfl, hbi⟩ := hrel
            obtain ⟨wi, hwi⟩ : ∃ wi, wi = wr := ⟨_, rfl⟩
            subst hwi
            have HBI := Lib.hid hbi
            clear hbi
            by_cases hlti : i < rl
            · have j1 : decide ((i : Int) < (rl : Int)) = true := by rw [decide_eq_true_eq]; omega
              have j2 : decide (i < rl) = true := by rw [decide_eq_true_eq]; omega
              have hii : (i : Int) < (rl : Int) := by omega
              have hwi : IntKind.i64.wrap ((i : Int) + 1) = (i : Int) + 1 := by rw [IntKind.wrap_i64]; omega
              obtain ⟨x, ex, cx, hgl, hx⟩ := HLDK.out i hlti
              have HX := Lib.hid hx
              have HCX := Lib.hid cx
              have HGL := Lib.hid hgl
              have hll := HLEN.out i
              have hline := fun (w' : World) (hb : Below wk.heap.size wk w') => HRL.out w' (BK.out.trans (hb.mono BK.out.size)) mv sv i ((HMF.out.below hb).zone fun b hb _ => hb) ((HSF.out.below hb).zone fun b hb _ => hb) (by omega) (by omega) (by omega) HTS.out HR.out
              obtain ⟨LN, hLN⟩ : ∃ LN, LN = lineC rows cols gap i k := ⟨_, rfl⟩
              rw [← hLN] at hline hll HX
              have HLINE := Lib.hid hline
              have HLL := Lib.hid (show LN.length ≤ 9223372036854775807 from by omega)
              have BI := Lib.hid (BK.out.trans (HBI.out.mono BK.out.size))
              have hsame : ∀ (y : Value) (w' : World), Below wk.heap.size wk w' → HeldE (intE .i32) (fun _ => True) w' y LN → Calls Tryz.prog 9 #[x, y] w' (Gives w' (.bool true)) := fun y w' hc hy => by
                have h := same_any x y LN LN w' (HX.out.below hc).ints hy.ints HLL.out
                rw [sameB_self] at h
                exact h
              have HSAME := Lib.hid hsame
              clear ex cx hgl hx hll hline hLN hsame
              go_wp2
              obtain ⟨Ergi, hErgi⟩ : ∃ EE : Nat → Value → World → Prop, EE = fun jj xx ww => match jj with
                  | 0 => xx = .slice (some ⟨g, 0, none⟩) rl rl
                  | 1 => xx = .int .i64 (i : Int)
                  | 2 => xx = .pointer (some ⟨g, i, none⟩)
                  | 3 => xx = x
                  | 4 => xx = .slice ao rl ca
                  | 5 => xx = .int .i64 (i : Int)
                  | 6 => xx = .int .i64 gap
                  | 7 => xx = mv
                  | 8 => xx = sv
                  | 9 => (fun y w' => HeldE (intE .i32) (fun _ => True) w' y LN) xx ww
                  | 10 => xx = .bool true
                  | 11 => xx = .bool false
                  | _ => True := ⟨_, rfl⟩
              have ergi0 : ∀ xx ww, Ergi 0 xx ww = (xx = .slice (some ⟨g, 0, none⟩) rl rl) := fun xx ww => congrFun (congrFun (congrFun hErgi 0) xx) ww
              have ergi1 : ∀ xx ww, Ergi 1 xx ww = (xx = .int .i64 (i : Int)) := fun xx ww => congrFun (congrFun (congrFun hErgi 1) xx) ww
              have ergi2 : ∀ xx ww, Ergi 2 xx ww = (xx = .pointer (some ⟨g, i, none⟩)) := fun xx ww => congrFun (congrFun (congrFun hErgi 2) xx) ww
              have ergi3 : ∀ xx ww, Ergi 3 xx ww = (xx = x) := fun xx ww => congrFun (congrFun (congrFun hErgi 3) xx) ww
              have ergi4 : ∀ xx ww, Ergi 4 xx ww = (xx = .slice ao rl ca) := fun xx ww => congrFun (congrFun (congrFun hErgi 4) xx) ww
              have ergi5 : ∀ xx ww, Ergi 5 xx ww = (xx = .int .i64 (i : Int)) := fun xx ww => congrFun (congrFun (congrFun hErgi 5) xx) ww
              have ergi6 : ∀ xx ww, Ergi 6 xx ww = (xx = .int .i64 gap) := fun xx ww => congrFun (congrFun (congrFun hErgi 6) xx) ww
              have ergi7 : ∀ xx ww, Ergi 7 xx ww = (xx = mv) := fun xx ww => congrFun (congrFun (congrFun hErgi 7) xx) ww
              have ergi8 : ∀ xx ww, Ergi 8 xx ww = (xx = sv) := fun xx ww => congrFun (congrFun (congrFun hErgi 8) xx) ww
              have ergi9 : ∀ xx ww, Ergi 9 xx ww = ((fun y w' => HeldE (intE .i32) (fun _ => True) w' y LN) xx ww) := fun xx ww => congrFun (congrFun (congrFun hErgi 9) xx) ww
              have ergi10 : ∀ xx ww, Ergi 10 xx ww = (xx = .bool true) := fun xx ww => congrFun (congrFun (congrFun hErgi 10) xx) ww
              have ergi11 : ∀ xx ww, Ergi 11 xx ww = (xx = .bool false) := fun xx ww => congrFun (congrFun (congrFun hErgi 11) xx) ww
              obtain ⟨Crgi, hCrgi⟩ : ∃ CC : Array Bool → World → Prop, CC = fun L8 w' => Below wk.heap.size wk w' := ⟨_, rfl⟩
              have krgi : ∀ i L w,  Crgi L w → Crgi (L.setIfInBounds i true) w := by
                intro i L w  h
                rw [hCrgi] at h ⊢
                exact h
              obtain ⟨Xrgi, hXrgi⟩ : ∃ XX : World → World → Prop, XX = fun x y => Below x.heap.size x y := ⟨_, rfl⟩
              have xrgi : ∀ w, Xrgi w w := fun w => by rw [hXrgi]; exact Below.refl _ _
              have strgi : ∀ j x w w1, Xrgi w w1 → Ergi j x w → Ergi j x w1 := by
                intro j x w w1 hx h
                rw [hXrgi] at hx
                match j with
                | 0 => rw [ergi0] at h ⊢; exact h
                | 1 => rw [ergi1] at h ⊢; exact h
                | 2 => rw [ergi2] at h ⊢; exact h
                | 3 => rw [ergi3] at h ⊢; exact h
                | 4 => rw [ergi4] at h ⊢; exact h
                | 5 => rw [ergi5] at h ⊢; exact h
                | 6 => rw [ergi6] at h ⊢; exact h
                | 7 => rw [ergi7] at h ⊢; exact h
                | 8 => rw [ergi8] at h ⊢; exact h
                | 9 => rw [ergi9] at h ⊢; (exact h.below hx)
                | 10 => rw [ergi10] at h ⊢; exact h
                | 11 => rw [ergi11] at h ⊢; exact h
                | j + 12 => rw [hErgi]; trivial
              have crgi : Crgi (Array.replicate 12 false) wi.drew := by rw [hCrgi]; exact HBI.out.drew
              have brgi : ∀ L w w1, Crgi L w → Below w.heap.size w w1 → Crgi L w1 := by
                intro L w w1 h hb
                rw [hCrgi] at h ⊢
                exact h.trans (hb.mono h.size)
              have xbrgi : ∀ w w1, Below w.heap.size w w1 → Xrgi w w1 := by
                intro w w1 hb
                rw [hXrgi]
                exact hb
              have Hrgib := Lib.hid brgi
              have Hrgixb := Lib.hid xbrgi
              clear brgi xbrgi
              clear hErgi
              have Hrgik := Lib.hid krgi
              have Hrgix := Lib.hid xrgi
              have Hrgist := Lib.hid strgi
              have Hrgic := Lib.hid crgi
              have HrgihC := Lib.hid hCrgi
              have HrgihX := Lib.hid hXrgi
              have Hrgie0 := Lib.hid ergi0
              have Hrgie1 := Lib.hid ergi1
              have Hrgie2 := Lib.hid ergi2
              have Hrgie3 := Lib.hid ergi3
              have Hrgie4 := Lib.hid ergi4
              have Hrgie5 := Lib.hid ergi5
              have Hrgie6 := Lib.hid ergi6
              have Hrgie7 := Lib.hid ergi7
              have Hrgie8 := Lib.hid ergi8
              have Hrgie9 := Lib.hid ergi9
              have Hrgie10 := Lib.hid ergi10
              have Hrgie11 := Lib.hid ergi11
              clear krgi xrgi strgi crgi hCrgi hXrgi ergi0 ergi1 ergi2 ergi3 ergi4 ergi5 ergi6 ergi7 ergi8 ergi9 ergi10 ergi11
              go_wp2_with fail
              refine Reg.regionF Ergi Crgi Xrgi Hrgist.out (by kernel_rfl) (by kernel_rfl) (by kernel_rfl) Hrgic.out (fun Frgi hFrgi => ?_)
              simp only [Reg.frame, Reg.dsts, List.map_cons, List.map_nil, Mix.put_lit, List.set_cons_succ, List.set_cons_zero, Nat.zero_add, Nat.reduceAdd] at hFrgi
              refine ⟨?_, ?_⟩
              · refine ⟨?_, ?_, ?_, ?_, ?_, ?_, ?_, ?_, ?_, ?_, ?_, ?_, trivial⟩
                · intro Lq wq xq hh
                  simp only [hFrgi]
                  refine .inl ⟨rfl, ?_⟩
                  unfold Reg.upon
                  have hk := Hrgik.out 0 Lq wq  hh.cls
                  have hx := Hrgix.out wq
                  have he : Ergi 0 (.slice (some ⟨g, 0, none⟩) rl rl) wq := by rw [Hrgie0.out]
                  have HK := Lib.hid (And.intro hk (And.intro he hx))
                  clear hk hx he
                  go_simp
                  exact HK.out
                · intro Lq wq xq hh
                  simp only [hFrgi]
                  refine .inl ⟨rfl, ?_⟩
                  unfold Reg.upon
                  have hk := Hrgik.out 1 Lq wq  hh.cls
                  have hx := Hrgix.out wq
                  have he : Ergi 1 (.int .i64 (i : Int)) wq := by rw [Hrgie1.out]
                  have HK := Lib.hid (And.intro hk (And.intro he hx))
                  clear hk hx he
                  go_simp
                  exact HK.out
                · intro Lq wq xq hh
                  have d0 : Ergi 0 (xq 0) wq := hh.val 0 (by kernel_rfl) (by kernel_rfl)
                  rw [Hrgie0.out] at d0
                  have d1 : Ergi 1 (xq 1) wq := hh.val 1 (by kernel_rfl) (by kernel_rfl)
                  rw [Hrgie1.out] at d1
                  simp only [hFrgi, d0, d1]
                  clear d0 d1
                  refine .inl ⟨rfl, ?_⟩
                  unfold Reg.upon
                  have hk := Hrgik.out 2 Lq wq  hh.cls
                  have hx := Hrgix.out wq
                  have he : Ergi 2 (.pointer (some ⟨g, i, none⟩)) wq := by rw [Hrgie2.out]
                  have HK := Lib.hid (And.intro hk (And.intro he hx))
                  clear hk hx he
                  go_simp
                  exact HK.out
                · intro Lq wq xq hh
                  have d2 : Ergi 2 (xq 2) wq := hh.val 2 (by kernel_rfl) (by kernel_rfl)
                  rw [Hrgie2.out] at d2
                  simp only [hFrgi, d2]
                  clear d2
                  refine .inl ⟨rfl, ?_⟩
                  unfold Reg.upon
                  have hc : Crgi Lq wq := hh.cls
                  rw [HrgihC.out] at hc
                  have q0 := (hc.cell (p := ⟨g, i, none⟩) HGL.out).trans HCX.out
                  clear hc
                  have hk := Hrgik.out 3 Lq wq  hh.cls
                  have hx := Hrgix.out wq
                  have he : Ergi 3 (x) wq := by rw [Hrgie3.out]
                  have HK := Lib.hid (And.intro hk (And.intro he hx))
                  clear hk hx he
                  go_simp
                  exact HK.out
                · intro Lq wq xq hh
                  simp only [hFrgi]
                  refine .inl ⟨rfl, ?_⟩
                  unfold Reg.upon
                  have hk := Hrgik.out 4 Lq wq  hh.cls
                  have hx := Hrgix.out wq
                  have he : Ergi 4 (.slice ao rl ca) wq := by rw [Hrgie4.out]
                  have HK := Lib.hid (And.intro hk (And.intro he hx))
                  clear hk hx he
                  go_simp
                  exact HK.out
                · intro Lq wq xq hh
                  simp only [hFrgi]
                  refine .inl ⟨rfl, ?_⟩
                  unfold Reg.upon
                  have hk := Hrgik.out 5 Lq wq  hh.cls
                  have hx := Hrgix.out wq
                  have he : Ergi 5 (.int .i64 (i : Int)) wq := by rw [Hrgie5.out]
                  have HK := Lib.hid (And.intro hk (And.intro he hx))
                  clear hk hx he
                  go_simp
                  exact HK.out
                · intro Lq wq xq hh
                  simp only [hFrgi]
                  refine .inl ⟨rfl, ?_⟩
                  unfold Reg.upon
                  have hk := Hrgik.out 6 Lq wq  hh.cls
                  have hx := Hrgix.out wq
                  have he : Ergi 6 (.int .i64 gap) wq := by rw [Hrgie6.out]
                  have HK := Lib.hid (And.intro hk (And.intro he hx))
                  clear hk hx he
                  go_simp
                  exact HK.out
                · intro Lq wq xq hh
                  simp only [hFrgi]
                  refine .inl ⟨rfl, ?_⟩
                  unfold Reg.upon
                  have hk := Hrgik.out 7 Lq wq  hh.cls
                  have hx := Hrgix.out wq
                  have he : Ergi 7 (mv) wq := by rw [Hrgie7.out]
                  have HK := Lib.hid (And.intro hk (And.intro he hx))
                  clear hk hx he
                  go_simp
                  exact HK.out
                · intro Lq wq xq hh
                  simp only [hFrgi]
                  refine .inl ⟨rfl, ?_⟩
                  unfold Reg.upon
                  have hk := Hrgik.out 8 Lq wq  hh.cls
                  have hx := Hrgix.out wq
                  have he : Ergi 8 (sv) wq := by rw [Hrgie8.out]
                  have HK := Lib.hid (And.intro hk (And.intro he hx))
                  clear hk hx he
                  go_simp
                  exact HK.out
                · intro Lq wq xq hh
                  have d4 : Ergi 4 (xq 4) wq := hh.val 4 (by kernel_rfl) (by kernel_rfl)
                  rw [Hrgie4.out] at d4
                  have d5 : Ergi 5 (xq 5) wq := hh.val 5 (by kernel_rfl) (by kernel_rfl)
                  rw [Hrgie5.out] at d5
                  have d6 : Ergi 6 (xq 6) wq := hh.val 6 (by kernel_rfl) (by kernel_rfl)
                  rw [Hrgie6.out] at d6
                  have d7 : Ergi 7 (xq 7) wq := hh.val 7 (by kernel_rfl) (by kernel_rfl)
                  rw [Hrgie7.out] at d7
                  have d8 : Ergi 8 (xq 8) wq := hh.val 8 (by kernel_rfl) (by kernel_rfl)
                  rw [Hrgie8.out] at d8
                  simp only [hFrgi, d4, d5, d6, d7, d8]
                  clear d4 d5 d6 d7 d8
                  refine .inl ⟨rfl, ?_⟩
                  unfold Reg.upon
                  have hc : Crgi Lq wq := hh.cls
                  rw [HrgihC.out] at hc
                  go_simp
                  refine (HLINE.out wq hc).mono ?_
                  rintro e w2 ⟨v2, rfl, ho2, hb2⟩
                  exact ⟨_, rfl, Hrgik.out 9 Lq w2 (Hrgib.out Lq wq w2 hh.cls hb2), (by rw [Hrgie9.out]; exact (ownE_ints (Z := fun _ => True) ho2).held fun _ _ _ => trivial), Hrgixb.out wq w2 hb2⟩
                · intro Lq wq xq hh
                  have d3 : Ergi 3 (xq 3) wq := hh.val 3 (by kernel_rfl) (by kernel_rfl)
                  rw [Hrgie3.out] at d3
                  have d9 : Ergi 9 (xq 9) wq := hh.val 9 (by kernel_rfl) (by kernel_rfl)
                  rw [Hrgie9.out] at d9
                  simp only [hFrgi, d3]
                  clear d3
                  refine .inl ⟨rfl, ?_⟩
                  unfold Reg.upon
                  have hc : Crgi Lq wq := hh.cls
                  rw [HrgihC.out] at hc
                  go_simp
                  refine (HSAME.out (xq 9) wq hc d9).mono ?_
                  rintro e w2 ⟨rfl, hb⟩
                  exact ⟨_, rfl, Hrgik.out 10 Lq w2 (Hrgib.out Lq wq w2 hh.cls hb), (by rw [Hrgie10.out]), Hrgixb.out wq w2 hb⟩
                · intro Lq wq xq hh
                  have d10 : Ergi 10 (xq 10) wq := hh.val 10 (by kernel_rfl) (by kernel_rfl)
                  rw [Hrgie10.out] at d10
                  simp only [hFrgi, d10]
                  clear d10
                  refine .inl ⟨rfl, ?_⟩
                  unfold Reg.upon
                  have hk := Hrgik.out 11 Lq wq  hh.cls
                  have hx := Hrgix.out wq
                  have he : Ergi 11 (.bool false) wq := by rw [Hrgie11.out]
                  have HK := Lib.hid (And.intro hk (And.intro he hx))
                  clear hk hx he
                  go_simp
                  exact HK.out
              intro xq wrgi hcrgi hvrgi
              rw [HrgihC.out] at hcrgi
              simp only [hFrgi]
              have vrgi11 : Ergi 11 (xq 11) wrgi := hvrgi 11 (by decide)
              rw [Hrgie11.out] at vrgi11
              rw [vrgi11]
              clear hvrgi hFrgi Hrgik Hrgix Hrgist Hrgic HrgihC HrgihX Hrgib Hrgixb Hrgie0 Hrgie1 Hrgie2 Hrgie3 Hrgie4 Hrgie5 Hrgie6 Hrgie7 Hrgie8 Hrgie9 Hrgie10 Hrgie11
              have HF := Lib.hid hcrgi
              clear hcrgi vrgi11
              go_wp2
              go_roundw
              case rel => exact ⟨i + 1, by omega, by go_num, HF.out⟩
              case measure => simp [intOf] <;> omega
            · obtain rfl : i = rl := by omega
              have HF := Lib.hid (BK.out.trans (HBI.out.mono BK.out.size))
              go_wp2
              go_ret
              exact ⟨(ret_eq (by first | rfl | (simp <;> omega))), HF.out⟩
theorem ok3 {rows : List (List (List Int))} (h : ∀ r ∈ rows, ∀ t ∈ r, (∀ n ∈ t, (Lit.int .i32 n).wf = true) ∧ t.length * 4 ≤ reachBytes) (i k : Nat) : bounds32 (atC rows i k) ∧ (atC rows i k).length ≤ 35184372088832 := by
  unfold atC
  by_cases hi : i < rows.length
  · by_cases hk : k < (rows.getD i []).length
    · have h1 : rows.getD i [] ∈ rows := by simp [List.getD, List.getElem?_eq_getElem hi]
      obtain ⟨row, hrow⟩ : ∃ row, row = rows.getD i [] := ⟨_, rfl⟩
      rw [← hrow] at h1 hk ⊢
      have h2 : row.getD k [] ∈ row := by simp [List.getD, List.getElem?_eq_getElem hk]
      have h3 := h row h1 _ h2
      exact ⟨bounds_of h3.1, by have := h3.2; unfold reachBytes at this; omega⟩
    · rw [show (rows.getD i []).getD k [] = [] from by simp only [List.getD, List.getElem?_eq_none (show (rows[i]?.getD []).length ≤ k from by have := hk; simp only [List.getD] at this; omega)]; rfl]
      exact ⟨fun i hi => absurd hi (by simp), by simp⟩
  · rw [show rows.getD i [] = [] from by simp [List.getD, List.getElem?_eq_none (show rows.length ≤ i by omega)]]
    exact ⟨fun i hi => absurd hi (by simp), by simp⟩
set_option maxRecDepth 100000 in
theorem walk {H : Type} {enc : TypeId × Value → H} (W : World) {base base' : Nat} (v : Value) {d : DataW H} {p : List MemPlace} (hv : Value.okWide Tryz.prog W .any base 22 v) (h : DataW.Trod enc Tryz.prog W 0 (fun _ => true) true 22 v d p) (gap : Int) (hgw : (Lit.int .i64 gap).wf = true)
    (u : Value) {d' : DataW H} {p' : List MemPlace} (hv' : Value.okWide Tryz.prog W .any base' 23 u) (h' : DataW.Trod enc Tryz.prog W 0 (fun _ => true) true 23 u d' p') (hz : ∀ z ∈ DataW.weightsEach Tryz.prog [22, 3, 23] [d, .lit (.int .i64 gap), d'], z ≤ reachBytes) : Calls Tryz.prog 3 #[v, .int .i64 gap, u] W (Yes W) := by
  have hE : OpensR Tryz.prog rowE _ 34 := opensR_slice Tryz.underlying34 (by kernel_rfl) (by decide) (opensR_int Tryz.underlying21 (by kernel_rfl))
  have hE2 : OpensR Tryz.prog (slE rowE) _ 28 := opensR_slice Tryz.underlying28 (by kernel_rfl) (by decide) hE
  have hC : OpensB Tryz.prog colE _ _ 32 := opensB_pair Tryz.underlying32 (by kernel_rfl) rfl rfl (opensB_int Tryz.underlying3 (by kernel_rfl)) (opensB_int Tryz.underlying3 (by kernel_rfl))
  obtain ⟨rows, hL, hok, _⟩ := opensR_arg Tryz.underlying22 (by kernel_rfl) (by decide) hE2 hv h (fun z h => hz z (by rw [DataW.weightsEach]; exact List.mem_append.2 (.inl h)))
  obtain ⟨cols, hM, _, _⟩ := opensB_arg Tryz.underlying23 (by kernel_rfl) (by decide) hC (seatBulk H) hv' h'
  have hb4 : Tryz.prog.bytesOf 21 = 4 := by kernel_rfl
  have ho := fun i k => ok3 (rows := rows) (fun r hr t ht => by have h := (hok r hr).1 t ht; rw [hb4] at h; exact h) i k
  exact walkH W v u rows cols gap hL hM (fun i k => (ho i k).1) (fun i k => (ho i k).2)

set_option maxRecDepth 100000 in
theorem lifted (os : Os) (started : os.Started) (H : Type) (enc : TypeId × Value → H) :
    ReturnsInHanded {} Tryz.checked os 3 .any (Rows.tableLaysSpec.pre6 enc Tryz.prog Tryz.f3 Rows.tableLaysRow.domain false) (Rows.tableLaysSpec.post enc Tryz.prog Tryz.f3 false true false false) := by
  refine law_frame_sized (C := Tryz.checked) (tb := 4) (by kernel_rfl) started (by kernel_rfl) Tryz.func3 (by kernel_rfl) (by kernel_rfl) Tryz.underlying4 rfl
    (by rw [Tryz.params3]; intro t ht; simp at ht; rcases ht with rfl | rfl | rfl <;> exact ⟨by kernel_rfl, of_decide_eq_true (by kernel_rfl)⟩)
    (by rw [Tryz.params3]; intro ds hd; match ds, hd with | [_, _, _], _ => rfl)
    (ChangeSpec.witness6 (enc := enc) (C := Tryz.checked) false ⟨#[], #[.slice none 0 0, .int .i64 0, .slice none 0 0], []⟩ 8 (by kernel_rfl) (by kernel_rfl) (by kernel_rfl) (by kernel_rfl)) ?_
  intro W base args ds before hval hA hz
  rw [Tryz.params3] at hA hval hz
  obtain ⟨v0, vs0, d0, ds0, p0, q0, hargs, rfl, rfl, h0, r0⟩ := trodAll_cons hA
  obtain ⟨v1, vs1, d1, ds1, p1, q1, rfl, rfl, rfl, h1, r1⟩ := trodAll_cons r0
  obtain ⟨v2, vs2, d2, ds2, p2, q2, rfl, rfl, rfl, h2, r2⟩ := trodAll_cons r1
  obtain ⟨rfl, rfl, rfl⟩ := trodAll_nil r2
  obtain rfl : args = #[v0, v1, v2] := by cases args; simp_all
  obtain ⟨x1, rfl, rfl, rfl, wx1⟩ := open_int Tryz.underlying3 (hval 1 3 v1 rfl rfl) h1
  exact walk W v0 (hval 0 22 v0 rfl rfl) h0 x1 wx1 v2 (hval 2 23 v2 rfl rfl) h2 hz

theorem proved : Rows.TableLaysSaid :=
  OpenClaim.holds_of_wide 3 Tryz.f3 rfl rfl rfl rfl rfl rfl rfl ⟨rfl, rfl, rfl, rfl, rfl⟩ rfl rfl rfl rfl rfl (by kernel_rfl) Tryz.func3 (by kernel_rfl)
    (of_decide_eq_true (by kernel_rfl)) (by unfold Func.isWrapper; first | (rw [if_pos (by decide +kernel)]; kernel_rfl) | (rw [if_neg (by decide +kernel)]; exact ⟨rfl, rfl⟩))
    (fun os started H enc _ => lifted os started H enc)
#print axioms proved

end Go.Proofs.YtkpmmkokfllafaaGreat.lawTableLays
