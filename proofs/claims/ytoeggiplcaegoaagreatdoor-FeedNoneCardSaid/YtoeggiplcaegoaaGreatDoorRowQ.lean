/- Row.Paint, of a strip that has room. -/
import Derived.Test.YtoeggiplcaegoaaGreatDoorRowP
namespace Go.Proofs.YtoeggiplcaegoaaGreatDoor
open Go.RowKit Go.ChangeShapes Go.WideShapes
set_option maxRecDepth 100000 in
set_option maxHeartbeats 6000000 in
theorem rpaint_ok (Z Y : Zone) (B g gc : Nat) (L p : List Cl) (wrap : Bool) (v : Value) (w : World) (h : RowAt Z w B g gc L wrap) (hv : HeldE cellE Y w v p) (hY : ∀ b, Y b → b ≠ g ∧ b ≠ gc) (hZ : ∀ b, w.heap.size ≤ b → Z b) (a : Nat) (hle : a + p.length ≤ L.length) (hp : soundB p = true) (hpos : 0 < p.length) :
    Calls Tryz.prog 188 #[.pointer (some ⟨g, 0, none⟩), .int .i64 a, v] w (PaintOk Z B g gc w (paintL L p a) (wrap && !lastHit L p a)) := by
  obtain ⟨hl0, hl, hs⟩ := h.len
  have hlt := h.lt
  obtain ⟨cap, h1, hB, hne, h4, _⟩ := id h
  have hglt : g < w.heap.size := h1.lt
  have hgclt : gc < w.heap.size := hlt.2.1
  have hmid : Mid Z w w B g gc L.length cap L wrap := ⟨rfl, h1, h4, Upd.refl _ _⟩
  have HSD := Lib.hid (sound_any _ _ _ _ hv)
  rw [hp] at HSD
  have HM0 := Lib.hid hmid
  have HV := Lib.hid hv
  have HFIN := Lib.hid (paint_sound hs hp hle)
  have HLAST := Lib.hid (end_last hpos hle)
  have HALL := Lib.hid (step3_all hpos hle)
  have HSH := Lib.hid (sound_short hp)
  have HZ := Lib.hid hZ
  have HY := Lib.hid hY
  obtain ⟨ao, pc, rfl⟩ := hv.len
  obtain ⟨_, _, hc⟩ := cells_at hv
  have HC := Lib.hid hc
  have hnm : ¬ ((L.length : Int) - (a : Int) < (p.length : Int)) := by omega
  have c0 := hmid.row
  have hdA : decide ((a : Int) < 0) = false := by simp
  have hdB : decide (L.length < a) = false := by simp; omega
  have hdC : decide ((L.length : Int) - (a : Int) < (p.length : Int)) = false := by simp; omega
  have hz : ((p.length : Int) == 0) = false := by rw [beq_eq_false_iff_ne]; omega
  have hw1 : IntKind.i64.wrap ((a : Int) + p.length) = (a : Int) + p.length := by rw [IntKind.wrap_i64]; omega
  clear h hv hlt h1 h4 hmid hc hs hp hZ hY
  go_enter Tryz.func188, Tryz.ntmps188
  go_wp2_with fail
  refine HSD.out.mono ?_
  rintro e w2 ⟨rfl, b2⟩
  have HM2 := Lib.hid (HM0.out.below b2)
  have HB2 := Lib.hid b2
  clear c0 b2
  go_upto_region 8 with (fail)
  go_cut [62] from 49 to 62 (fun t wx => t = .bool (leadB L a) ∧ wx = w2)
  case first =>
    have c0 := HM2.out.row
    by_cases ha0 : a = 0
    · have HE := Lib.hid (show leadB L a = false by rw [ha0]; rfl)
      have hna : ¬ 0 < a := by omega
      clear ha0
      go_wp2
      go_meet
      case rel => exact ⟨by rw [HE.out]; try rfl, rfl⟩
    · obtain ⟨b, hab⟩ : ∃ b, a = b + 1 := ⟨a - 1, by omega⟩
      have ck := HM2.out.kind (i := b) (by omega)
      have hb0 : (a : Int) - 1 = b := by omega
      have hbl : b < L.length := by omega
      have hap : 0 < a := by omega
      have e : leadB L a = ((L.getD b zc).1 == 2) := by unfold leadB; rw [decide_eq_true hap, show a - 1 = b by omega]; rfl
      clear hab ha0
      obtain ⟨K, hK⟩ : ∃ K, K = (L.getD b zc).1 := ⟨_, rfl⟩
      rw [← hK] at ck e
      have HE := Lib.hid e
      clear e hK
      go_wp2
      go_meet
      case rel => exact ⟨by rw [HE.out]; try rfl, rfl⟩
  case rest =>
    obtain ⟨rfl, hwc⟩ := hcut
    subst hwc
    have HS1 := Lib.hid (show step1 L a = if leadB L a = true then L.set (a - 1) zc else L from rfl)
    have HL1 := Lib.hid (show leadB L a = true → 0 < a from fun h => by
      unfold leadB at h
      simp only [Bool.and_eq_true, decide_eq_true_eq] at h
      exact h.1)
    generalize leadB L a = q at HS1 HL1 ⊢
    go_upto_if 62 with (fail)
    go_cut [] from 63 to 70 (fun wx => Mid Z w wx B g gc L.length cap (step1 L a) wrap ∧ Below wx.heap.size wx wx)
    case first =>
      have c0 := HM2.out.row
      cases q with
      | false =>
        go_wp2
        go_meet
        case rel => exact ⟨by rw [HS1.out]; exact HM2.out, Below.refl _ _⟩
      | true =>
        have hap : 0 < a := HL1.out rfl
        obtain ⟨b, hab⟩ : ∃ b, a = b + 1 := ⟨a - 1, by omega⟩
        have HS2 := Lib.hid (show step1 L a = L.set b zc by rw [HS1.out, show a - 1 = b by omega]; rfl)
        have hb0 : (a : Int) - 1 = b := by omega
        have hbl : b < L.length := by omega
        clear hab
        go_wp2_with (refine wpList_put_e (E := cellE) (Y := fun b => Z b ∧ b ≠ g) (i := b) rfl 147 (.tmp 70) (.tmp 69) rfl rfl rfl [.int .i64 0, .slice none 0 0] rfl (by kernel_rfl) HM2.out.2.2.1.each (by rw [HM2.out.1]; exact hbl) zc (zero_rep _ _) ?_)
        intro w3 ho3 hu3
        have H3 := Lib.hid (HM2.out.put hne hbl rfl ho3 (fun j b k => by first | exact k | (split at k <;> exact k)) hu3)
        clear ho3 hu3 c0
        go_wp2
        go_meet
        case rel => exact ⟨by rw [HS2.out]; exact H3.out, Below.refl _ _⟩
    case rest =>
      have HM3 := Lib.hid hcut.1
      clear hcut HS1 HL1
      obtain ⟨wd, hwd⟩ : ∃ wd, wd = wc := ⟨_, rfl⟩
      subst hwd
      have hti : ((a : Int) + (p.length : Int)).toNat = a + p.length := by omega
      go_upto_region 10 with (fail)
      go_cut [88] from 71 to 88 (fun t wx => t = .bool (tailB L (a + p.length)) ∧ wx = wd)
      case first =>
        have c0 := HM3.out.row
        by_cases he : a + p.length < L.length
        · have ck := HM3.out.kind (i := a + p.length) he
          rw [tail_kind hpos] at ck
          have e : tailB L (a + p.length) = ((L.getD (a + p.length) zc).1 == 3) := by unfold tailB; rw [decide_eq_true he]; rfl
          have he2 : (a : Int) + p.length < L.length := by omega
          obtain ⟨K, hK⟩ : ∃ K, K = (L.getD (a + p.length) zc).1 := ⟨_, rfl⟩
          rw [← hK] at ck e
          have HE := Lib.hid e
          clear e hK
          go_wp2
          go_meet
          case rel => exact ⟨by rw [HE.out]; try rfl, rfl⟩
        · have HE := Lib.hid (show tailB L (a + p.length) = false by unfold tailB; rw [decide_eq_false he]; rfl)
          have he2 : ¬ (a : Int) + p.length < L.length := by omega
          go_wp2
          go_meet
          case rel => exact ⟨by rw [HE.out]; try rfl, rfl⟩
      case rest =>
        obtain ⟨rfl, hwc⟩ := hcut
        subst hwc
        have HS2 := Lib.hid (show step2 L a p.length = if tailB L (a + p.length) = true then (step1 L a).set (a + p.length) zc else step1 L a from rfl)
        have HEN := Lib.hid (show endN L a p.length = if tailB L (a + p.length) = true then a + p.length + 1 else a + p.length from rfl)
        have HTL := Lib.hid (show tailB L (a + p.length) = true → a + p.length < L.length from fun h => by
          unfold tailB at h
          simp only [Bool.and_eq_true, decide_eq_true_eq] at h
          exact h.1)
        generalize tailB L (a + p.length) = q2 at HS2 HEN HTL ⊢
        go_upto_if 88 with (fail)
        go_cut [7] from 89 to 97 (fun en wx => en = .int .i64 ((endN L a p.length : Nat) : Int) ∧ Mid Z w wx B g gc L.length cap (step2 L a p.length) wrap)
        case first =>
          have c0 := HM3.out.row
          cases q2 with
          | false =>
            go_wp2
            go_meet
            case rel => exact ⟨by rw [HEN.out]; go_num, by rw [HS2.out]; exact HM3.out⟩
          | true =>
            have hlt := HTL.out rfl
            have hlt2 : (a : Int) + p.length < L.length := by omega
            have hw2 : IntKind.i64.wrap ((a : Int) + p.length + 1) = (a : Int) + p.length + 1 := by rw [IntKind.wrap_i64]; omega
            go_wp2_with (refine wpList_put_e (E := cellE) (Y := fun b => Z b ∧ b ≠ g) (i := a + p.length) rfl 147 (.tmp 95) (.tmp 94) rfl rfl rfl [.int .i64 0, .slice none 0 0] rfl (by kernel_rfl) HM3.out.2.2.1.each (by rw [HM3.out.1]; exact hlt) zc (zero_rep _ _) ?_)
            intro w3 ho3 hu3
            have H3 := Lib.hid (HM3.out.put hne hlt rfl ho3 (fun j b k => by first | exact k | (split at k <;> exact k)) hu3)
            clear ho3 hu3 c0
            go_wp2
            go_meet
            case rel => exact ⟨by rw [HEN.out]; go_num, by rw [HS2.out]; exact H3.out⟩
        case rest =>
          obtain ⟨rfl, hm4⟩ := hcut
          have HM4 := Lib.hid hm4
          clear hm4 HS2 HEN HTL HM3 hti hw1 hz hnm hdA hdB hdC
          obtain ⟨en, hen⟩ : ∃ en, en = endN L a p.length := ⟨_, rfl⟩
          rw [← hen] at HLAST ⊢
          clear hen
          obtain ⟨we, hwe⟩ : ∃ we, we = wc := ⟨_, rfl⟩
          subst hwe
          go_wp2
          go_loopw [100] (fun i wr => ∃ k : Nat, k ≤ p.length ∧ i = .int .i64 k ∧ Mid Z w wr B g gc L.length cap (step3 L p a k) wrap) (fun i _ => p.length - (intOf i).toNat)
          case atStart => exact ⟨0, Nat.zero_le _, rfl, by rw [step3_zero]; exact HM4.out⟩
          case round =>
            obtain ⟨k, hk, rfl, hm⟩ := hrel
            have HM := Lib.hid hm
            clear hm
            by_cases hlt : k < p.length
            · obtain ⟨b, off, tv, rfl, hb, hyb, c0, c1, hh⟩ := HC.out k hlt
              obtain ⟨hyg, hyc⟩ := HY.out b hyb
              have c0 := (HM.out.2.2.2.keep.cell (o := off + k * 2) hb (fun e => by rcases e with e | e; exact hyg e; exact hyc e)).trans c0
              have c1 := (HM.out.2.2.2.keep.cell (o := off + k * 2 + 1) hb (fun e => by rcases e with e | e; exact hyg e; exact hyc e)).trans c1
              have hh := hh.upd HM.out.2.2.2 (fun b hb e => by have := HY.out b hb; rcases e with e | e; exact this.1 e; exact this.2 e)
              have htl := HSH.out k hlt
              have hs3 := step3_succ L p a k
              obtain ⟨⟨K, T⟩, hKT⟩ : ∃ y, y = p.getD k zc := ⟨_, rfl⟩
              rw [← hKT] at c0 hh htl hs3
              simp only at c0 hh htl
              have HH := Lib.hid hh.ints
              have HS3 := Lib.hid hs3
              obtain ⟨ta, tc, rfl⟩ := hh.len
              clear hKT hh hs3
              obtain ⟨W0, hW0⟩ : ∃ W0, W0 = wr.alloc (.cells #[.int .i64 K, .slice ta T.length tc] 147) := ⟨_, rfl⟩
              have hb0 : Below wr.heap.size wr W0 := by rw [hW0]; exact (Below.refl _ _).alloc (Nat.le_refl _) _
              have hbox : Has W0 wr.heap.size [.int .i64 K, .slice ta T.length tc] 147 := by rw [hW0]; exact Has.new wr _ _
              have HM0 := Lib.hid (HM.out.below hb0)
              have HH0 := Lib.hid (HH.out.below hb0)
              have HBX := Lib.hid hbox
              have hg0 : g < wr.heap.size := HM.out.2.1.lt
              have hgc0 : gc < wr.heap.size := (HM.out.2.2.1.lt gc rfl).2
              have hw0 : w.heap.size ≤ wr.heap.size := HM.out.2.2.2.size
              have hs0 : wr.heap.size < W0.heap.size := by rw [hW0]; simp
              obtain ⟨gb, hgb⟩ : ∃ gb, gb = wr.heap.size := ⟨_, rfl⟩
              rw [← hgb] at HBX hg0 hgc0 hw0 hs0
              have hak : a + k < L.length := by omega
              have hti : ((a : Int) + (k : Int)).toNat = a + k := by omega
              have hwi : IntKind.i64.wrap ((a : Int) + k) = (a : Int) + k := by rw [IntKind.wrap_i64]; omega
              have HGB := Lib.hid hgb
              have HWW := Lib.hid hW0
              clear hb0 hbox HH HM hgb hW0
              go_wp2
              rw [← HGB.out]
              rw [← HWW.out]
              clear HGB HWW
              have hakI : (a : Int) + k < L.length := by omega
              obtain ⟨Erg, hErg⟩ : ∃ EE : Nat → Value → World → Prop, EE = fun jj xx ww => match jj with
                  | 0 => xx = .pointer (some ⟨g, 0, none⟩)
                  | 1 => xx = .pointer (some ⟨g, 0, none⟩)
                  | 2 => xx = .pointer (some ⟨g, 0, none⟩)
                  | 3 => xx = .slice (some ⟨gc, 0, none⟩) L.length cap
                  | 4 => xx = .int .i64 a
                  | 5 => xx = .int .i64 k
                  | 6 => xx = .int .i64 ((a : Int) + k)
                  | 7 => xx = .agg #[.int .i64 K, .slice ta T.length tc]
                  | 8 => (fun x w' => ∃ tv9, x = .agg #[.int .i64 K, tv9] ∧ HeldE (intE .i32) (fun b => gb < b) w' tv9 T) xx ww
                  | 9 => xx = .pointer (some ⟨gc, (a + k) * 2, none⟩)
                  | 10 => xx = undef
                  | _ => True := ⟨_, rfl⟩
              have erg0 : ∀ xx ww, Erg 0 xx ww = (xx = .pointer (some ⟨g, 0, none⟩)) := fun xx ww => congrFun (congrFun (congrFun hErg 0) xx) ww
              have erg1 : ∀ xx ww, Erg 1 xx ww = (xx = .pointer (some ⟨g, 0, none⟩)) := fun xx ww => congrFun (congrFun (congrFun hErg 1) xx) ww
              have erg2 : ∀ xx ww, Erg 2 xx ww = (xx = .pointer (some ⟨g, 0, none⟩)) := fun xx ww => congrFun (congrFun (congrFun hErg 2) xx) ww
              have erg3 : ∀ xx ww, Erg 3 xx ww = (xx = .slice (some ⟨gc, 0, none⟩) L.length cap) := fun xx ww => congrFun (congrFun (congrFun hErg 3) xx) ww
              have erg4 : ∀ xx ww, Erg 4 xx ww = (xx = .int .i64 a) := fun xx ww => congrFun (congrFun (congrFun hErg 4) xx) ww
              have erg5 : ∀ xx ww, Erg 5 xx ww = (xx = .int .i64 k) := fun xx ww => congrFun (congrFun (congrFun hErg 5) xx) ww
              have erg6 : ∀ xx ww, Erg 6 xx ww = (xx = .int .i64 ((a : Int) + k)) := fun xx ww => congrFun (congrFun (congrFun hErg 6) xx) ww
              have erg7 : ∀ xx ww, Erg 7 xx ww = (xx = .agg #[.int .i64 K, .slice ta T.length tc]) := fun xx ww => congrFun (congrFun (congrFun hErg 7) xx) ww
              have erg8 : ∀ xx ww, Erg 8 xx ww = ((fun x w' => ∃ tv9, x = .agg #[.int .i64 K, tv9] ∧ HeldE (intE .i32) (fun b => gb < b) w' tv9 T) xx ww) := fun xx ww => congrFun (congrFun (congrFun hErg 8) xx) ww
              have erg9 : ∀ xx ww, Erg 9 xx ww = (xx = .pointer (some ⟨gc, (a + k) * 2, none⟩)) := fun xx ww => congrFun (congrFun (congrFun hErg 9) xx) ww
              have erg10 : ∀ xx ww, Erg 10 xx ww = (xx = undef) := fun xx ww => congrFun (congrFun (congrFun hErg 10) xx) ww
              obtain ⟨Crg, hCrg⟩ : ∃ CC : Array Bool → World → Prop, CC = fun L8 w' => (Mix.one L8 10 = 0 → Below W0.heap.size W0 w') ∧ (Mix.one L8 10 ≠ 0 → Mid Z w w' B g gc L.length cap (step3 L p a (k + 1)) wrap) := ⟨_, rfl⟩
              have krg : ∀ i L w, i ≠ 10 →  Crg L w → Crg (L.setIfInBounds i true) w := by
                intro i L w q10 h
                rw [hCrg] at h ⊢
                simp only [Mix.one_ne q10]; exact h
              obtain ⟨Xrg, hXrg⟩ : ∃ XX : World → World → Prop, XX = fun x y => Upd (fun b => b = g ∨ b = gc) x y := ⟨_, rfl⟩
              have xrg : ∀ w, Xrg w w := fun w => by rw [hXrg]; exact Upd.refl _ _
              have strg : ∀ j x w w1, Xrg w w1 → Erg j x w → Erg j x w1 := by
                intro j x w w1 hx h
                rw [hXrg] at hx
                match j with
                | 0 => rw [erg0] at h ⊢; exact h
                | 1 => rw [erg1] at h ⊢; exact h
                | 2 => rw [erg2] at h ⊢; exact h
                | 3 => rw [erg3] at h ⊢; exact h
                | 4 => rw [erg4] at h ⊢; exact h
                | 5 => rw [erg5] at h ⊢; exact h
                | 6 => rw [erg6] at h ⊢; exact h
                | 7 => rw [erg7] at h ⊢; exact h
                | 8 => rw [erg8] at h ⊢; ((obtain ⟨tv9, e9, h9⟩ := h; exact ⟨tv9, e9, h9.upd hx (fun b hb e => by rcases e with e | e <;> omega)⟩))
                | 9 => rw [erg9] at h ⊢; exact h
                | 10 => rw [erg10] at h ⊢; exact h
                | j + 11 => rw [hErg]; trivial
              have crg : Crg (Array.replicate 11 false) W0.drew := by rw [hCrg]; exact ⟨fun _ => (Below.refl _ _).drew, fun e => absurd (Mix.one_none _ _) e⟩
              have brg : ∀ L w w1, Crg L w → Below w.heap.size w w1 → Crg L w1 := by
                intro L w w1 h hb
                rw [hCrg] at h ⊢
                exact ⟨fun e => (h.1 e).trans (hb.mono (h.1 e).size), fun e => (h.2 e).below hb⟩
              have xbrg : ∀ w w1, Below w.heap.size w w1 → Xrg w w1 := by
                intro w w1 hb
                rw [hXrg]
                exact .ofBelow hb
              have Hrgb := Lib.hid brg
              have Hrgxb := Lib.hid xbrg
              clear brg xbrg
              clear hErg
              have Hrgk := Lib.hid krg
              have Hrgx := Lib.hid xrg
              have Hrgst := Lib.hid strg
              have Hrgc := Lib.hid crg
              have HrghC := Lib.hid hCrg
              have HrghX := Lib.hid hXrg
              have Hrge0 := Lib.hid erg0
              have Hrge1 := Lib.hid erg1
              have Hrge2 := Lib.hid erg2
              have Hrge3 := Lib.hid erg3
              have Hrge4 := Lib.hid erg4
              have Hrge5 := Lib.hid erg5
              have Hrge6 := Lib.hid erg6
              have Hrge7 := Lib.hid erg7
              have Hrge8 := Lib.hid erg8
              have Hrge9 := Lib.hid erg9
              have Hrge10 := Lib.hid erg10
              clear krg xrg strg crg hCrg hXrg erg0 erg1 erg2 erg3 erg4 erg5 erg6 erg7 erg8 erg9 erg10
              go_wp2_with fail
              refine Reg.regionF Erg Crg Xrg Hrgst.out (by kernel_rfl) (by kernel_rfl) (by kernel_rfl) Hrgc.out (fun Frg hFrg => ?_)
              simp only [Reg.frame, Reg.dsts, List.map_cons, List.map_nil, Mix.put_lit, Reg.put_none, List.set_cons_succ, List.set_cons_zero, Nat.zero_add, Nat.reduceAdd] at hFrg
              refine ⟨?_, ?_⟩
              · refine ⟨?_, ?_, ?_, ?_, ?_, ?_, ?_, ?_, ?_, ?_, ?_, trivial⟩
                · intro Lq wq xq hh
                  simp only [hFrg]
                  refine .inl ⟨rfl, ?_⟩
                  unfold Reg.upon
                  have hk := Hrgk.out 0 Lq wq (by decide)  hh.cls
                  have hx := Hrgx.out wq
                  have he : Erg 0 (.pointer (some ⟨g, 0, none⟩)) wq := by rw [Hrge0.out]
                  have HK := Lib.hid (And.intro hk (And.intro he hx))
                  clear hk hx he
                  go_simp
                  exact HK.out
                · intro Lq wq xq hh
                  have d0 : Erg 0 (xq 0) wq := hh.val 0 (by kernel_rfl) (by kernel_rfl)
                  rw [Hrge0.out] at d0
                  simp only [hFrg, d0]
                  clear d0
                  refine .inl ⟨rfl, ?_⟩
                  unfold Reg.upon
                  have hk := Hrgk.out 1 Lq wq (by decide)  hh.cls
                  have hx := Hrgx.out wq
                  have he : Erg 1 (.pointer (some ⟨g, 0, none⟩)) wq := by rw [Hrge1.out]
                  have HK := Lib.hid (And.intro hk (And.intro he hx))
                  clear hk hx he
                  go_simp
                  exact HK.out
                · intro Lq wq xq hh
                  have d1 : Erg 1 (xq 1) wq := hh.val 1 (by kernel_rfl) (by kernel_rfl)
                  rw [Hrge1.out] at d1
                  simp only [hFrg, d1]
                  clear d1
                  refine .inl ⟨rfl, ?_⟩
                  unfold Reg.upon
                  have hk := Hrgk.out 2 Lq wq (by decide)  hh.cls
                  have hx := Hrgx.out wq
                  have he : Erg 2 (.pointer (some ⟨g, 0, none⟩)) wq := by rw [Hrge2.out]
                  have HK := Lib.hid (And.intro hk (And.intro he hx))
                  clear hk hx he
                  go_simp
                  exact HK.out
                · intro Lq wq xq hh
                  have d2 : Erg 2 (xq 2) wq := hh.val 2 (by kernel_rfl) (by kernel_rfl)
                  rw [Hrge2.out] at d2
                  simp only [hFrg, d2]
                  clear d2
                  refine .inl ⟨rfl, ?_⟩
                  unfold Reg.upon
                  have hc : Crg Lq wq := hh.cls
                  rw [HrghC.out] at hc
                  have hc3 := hc.1 (Mix.one_un (hh.notYet 10 (by kernel_rfl)))
                  have hcell := (HM0.out.below hc3).row
                  clear hc
                  have hk := Hrgk.out 3 Lq wq (by decide)  hh.cls
                  have hx := Hrgx.out wq
                  have he : Erg 3 (.slice (some ⟨gc, 0, none⟩) L.length cap) wq := by rw [Hrge3.out]
                  have HK := Lib.hid (And.intro hk (And.intro he hx))
                  clear hk hx he
                  go_simp
                  exact HK.out
                · intro Lq wq xq hh
                  simp only [hFrg]
                  refine .inl ⟨rfl, ?_⟩
                  unfold Reg.upon
                  have hk := Hrgk.out 4 Lq wq (by decide)  hh.cls
                  have hx := Hrgx.out wq
                  have he : Erg 4 (.int .i64 a) wq := by rw [Hrge4.out]
                  have HK := Lib.hid (And.intro hk (And.intro he hx))
                  clear hk hx he
                  go_simp
                  exact HK.out
                · intro Lq wq xq hh
                  simp only [hFrg]
                  refine .inl ⟨rfl, ?_⟩
                  unfold Reg.upon
                  have hk := Hrgk.out 5 Lq wq (by decide)  hh.cls
                  have hx := Hrgx.out wq
                  have he : Erg 5 (.int .i64 k) wq := by rw [Hrge5.out]
                  have HK := Lib.hid (And.intro hk (And.intro he hx))
                  clear hk hx he
                  go_simp
                  exact HK.out
                · intro Lq wq xq hh
                  have d4 : Erg 4 (xq 4) wq := hh.val 4 (by kernel_rfl) (by kernel_rfl)
                  rw [Hrge4.out] at d4
                  have d5 : Erg 5 (xq 5) wq := hh.val 5 (by kernel_rfl) (by kernel_rfl)
                  rw [Hrge5.out] at d5
                  simp only [hFrg, d4, d5]
                  clear d4 d5
                  refine .inl ⟨rfl, ?_⟩
                  unfold Reg.upon
                  have hk := Hrgk.out 6 Lq wq (by decide)  hh.cls
                  have hx := Hrgx.out wq
                  have he : Erg 6 (.int .i64 ((a : Int) + k)) wq := by rw [Hrge6.out]
                  have HK := Lib.hid (And.intro hk (And.intro he hx))
                  clear hk hx he
                  go_simp
                  exact HK.out
                · intro Lq wq xq hh
                  simp only [hFrg]
                  refine .inl ⟨rfl, ?_⟩
                  unfold Reg.upon
                  have hc : Crg Lq wq := hh.cls
                  rw [HrghC.out] at hc
                  have hc7 := hc.1 (Mix.one_un (hh.notYet 10 (by kernel_rfl)))
                  have hbx := HBX.out.below hc7 HBX.out.lt
                  have k0 := hbx.cell 0 _ rfl
                  have k1 := hbx.cell 1 _ rfl
                  clear hc
                  have hk := Hrgk.out 7 Lq wq (by decide)  hh.cls
                  have hx := Hrgx.out wq
                  have he : Erg 7 (.agg #[.int .i64 K, .slice ta T.length tc]) wq := by rw [Hrge7.out]
                  have HK := Lib.hid (And.intro hk (And.intro he hx))
                  clear hk hx he
                  go_simp
                  exact HK.out
                · intro Lq wq xq hh
                  have d7 : Erg 7 (xq 7) wq := hh.val 7 (by kernel_rfl) (by kernel_rfl)
                  rw [Hrge7.out] at d7
                  simp only [hFrg, d7]
                  clear d7
                  refine .inl ⟨rfl, ?_⟩
                  unfold Reg.upon
                  have hc : Crg Lq wq := hh.cls
                  rw [HrghC.out] at hc
                  have hc8 := hc.1 (Mix.one_un (hh.notYet 10 (by kernel_rfl)))
                  go_simp
                  refine (clonec_any K _ T wq (HH0.out.below hc8) htl).mono ?_
                  rintro e w2 ⟨tv9, rfl, hh9, hb9⟩
                  refine ⟨_, rfl, Hrgk.out 8 Lq w2 (by decide) (Hrgb.out Lq wq w2 hh.cls hb9), ?_, Hrgxb.out wq w2 hb9⟩
                  rw [Hrge8.out]
                  exact ⟨tv9, rfl, hh9.zone (fun b _ hz => by have := hc8.size; omega)⟩
                · intro Lq wq xq hh
                  have d3 : Erg 3 (xq 3) wq := hh.val 3 (by kernel_rfl) (by kernel_rfl)
                  rw [Hrge3.out] at d3
                  have d6 : Erg 6 (xq 6) wq := hh.val 6 (by kernel_rfl) (by kernel_rfl)
                  rw [Hrge6.out] at d6
                  simp only [hFrg, d3, d6]
                  clear d3 d6
                  refine .inl ⟨rfl, ?_⟩
                  unfold Reg.upon
                  have hk := Hrgk.out 9 Lq wq (by decide)  hh.cls
                  have hx := Hrgx.out wq
                  have he : Erg 9 (.pointer (some ⟨gc, (a + k) * 2, none⟩)) wq := by rw [Hrge9.out]
                  have HK := Lib.hid (And.intro hk (And.intro he hx))
                  clear hk hx he
                  go_simp
                  exact HK.out
                · intro Lq wq xq hh
                  have d8 : Erg 8 (xq 8) wq := hh.val 8 (by kernel_rfl) (by kernel_rfl)
                  rw [Hrge8.out] at d8
                  have d9 : Erg 9 (xq 9) wq := hh.val 9 (by kernel_rfl) (by kernel_rfl)
                  rw [Hrge9.out] at d9
                  simp only [hFrg, d9]
                  clear d9
                  refine .inl ⟨rfl, ?_⟩
                  unfold Reg.upon
                  obtain ⟨tv9, e9, h9⟩ := d8
                  obtain ⟨t9a, t9c, e8⟩ := h9.len
                  rw [e9]
                  subst e8
                  have hc10 : Crg Lq wq := hh.cls
                  rw [HrghC.out] at hc10
                  have hcb := hc10.1 hh.un
                  have hmid := HM0.out.below hcb
                  have hidx : a + k < (step3 L p a k).length := by rw [step3_len]; exact hak
                  have hr9 : cellE.rep (fun b => (Z b ∧ b ≠ g) ∧ b ≠ gc) wq [.int .i64 K, .slice t9a T.length t9c] (K, T) := cell_rep.2 ⟨_, rfl, h9.zone (fun b _ hz => ⟨⟨HZ.out b (by omega), by omega⟩, by omega⟩)⟩
                  have hth := hmid.2.2.1.each.there hidx
                  obtain ⟨ho9, hu9⟩ := hmid.2.2.1.each.put (Y := fun b => Z b ∧ b ≠ g) hidx _ (K, T) hr9
                  rw [exec_store_mid (b := gc) (off := (a + k) * 2) rfl rfl [.int .i64 K, .slice t9a T.length t9c] rfl hth (by kernel_rfl) (cellE.one hr9)]
                  refine ⟨?_, (by rw [Hrge10.out]), (by rw [HrghX.out]; exact hu9.mono (fun b _ e => .inr e))⟩
                  rw [HrghC.out]
                  refine ⟨fun e => (by rw [Mix.one_set (by rw [hh.size]; decide)] at e; cases e), fun _ => ?_⟩
                  rw [HS3.out]
                  exact hmid.put hne hak rfl ho9 (fun j b q => by split at q <;> exact q) hu9
              intro xq wrg hcrg hvrg
              rw [HrghC.out] at hcrg
              simp only [hFrg]
              clear hvrg hFrg Hrgk Hrgx Hrgst Hrgc HrghC HrghX Hrgb Hrgxb Hrge0 Hrge1 Hrge2 Hrge3 Hrge4 Hrge5 Hrge6 Hrge7 Hrge8 Hrge9 Hrge10
              have HMN := Lib.hid (hcrg.2 (by rw [Mix.one_all (by decide)]; decide))
              clear hcrg
              go_wp2
              go_roundw
              case rel => exact ⟨k + 1, by omega, by go_num, HMN.out⟩
              case measure => simp [intOf] <;> omega
            · obtain rfl : k = p.length := by omega
              have hmf := HM.out
              rw [HALL.out] at hmf
              have c0 := hmf.row
              have c1 := hmf.2.1.cell 1 _ rfl
              have f1 := hmf.2.1.free 1
              have HMF := Lib.hid hmf
              clear hmf HM
              cases hlh : lastHit L p a with
              | true =>
                rw [hlh] at HLAST
                have he : en = L.length := of_decide_eq_true HLAST.out
                have he2 : ((en : Int) == (L.length : Int)) = true := by rw [he]; simp
                have HLH := Lib.hid hlh
                clear he hlh
                go_wp2
                go_ret
                exact ⟨(ret_eq (by first | rfl | (simp <;> omega))), by rw [HLH.out, Bool.not_true, Bool.and_false]; exact (HMF.out.setWrap hne false).done hB hne hl0 hl HFIN.out, (HMF.out.setWrap hne false).2.2.2⟩
              | false =>
                rw [hlh] at HLAST
                have he : en ≠ L.length := of_decide_eq_false HLAST.out
                have he2 : ((en : Int) == (L.length : Int)) = false := by rw [beq_eq_false_iff_ne]; omega
                have HLH := Lib.hid hlh
                clear he hlh
                go_wp2
                go_ret
                exact ⟨(ret_eq (by first | rfl | (simp <;> omega))), by rw [HLH.out, Bool.not_false, Bool.and_true]; exact HMF.out.done hB hne hl0 hl HFIN.out, HMF.out.2.2.2⟩
end Go.Proofs.YtoeggiplcaegoaaGreatDoor
