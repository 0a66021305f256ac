/- UtfdecForms (3.2) answers true at every row of numbers, and turns nothing. No conditions. -/
import Derived.Test.YtgdknabpdjohgaaUtfdecM
import Derived.Test.YtgdknabpdjohgaaUtfdecW
import Derived.Test.YtgdknabpdjohgaaFrame
import Derived.Test.YtgdknabpdjohgaaRows
import Derived.ProofKit
namespace Go.Proofs.Ytgdknabpdjohgaa.lawUtfdecForms
open Go.ChangeShapes Go.WideShapes Go.ChangeAt Go.RowKit
theorem Held.short {k : IntKind} {w : World} {v : Value} {xs : List Int} (h : Held k w v xs) : ∃ ao cap, v = .slice ao xs.length cap := h.len
set_option maxRecDepth 100000 in
theorem walk (w : World) (v : Value) (xs : List Int) (hv : Held .i32 w v xs) (_hp : ∀ x ∈ xs, (Lit.int .i32 x).wf = true) : Calls Try.prog 7 #[v] w (Yes w) := by
  clear _hp
  obtain ⟨ao, cap, rfl, hc⟩ := hv.view
  have HC := Lib.hid hc
  clear hc hv
  by_cases hl : 500 < xs.length
  · go_enter Try.func7, Try.ntmps7
    go_wp2_with fail
    refine (works3_any _).mono ?_
    rintro e w1 ⟨rfl, b1⟩
    go_wp2_with fail
    refine (works3_any _).mono ?_
    rintro e w2 ⟨rfl, b2⟩
    go_wp2
    go_ret
    exact ⟨(ret_eq (by first | rfl | (simp <;> omega))), b1.trans (b2.mono b1.size)⟩
  · go_enter Try.func7, Try.ntmps7
    go_wp2_with fail
    refine (works3_any _).mono ?_
    rintro e w1 ⟨rfl, b1⟩
    go_wp2
    go_loopw [4] (fun i wr => ∃ k : Nat, k ≤ xs.length ∧ i = .int .i64 k ∧ DecAt wr w1.heap.size 0 0 0 ∧ Below w1.heap.size w1 wr) (fun i _ => xs.length - (intOf i).toNat)
    case atStart => exact ⟨0, Nat.zero_le _, rfl, Has.new w1 _ _, (Below.refl _ _).alloc (Nat.le_refl _) _⟩
    case round =>
      obtain ⟨k, hk, rfl, hd, hbw⟩ := hrel
      by_cases hlt : k < xs.length
      · obtain ⟨b, off, rfl, hb, hcx⟩ := HC.out k hlt
        have hcx1 := (b1.cell (p := ⟨b, off + k, none⟩) hb).trans hcx
        have hcx2 := (hbw.cell (p := ⟨b, off + k, none⟩) (by have := b1.size; simp; omega)).trans hcx1
        have HD := Lib.hid hd
        generalize xs.getD k 0 = r at hcx hcx1 hcx2
        clear hd hcx hcx1
        go_wp2_with fail
        refine (refform_new r _).mono ?_
        rintro e w2 ⟨v2, rfl, hh2, hb2, hfr⟩
        obtain ⟨ao2, cap2, rfl, hc2⟩ := hh2.view
        have hg := HD.out.lt
        have hd2 := HD.out.below hb2 hg
        have hbb : Below w1.heap.size w1 w2 := hbw.trans (hb2.mono hbw.size)
        have hb1' : b < w1.heap.size := by have := b1.size; omega
        have hcx3 := (hb2.cell (p := ⟨b, off + k, none⟩) (by have := hbw.size; simp; omega)).trans hcx2
        have HH2 := Lib.hid hh2
        have HFR := Lib.hid hfr
        clear HD hc2 hcx2 hh2 hfr
        cases hv : validB r with
        | false =>
          have e0 : formL r = [] := by simp [formL, hv]
          rw [e0] at *
          clear hv
          go_wp2
          go_loopw [6] (fun j wi => j = .int .i64 0 ∧ wi = w2) (fun _ _ => 0)
          case atStart => exact ⟨rfl, rfl⟩
          case round =>
            obtain ⟨rfl, rfl⟩ := hrel
            go_wp2
            go_roundw
            case rel => exact ⟨k + 1, by omega, by go_num, hd2, hbb⟩
            case measure => simp [intOf]; omega
        | true =>
          have HV := Lib.hid hv
          clear hv
          have hstep := fun j hj => form_step r HV.out j hj
          have HS := Lib.hid hstep
          have hr1 : ∀ j, j < (formL r).length → 0 ≤ (formL r).getD j 0 ∧ (formL r).getD j 0 ≤ 255 := by
            intro j hj
            have := formL_range r ((formL r).getD j 0) (by simp [List.getD, List.getElem?_eq_getElem hj])
            omega
          have HR := Lib.hid hr1
          have hlen := formL_len r
          have e0 := sOf_zero (formL r)
          have ee := sOf_end (formL r)
          clear hstep hr1
          generalize hfm : formL r = fs at *
          clear hfm
          have HE0 := Lib.hid e0
          have HEE := Lib.hid ee
          clear e0 ee
          go_wp2
          go_loopw [6] (fun j wi => ∃ m : Nat, m ≤ fs.length ∧ j = .int .i64 m ∧ DecAt wi w1.heap.size (sOf fs m).1 (sOf fs m).2.1 (sOf fs m).2.2 ∧ wfS (sOf fs m) ∧ But w1.heap.size w2.heap.size w2 wi) (fun j _ => fs.length - (intOf j).toNat)
          case atStart => exact ⟨0, Nat.zero_le _, rfl, by rw [HE0.out]; exact hd2, by rw [HE0.out]; exact wfS_zero, But.refl _ _ _⟩
          case round =>
            obtain ⟨m, hm, rfl, hdm, hwm, hbm⟩ := hrel
            have HWM := Lib.hid hwm
            clear hwm
            by_cases hlm : m < fs.length
            · obtain ⟨h1, h2⟩ := HS.out m hlm
              obtain ⟨x0, x1⟩ := HR.out m hlm
              have hhm := held_but hbm (fun a e => by have := HFR.out a _ _ (by rw [e]); have := hbw.size; omega) HH2.out
              obtain ⟨b3, o3, rfl, hb3, hc3⟩ := hhm.spots m hlm
              have hcx4 := (World.cell?_of_block (a := ⟨b, off + k, none⟩) (hbm.block b (by have := hb2.size; have := hbw.size; omega) (by omega))).trans hcx3
              obtain ⟨x, hx⟩ : ∃ x, x = fs.getD m 0 := ⟨_, rfl⟩
              rw [← hx] at hc3 h1 h2 x0 x1
              have HX := Lib.hid hx
              have H1 := Lib.hid h1
              have H2 := Lib.hid h2
              have hws := Lib.hid (wfS_step _ x HWM.out x0 x1)
              clear hx h1 h2 hhm
              go_wp2_with fail
              refine (step_any w1.heap.size _ _ _ x _ hdm HWM.out x0 x1).mono ?_
              rintro e w4 ⟨v4, rfl, hh4, hd4, hb4⟩
              have hh4' : Held .i32 w4 v4 (if m + 1 = fs.length then [r] else []) := by rw [← H1.out]; exact hh4
              have hd4' : DecAt w4 w1.heap.size (sOf fs (m + 1)).1 (sOf fs (m + 1)).2.1 (sOf fs (m + 1)).2.2 := by rw [← H2.out]; exact hd4
              have hw4 : wfS (sOf fs (m + 1)) := by rw [← H2.out]; exact hws.out
              have hbm4 : But w1.heap.size w2.heap.size w2 w4 := hbm.trans (hb4.mono hbm.size)
              have hcx5 := (World.cell?_of_block (a := ⟨b, off + k, none⟩) (hb4.block b (by have := hb2.size; have := hbw.size; have := hbm.size; omega) (by omega))).trans hcx4
              have HW4 := Lib.hid hw4
              clear hh4 hd4 hb4 hcx4 hc3 H1 H2 hws hw4 hdm HWM hbm
              by_cases he : m + 1 = fs.length
              · rw [if_pos he] at hh4'
                obtain ⟨ao5, cap5, rfl, _⟩ := hh4'.view
                have hs := same_any _ _ [r] [r] _ (hh4'.alloc (.cells [Value.int .i32 r].toArray 21)) (held_new .i32 w4 [.int .i32 r] 21 1 1 [r] rfl rfl) (by simp)
                rw [sameB_self] at hs
                have HSA := Lib.hid hs
                have hd5 := hd4'.alloc (.cells [Value.int .i32 r].toArray 21)
                have t1 : ((m : Int) + 1 == (fs.length : Int)) = true := by simp; omega
                have t2 : ((m : Int) + 1 < (fs.length : Int)) = False := by simp; omega
                clear hs hh4'
                go_wp2_with fail
                refine HSA.out.mono ?_
                rintro e w6 ⟨rfl, hb6⟩
                have hd6 := hd5.below hb6 (by have := hd4'.lt; simp; omega)
                have hbm6 : But w1.heap.size w2.heap.size w2 w6 := (hbm4.alloc (Nat.le_refl _) _).trans (.ofBelow (hb6.mono (by have := hbm4.size; simp; omega)))
                clear HSA hd5 hb6 hbm4 hd4' hcx5
                go_wp2
                go_roundw
                case rel => exact ⟨m + 1, by omega, by go_num, hd6, HW4.out, hbm6⟩
                case measure => simp [intOf]; omega
              · rw [if_neg he] at hh4'
                obtain ⟨ao5, cap5, rfl, _⟩ := hh4'.view
                have t1 : ((m : Int) + 1 == (fs.length : Int)) = false := by simp; omega
                have t2 : (m : Int) + 1 < (fs.length : Int) := by omega
                clear hh4' hcx5
                go_wp2
                go_roundw
                case rel => exact ⟨m + 1, by omega, by go_num, hd4', HW4.out, hbm4⟩
                case measure => simp [intOf]; omega
            · have hmm : m = fs.length := by omega
              rw [hmm] at hdm
              rw [HEE.out] at hdm
              have hbk := hbb.trans (hbm.below hbb.size (Nat.le_refl _))
              clear hbm
              go_wp2
              go_roundw
              case rel => exact ⟨k + 1, by omega, by go_num, hdm, hbk⟩
              case measure => simp [intOf]; omega
      · go_wp2_with fail
        refine (held_any w1.heap.size 0 0 0 _ hd).mono ?_
        rintro e w' ⟨rfl, rfl⟩
        have hb0 : Below w.heap.size w wr := b1.trans (hbw.mono b1.size)
        go_wp2
        go_ret
        exact ⟨(ret_eq (by first | rfl | (simp <;> omega))), hb0⟩

set_option maxRecDepth 100000 in
theorem lifted (os : Os) (started : os.Started) (H : Type) (enc : TypeId × Value → H) :
    ReturnsInHanded {} Try.checked os 7 .any (Rows.utfdecFormsSpec.pre6 enc Try.prog Try.f7 Rows.utfdecFormsRow.domain false) (Rows.utfdecFormsSpec.post enc Try.prog Try.f7 false true false false) := by
  refine law_frame_plain (C := Try.checked) (tb := 4) (by kernel_rfl) started (by kernel_rfl) Try.func7 (by kernel_rfl) (by kernel_rfl) Try.underlying4 rfl
    (by rw [Try.params7]; intro t ht; simp at ht; subst ht <;> exact ⟨by kernel_rfl, of_decide_eq_true (by kernel_rfl)⟩)
    (by rw [Try.params7]; intro ds hd; match ds, hd with | [_], _ => rfl)
    (ChangeSpec.witness6 (enc := enc) (C := Try.checked) false ⟨#[], #[.slice none 0 0], []⟩ 8 (by kernel_rfl) (by kernel_rfl) (by kernel_rfl) (by kernel_rfl)) ?_
  intro W base args ds before hval hA
  rw [Try.params7] at hA hval
  obtain ⟨v0, vs0, d0, ds0, p0, q0, hargs, rfl, rfl, h0, r0⟩ := trodAll_cons hA
  obtain ⟨rfl, rfl, rfl⟩ := trodAll_nil r0
  obtain rfl : args = #[v0] := by cases args; simp_all
  obtain ⟨x0, hx0, wx0⟩ := held_arg Try.underlying35 Try.underlying21 (by kernel_rfl) (hval 0 35 v0 rfl rfl) h0
  exact walk W v0 x0 hx0 wx0

theorem proved : Rows.UtfdecFormsSaid :=
  OpenClaim.holds_of_wide 7 Try.f7 rfl rfl rfl rfl rfl rfl rfl ⟨rfl, rfl, rfl, rfl, rfl⟩ rfl rfl rfl rfl rfl (by kernel_rfl) Try.func7 (by kernel_rfl)
    (of_decide_eq_true (by kernel_rfl)) (by unfold Func.isWrapper; first | (rw [if_pos (by decide +kernel)]; kernel_rfl) | (rw [if_neg (by decide +kernel)]; exact ⟨rfl, rfl⟩))
    (fun os started H enc _ => lifted os started H enc)
#print axioms proved

end Go.Proofs.Ytgdknabpdjohgaa.lawUtfdecForms
