/- SpansTell (6.1) answers true at every list of spans and every number, and turns nothing. No conditions. -/
import Derived.Test.YtmfoldohmbaikaaSpanW
import Derived.Test.YtmfoldohmbaikaaRows
import Derived.ProofKit
namespace Go.Proofs.Ytmfoldohmbaikaa.lawSpansTell
open Go.ChangeShapes Go.WideShapes Go.ChangeAt Go.RowKit
set_option maxRecDepth 100000 in
set_option maxHeartbeats 2000000 in
theorem walkH (w : World) (v : Value) (T : List Sp) (n : Int) (hh : HeldS w v T) : Calls Try.prog 9 #[v, .int .i64 n] w (Yes w) := by
  obtain ⟨ao, cap, rfl⟩ := hh.len
  have HH := Lib.hid hh
  clear hh
  by_cases hl : 300 < T.length
  · go_enter Try.func9, Try.ntmps9
    go_wp2_with fail
    refine (works6_any _).mono ?_
    rintro e w1 ⟨rfl, b1⟩
    go_wp2_with fail
    refine (works6_any _).mono ?_
    rintro e w2 ⟨rfl, b2⟩
    go_wp2
    go_ret
    exact ⟨(ret_eq (by first | rfl | (simp <;> omega))), b1.trans (b2.mono b1.size)⟩
  · cases hr : rightN T T.length with
    | false =>
      have HR := Lib.hid hr
      clear hr
      have hfew : fewestS T = [] := by unfold fewestS; rw [HR.out]; rfl
      have HFEW := Lib.hid hfew
      clear hfew
      go_enter Try.func9, Try.ntmps9
      go_wp2_with fail
      refine (works6_any _).mono ?_
      rintro e w1 ⟨rfl, b1⟩
      have h1 := refright_any _ T w1 (HH.out.below b1) (by omega)
      rw [HR.out] at h1
      have H1 := Lib.hid h1
      clear h1
      go_wp2_with fail
      refine (H1.out).mono ?_
      rintro e w2 ⟨rfl, b2⟩
      have hb2 := b1.trans (b2.mono b1.size)
      have h2 := right_any _ T w2 (HH.out.below hb2) (by omega)
      rw [HR.out] at h2
      have H2 := Lib.hid h2
      clear h2
      go_wp2_with fail
      refine (H2.out).mono ?_
      rintro e w3 ⟨rfl, b3⟩
      have hb3 := hb2.trans (b3.mono hb2.size)
      have h3 := find_any _ T n w3 (HH.out.below hb3) (by omega)
      rw [HR.out, if_neg (by decide)] at h3
      have H3 := Lib.hid h3
      clear h3
      go_wp2_with fail
      refine (H3.out).mono ?_
      rintro e w4 ⟨rfl, b4⟩
      have hb4 := hb3.trans (b4.mono hb3.size)
      have h4 := count_any _ T w4 (HH.out.below hb4) (by omega)
      rw [HR.out, if_neg (by decide)] at h4
      have H4 := Lib.hid h4
      clear h4
      go_wp2_with fail
      refine (H4.out).mono ?_
      rintro e w5 ⟨rfl, b5⟩
      have hb5 := hb4.trans (b5.mono hb4.size)
      have h5 := fewest_any _ T w5 (HH.out.below hb5) (by omega)
      rw [HFEW.out] at h5
      have H5 := Lib.hid h5
      clear h5
      go_wp2_with fail
      refine (H5.out).mono ?_
      rintro e w6 ⟨v', n', rfl, hn', ho', b6⟩
      obtain ⟨fo, fc, rfl⟩ := (heldS_of_owns ho').len
      have hb6 := hb5.trans (b6.mono hb5.size)
      go_wp2
      go_ret
      exact ⟨(ret_eq (by first | rfl | (simp <;> omega))), hb6⟩
    | true =>
      have HR := Lib.hid hr
      clear hr
      go_enter Try.func9, Try.ntmps9
      go_wp2_with fail
      refine (works6_any _).mono ?_
      rintro e w1 ⟨rfl, b1⟩
      have h1 := refright_any _ T w1 (HH.out.below b1) (by omega)
      rw [HR.out] at h1
      have H1 := Lib.hid h1
      clear h1
      go_wp2_with fail
      refine (H1.out).mono ?_
      rintro e w2 ⟨rfl, b2⟩
      have hb2 := b1.trans (b2.mono b1.size)
      have HB2 := Lib.hid hb2
      clear b1 b2 hb2
      go_wp2
      go_loopw [5, 6] (fun c i wr => ∃ k : Nat, k ≤ T.length ∧ i = .int .i64 k ∧ c = .int .i64 (cntN T k) ∧ Below w.heap.size w wr) (fun _ i _ => T.length - (intOf i).toNat)
      case atStart => exact ⟨0, Nat.zero_le _, rfl, rfl, HB2.out⟩
      case round =>
        obtain ⟨k, hk, rfl, rfl, hbw⟩ := hrel
        by_cases hlt : k < T.length
        · obtain ⟨b, off, rfl, hb, c0, c1, c2⟩ := (HH.out.below hbw).spots k hlt
          have hc := cnt_le T k (right_down hk HR.out)
          have hx := right_at HR.out hlt
          have hle := last_ge T k (right_down hk HR.out)
          have hle2 := last_le T k (right_down hk HR.out)
          have hn : cntN T (k + 1) = cntN T k + ((T.getD k z3).2.1 - (T.getD k z3).1 + 1) := rfl
          obtain ⟨s, hs⟩ : ∃ s, s = T.getD k z3 := ⟨_, rfl⟩
          obtain ⟨c, hcc⟩ : ∃ c, c = cntN T k := ⟨_, rfl⟩
          obtain ⟨q, hqq⟩ : ∃ q, q = lastOf T k := ⟨_, rfl⟩
          rw [← hs] at c0 c1 c2 hx hn
          rw [← hcc] at hc hn ⊢
          rw [← hqq] at hc hx hle hle2
          obtain ⟨lo, hi, val⟩ := s
          simp only at c0 c1 c2 hx hn
          have hn2 : cntN T (k + 1) = c + hi - lo + 1 := by omega
          have HN := Lib.hid hn2
          have r1 : IntKind.i64.wrap (c + hi) = c + hi := by rw [IntKind.wrap_i64]; omega
          have r2 : IntKind.i64.wrap (c + hi - lo) = c + hi - lo := by rw [IntKind.wrap_i64]; omega
          have r3 : IntKind.i64.wrap (c + hi - lo + 1) = c + hi - lo + 1 := by rw [IntKind.wrap_i64]; omega
          have k0 : (0 : Int) ≤ (k : Int) := by omega
          have k1 : (k : Int) < (T.length : Int) := by omega
          have HBW := Lib.hid hbw
          clear hn hn2 hs hcc hqq hc hx hle hle2 hbw
          go_wp2
          go_quiet (fail)
          go_wp2
          go_roundw
          case rel => exact ⟨k + 1, by omega, by go_num, by rw [HN.out]; try rfl, HBW.out.drewN _⟩
          case measure => simp [intOf] <;> omega
        · obtain rfl : k = T.length := by omega
          have h2 := right_any _ T wr (HH.out.below hbw) (by omega)
          rw [HR.out] at h2
          have H2 := Lib.hid h2
          clear h2
          go_wp2_with fail
          refine (H2.out).mono ?_
          rintro e w3 ⟨rfl, b3⟩
          have hb3 := hbw.trans (b3.mono hbw.size)
          have h3 := find_any _ T n w3 (HH.out.below hb3) (by omega)
          rw [HR.out, if_pos rfl] at h3
          have H3 := Lib.hid h3
          clear h3
          go_wp2_with fail
          refine (H3.out).mono ?_
          rintro e w4 ⟨rfl, b4⟩
          have hb4 := hb3.trans (b4.mono hb3.size)
          have H4 := Lib.hid (reffind_any _ T n w4 (HH.out.below hb4) (by omega))
          go_wp2_with fail
          refine (H4.out).mono ?_
          rintro e w5 ⟨rfl, b5⟩
          have hb5 := hb4.trans (b5.mono hb4.size)
          have h6 := count_any _ T w5 (HH.out.below hb5) (by omega)
          rw [HR.out, if_pos rfl] at h6
          have H6 := Lib.hid h6
          clear h6
          go_wp2_with fail
          refine (H6.out).mono ?_
          rintro e w6 ⟨rfl, b6⟩
          have hb6 := hb5.trans (b6.mono hb5.size)
          go_wp2
          go_ret
          exact ⟨(ret_eq (by first | rfl | (simp <;> omega))), hb6⟩
set_option maxRecDepth 100000 in
theorem walk {H : Type} {enc : TypeId × Value → H} (W : World) {base : Nat} (v : Value) {d : DataW H} {p : List MemPlace} (hv : Value.okWide Try.prog W .any base 55 v) (h : DataW.Trod enc Try.prog W 0 (fun _ => true) true 55 v d p) (n : Int) (wn : (Lit.int .i64 n).wf = true) :
    Calls Try.prog 9 #[v, .int .i64 n] W (Yes W) := by
  obtain ⟨T, hh, _, _⟩ := open_spans hv h
  exact walkH W v T n hh

set_option maxRecDepth 100000 in
theorem lifted (os : Os) (started : os.Started) (H : Type) (enc : TypeId × Value → H) :
    ReturnsInHanded {} Try.checked os 9 .any (Rows.spansTellSpec.pre6 enc Try.prog Try.f9 Rows.spansTellRow.domain false) (Rows.spansTellSpec.post enc Try.prog Try.f9 false true false false) := by
  refine law_frame_plain (C := Try.checked) (tb := 4) (by kernel_rfl) started (by kernel_rfl) Try.func9 (by kernel_rfl) (by kernel_rfl) Try.underlying4 rfl
    (by rw [Try.params9]; intro t ht; simp at ht; rcases ht with rfl | rfl <;> exact ⟨by kernel_rfl, of_decide_eq_true (by kernel_rfl)⟩)
    (by rw [Try.params9]; intro ds hd; match ds, hd with | [_, _], _ => rfl)
    (ChangeSpec.witness6 (enc := enc) (C := Try.checked) false ⟨#[], #[.slice none 0 0, .int .i64 0], []⟩ 8 (by kernel_rfl) (by kernel_rfl) (by kernel_rfl) (by kernel_rfl)) ?_
  intro W base args ds before hval hA
  rw [Try.params9] at hA hval
  obtain ⟨v0, vs0, d0, ds0, p0, q0, hargs, rfl, rfl, h0, r0⟩ := trodAll_cons hA
  obtain ⟨v1, vs1, d1, ds1, p1, q1, rfl, rfl, rfl, h1, r1⟩ := trodAll_cons r0
  obtain ⟨rfl, rfl, rfl⟩ := trodAll_nil r1
  obtain rfl : args = #[v0, v1] := by cases args; simp_all
  obtain ⟨x1, rfl, rfl, rfl, wx1⟩ := open_int Try.underlying3 (hval 1 3 v1 rfl rfl) h1
  exact walk W v0 (hval 0 55 v0 rfl rfl) h0 x1 wx1

theorem proved : Rows.SpansTellSaid :=
  OpenClaim.holds_of_wide 9 Try.f9 rfl rfl rfl rfl rfl rfl rfl ⟨rfl, rfl, rfl, rfl, rfl⟩ rfl rfl rfl rfl rfl (by kernel_rfl) Try.func9 (by kernel_rfl)
    (of_decide_eq_true (by kernel_rfl)) (by unfold Func.isWrapper; first | (rw [if_pos (by decide +kernel)]; kernel_rfl) | (rw [if_neg (by decide +kernel)]; exact ⟨rfl, rfl⟩))
    (fun os started H enc _ => lifted os started H enc)
#print axioms proved

end Go.Proofs.Ytmfoldohmbaikaa.lawSpansTell
