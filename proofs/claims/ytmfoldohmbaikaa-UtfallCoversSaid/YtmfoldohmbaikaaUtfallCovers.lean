/- UtfallCovers (4.2) answers true at every row of bytes, and turns nothing. No conditions. -/
import Derived.Test.YtmfoldohmbaikaaUallW
import Derived.Test.YtmfoldohmbaikaaUallM
import Derived.Test.YtmfoldohmbaikaaUallV
import Derived.Test.YtmfoldohmbaikaaScalarR
import Derived.Test.YtmfoldohmbaikaaFrame
import Derived.Test.YtmfoldohmbaikaaRows
import Derived.ProofKit
namespace Go.Proofs.Ytmfoldohmbaikaa.lawUtfallCovers
open Go.ChangeShapes Go.WideShapes Go.ChangeAt Go.RowKit
theorem in_bytes {xs : List Int} (h : ∀ x ∈ xs, (Lit.int .u8 x).wf = true) : ∀ i, i < xs.length → 0 ≤ xs.getD i 0 ∧ xs.getD i 0 ≤ 255 := by
  intro i hi
  have := bounds_u8 (h (xs.getD i 0) (by simp [List.getD, List.getElem?_eq_getElem hi]))
  omega
theorem HeldG.below {w w' : World} {v : Value} {l : List G5} (h : HeldG w v l) (hb : Below w.heap.size w w') : HeldG w' v l := by
  obtain ⟨ao, cap, rfl, hc⟩ := h
  refine ⟨ao, cap, rfl, fun i hi => ?_⟩
  obtain ⟨b, off, rfl, hlt, c0, c1, c2, c3, c4⟩ := hc i hi
  exact ⟨b, off, rfl, by have := hb.size; omega, (hb.cell (p := ⟨b, off + i * 5, none⟩) hlt).trans c0, (hb.cell (p := ⟨b, off + i * 5 + 1, none⟩) hlt).trans c1, (hb.cell (p := ⟨b, off + i * 5 + 2, none⟩) hlt).trans c2, (hb.cell (p := ⟨b, off + i * 5 + 3, none⟩) hlt).trans c3, (hb.cell (p := ⟨b, off + i * 5 + 4, none⟩) hlt).trans c4⟩
theorem bytes_same (v u : Value) (L : List Int) (w : World) (hx : Held .u8 w v L) (hy : Held .u8 w u L) : Calls Try.prog 24 #[v, u] w fun e w' => e = .returned (.bool true) ∧ w = w' := by
  have := bytes_any v u L L w hx hy
  rw [beq_self_eq_true] at this
  exact this
theorem below_undrew {B : Nat} {a w : World} (h : Below B a w) {n : Nat} : Below B a (w.drewN n) := ⟨h.os, h.tape, h.output, h.size, h.block⟩
theorem b_drew {B : Nat} {a w : World} (h : Below B a w) : Below B a w.drew := h.drew
set_option maxRecDepth 100000 in
set_option maxHeartbeats 2000000 in
theorem walkH (w : World) (v : Value) (xs : List Int) (hv : Held .u8 w v xs) (hcp : CapOk v) (hr : ∀ i, i < xs.length → 0 ≤ xs.getD i 0 ∧ xs.getD i 0 ≤ 255) : Calls Try.prog 4 #[v] w (Yes w) := by
  obtain ⟨ao, cap, rfl, hc⟩ := hv.view
  have hcap : xs.length ≤ cap := hcp _ _ _ rfl
  have HV := Lib.hid hv
  have HC := Lib.hid hcp
  have HR := Lib.hid hr
  have HCC := Lib.hid hc
  clear hv hcp hr hc
  by_cases hl : 3000 < xs.length
  · go_enter Try.func4, Try.ntmps4
    go_wp2_with fail
    refine (works4_any _).mono ?_
    rintro e w1 ⟨rfl, b1⟩
    go_wp2_with fail
    refine (works4_any _).mono ?_
    rintro e w2 ⟨rfl, b2⟩
    go_wp2
    go_ret
    exact ⟨(ret_eq (by first | rfl | (simp <;> omega))), b1.trans (b2.mono b1.size)⟩
  · go_enter Try.func4, Try.ntmps4
    go_wp2_with fail
    refine (works4_any _).mono ?_
    rintro e w1 ⟨rfl, b1⟩
    go_wp2_with fail
    refine (all_any _ xs _ (HV.out.below b1) HC.out (by omega) HR.out).mono ?_
    rintro e w2 ⟨K, lv, rfl, hK, hown, b2⟩
    have hb2 := b1.trans (b2.mono b1.size)
    have hG := heldG_of_owns hown
    obtain ⟨lo, lc, rfl, _⟩ := id hG
    rw [partsN_len] at hG ⊢
    have HG := Lib.hid hG
    have HK := Lib.hid hK
    have hKl : K ≤ xs.length := by rw [← hK]; exact posN_ge xs K
    clear hown hG hK b1 b2
    go_wp2
    go_loopw [4, 5] (fun p i wr => ∃ k q : Nat, posN xs k = q ∧ k ≤ K ∧ p = .int .i64 q ∧ i = .int .i64 k ∧ Below w2.heap.size w2 wr) (fun _ i _ => K - (intOf i).toNat)
    case atStart => exact ⟨0, 0, rfl, Nat.zero_le _, rfl, rfl, Below.refl _ _⟩
    case round =>
      obtain ⟨k, q, hq, hkK, rfl, rfl, hbw⟩ := hrel
      by_cases hlt : k < K
      · have hql : q < xs.length := by rw [← HK.out, ← hq]; exact posN_lt xs hlt
        have hps : posN xs (k + 1) = q + lenG xs q := by show posN xs k + _ = _; rw [hq]
        have hle := lenG_le xs q hql
        have hpo := lenG_pos xs q
        have hat := partsN_at xs K k hlt
        rw [hq] at hat
        obtain ⟨r, kn, bd, hpg, hk1, hk2, hbad, hgood⟩ := part_is xs q hql HR.out
        rw [hpg] at hat
        obtain ⟨n, hn⟩ : ∃ n, n = lenG xs q := ⟨_, rfl⟩
        rw [← hn] at hps hle hpo hk1 hgood hat
        have hx : ∃ h : k < (partsN xs K).length, (partsN xs K)[k] = (r, (q : Int), (n : Int), kn, bd) := by
          have h : k < (partsN xs K).length := by rw [partsN_len]; exact hlt
          exact ⟨h, by rw [List.getElem?_eq_getElem h] at hat; exact Option.some.inj hat⟩
        obtain ⟨hkl, hx⟩ := hx
        obtain ⟨lo', lc', hle', hcells⟩ := HeldG.below HG.out hbw
        obtain ⟨bl, offl, hlo, hbl, c0, c1, c2, c3, c4⟩ := hcells k hkl
        rw [partsN_len] at hle'
        cases hle'
        subst hlo
        rw [hx] at c0 c1 c2 c3 c4
        simp only at c0 c1 c2 c3 c4
        obtain ⟨b, off, rfl, hb, hcx⟩ := HCC.out q hql
        clear hcells hat hx hn hcx hpg
        have hbwr : Below w.heap.size w wr := hb2.trans (hbw.mono hb2.size)
        have hgh := Has.new wr [Value.int .i32 r, .int .i64 q, .int .i64 n, .int .i64 kn, .bool bd] 32
        have hbW := hbwr.alloc hbwr.size (.cells [Value.int .i32 r, .int .i64 q, .int .i64 n, .int .i64 kn, .bool bd].toArray 32)
        have hbW2 := hbw.alloc hbw.size (.cells [Value.int .i32 r, .int .i64 q, .int .i64 n, .int .i64 kn, .bool bd].toArray 32)
        have d1 : decide ((n : Int) < 1) = false := decide_eq_false (by omega)
        have d2 : decide ((xs.length : Int) - q < n) = false := decide_eq_false (by omega)
        have d3 : decide (kn < (q : Int) + n) = false := decide_eq_false (by omega)
        have d4 : decide ((xs.length : Int) < kn) = false := decide_eq_false (by omega)
        obtain ⟨W, hW⟩ : ∃ W, W = wr.alloc (.cells [Value.int .i32 r, .int .i64 q, .int .i64 n, .int .i64 kn, .bool bd].toArray 32) := ⟨_, rfl⟩
        have hWs : W.heap.size = wr.heap.size + 1 := by rw [hW]; simp
        rw [← hW] at hgh hbW hbW2
        have E1 : wr.alloc (.cells #[Value.int .i32 r, .int .i64 q, .int .i64 n, .int .i64 kn, .bool bd] 32) = W := hW.symm
        have HE1 := Lib.hid E1
        have HPS := Lib.hid hps
        have HGOOD := Lib.hid hgood
        have HBAD := Lib.hid hbad
        have HGH := Lib.hid hgh
        clear hW E1 hps hgood hbad
        go_wp2_with fail
        rw [HE1.out]
        have k0 := HGH.out.cell 0 _ rfl
        have k2 := HGH.out.cell 2 _ rfl
        have k4 := HGH.out.cell 4 _ rfl
        clear c0 c1 c2 c3 c4 d1 d2 d3 d4 hgh
        cases bd with
        | true =>
          have hr0 : r = 65533 := HBAD.out rfl
          subst hr0
          have hfin : Below w2.heap.size w2 W := hbW2
          clear hbW hbW2 HGOOD HBAD
          go_quiet (fail)
          go_wp2
          go_roundw
          case rel => exact ⟨k + 1, q + n, HPS.out, by omega, by go_num, by go_num, below_undrew hfin⟩
          case measure => simp [intOf] <;> omega
        | false =>
          have hgd := HGOOD.out rfl
          have HGD := Lib.hid hgd
          have hbW3 : b < W.heap.size := by have := hbwr.size; omega
          have hct := held_cut (HV.out.below hbW) q n hbW3 hle (cap - q)
          obtain ⟨L, hL⟩ : ∃ L, L = (xs.drop q).take n := ⟨_, rfl⟩
          rw [← hL] at HGD hct
          have hct' : Held .u8 W.drew (.slice (some ⟨b, off + q, none⟩) n (cap - q)) L := hct
          have HCT := Lib.hid hct'
          have hgh' : Has W.drew wr.heap.size [Value.int .i32 r, .int .i64 q, .int .i64 n, .int .i64 kn, .bool false] 32 := HGH.out
          have HGH2 := Lib.hid hgh'
          have q0 : ¬ (cap = q) := by omega
          have q3 : ¬ (cap < q + n) := by omega
          have q4 : ¬ (q + n < q) := by omega
          have q5 : ¬ ((q : Int) + (n : Int) < q) := by omega
          have q6 : ¬ ((cap : Int) < (q : Int) + n) := by omega
          have q7 : (q : Int) + (n : Int) ≤ (cap : Int) := by omega
          have hwr : IntKind.i64.wrap ((q : Int) + (n : Int)) = (q : Int) + (n : Int) := by rw [IntKind.wrap_i64]; omega
          have q8 : (q : Int) ≤ (q : Int) + (n : Int) := by omega
          have q9 : (0 : Int) ≤ (q : Int) := by omega
          have q10 : (0 : Int) ≤ (q : Int) + (n : Int) := by omega
          have q11 : (q : Int) + (n : Int) - (q : Int) = (n : Int) := by omega
          have q12 : ((q : Int) + (n : Int) - (q : Int)).toNat = n := by omega
          have q13 : ((q : Int) + (n : Int)).toNat = q + n := by omega
          have q14 : ¬ ((cap : Int) = (q : Int)) := by omega
          have q15 : ¬ (cap - q = 0) := by omega
          have q16 : q ≤ cap := by omega
          have q17 : q + n ≤ cap := by omega
          have q18 : q + n - q = n := by omega
          have q19 : ¬ ((cap : Int) - (q : Int) = 0) := by omega
          have q20 : ((cap : Int) - (q : Int)).toNat = cap - q := by omega
          have q21 : ¬ (q = cap) := by omega
          have hlt9 : wr.heap.size < W.drew.heap.size := by show _ < W.heap.size; omega
          have hbd := b_drew hbW2
          clear hgd hct hct' hL hgh' hbW hbW2 HGOOD HBAD HGH
          first | (go_region_with (first
            | (go_at_call 25; refine (refform_any r _).mono ?_; rintro e w4 ⟨v4, rfl, h4, b4⟩; have k0 := (HGH2.out.below b4 hlt9).cell 0 _ rfl; have k2 := (HGH2.out.below b4 hlt9).cell 2 _ rfl; have k4 := (HGH2.out.below b4 hlt9).cell 4 _ rfl)
            | (go_at_call 24; refine (bytes_same _ _ L _ (HGD.out ▸ h4) (HCT.out.below b4)).mono ?_; rintro e w5 ⟨rfl, rfl⟩))) | (fail "region")
          all_goals
            have hb4 : Below w2.heap.size w2 w4 := hbd.trans (b4.mono (by have := hbw.size; show _ ≤ W.heap.size; omega))
            go_wp2
            go_roundw
            case rel => exact ⟨k + 1, q + n, HPS.out, by omega, by go_num, by go_num, hb4⟩
            case measure => simp [intOf] <;> omega
      · have hkK2 : k = K := by omega
        subst hkK2
        have hqe : q = xs.length := by rw [← hq]; exact HK.out
        subst hqe
        have hfin := hb2.trans (hbw.mono hb2.size)
        clear hq
        go_wp2
        go_ret
        exact ⟨(ret_eq (by first | rfl | (simp <;> omega))), hfin⟩
set_option maxRecDepth 100000 in
theorem walk {H : Type} {enc : TypeId × Value → H} (W : World) {base : Nat} (v : Value) {d : DataW H} {p : List MemPlace} (hv : Value.okWide Try.prog W .any base 22 v) (h : DataW.Trod enc Try.prog W 0 (fun _ => true) true 22 v d p) : Calls Try.prog 4 #[v] W (Yes W) := by
  obtain ⟨xs, hh, hcp, hw⟩ := heldc_arg Try.underlying22 Try.underlying5 (by kernel_rfl) hv h
  exact walkH W v xs hh hcp (in_bytes hw)

set_option maxRecDepth 100000 in
theorem lifted (os : Os) (started : os.Started) (H : Type) (enc : TypeId × Value → H) :
    ReturnsInHanded {} Try.checked os 4 .any (Rows.utfallCoversSpec.pre6 enc Try.prog Try.f4 Rows.utfallCoversRow.domain false) (Rows.utfallCoversSpec.post enc Try.prog Try.f4 false true false false) := by
  refine law_frame_plain (C := Try.checked) (tb := 4) (by kernel_rfl) started (by kernel_rfl) Try.func4 (by kernel_rfl) (by kernel_rfl) Try.underlying4 rfl
    (by rw [Try.params4]; intro t ht; simp at ht; subst ht <;> exact ⟨by kernel_rfl, of_decide_eq_true (by kernel_rfl)⟩)
    (by rw [Try.params4]; intro ds hd; match ds, hd with | [_], _ => rfl)
    (ChangeSpec.witness6 (enc := enc) (C := Try.checked) false ⟨#[], #[.slice none 0 0], []⟩ 8 (by kernel_rfl) (by kernel_rfl) (by kernel_rfl) (by kernel_rfl)) ?_
  intro W base args ds before hval hA
  rw [Try.params4] at hA hval
  obtain ⟨v0, vs0, d0, ds0, p0, q0, hargs, rfl, rfl, h0, r0⟩ := trodAll_cons hA
  obtain ⟨rfl, rfl, rfl⟩ := trodAll_nil r0
  obtain rfl : args = #[v0] := by cases args; simp_all

  exact walk W v0 (hval 0 22 v0 rfl rfl) h0

theorem proved : Rows.UtfallCoversSaid :=
  OpenClaim.holds_of_wide 4 Try.f4 rfl rfl rfl rfl rfl rfl rfl ⟨rfl, rfl, rfl, rfl, rfl⟩ rfl rfl rfl rfl rfl (by kernel_rfl) Try.func4 (by kernel_rfl)
    (of_decide_eq_true (by kernel_rfl)) (by unfold Func.isWrapper; first | (rw [if_pos (by decide +kernel)]; kernel_rfl) | (rw [if_neg (by decide +kernel)]; exact ⟨rfl, rfl⟩))
    (fun os started H enc _ => lifted os started H enc)
#print axioms proved

end Go.Proofs.Ytmfoldohmbaikaa.lawUtfallCovers
