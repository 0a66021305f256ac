/- ChunksCut (5.1) answers true at every row of bytes and every row of places, and turns nothing. No conditions. -/
import Derived.Test.YtgoeacmpphmnoaaChkR
import Derived.Test.YtgoeacmpphmnoaaUallV
import Derived.Test.YtgoeacmpphmnoaaFrame
import Derived.Test.YtgoeacmpphmnoaaGrow
import Derived.Test.YtgoeacmpphmnoaaRows
import Derived.ProofKit
namespace Go.Proofs.Ytgoeacmpphmnoaa.lawChunksCut
open Go.ChangeShapes Go.WideShapes Go.ChangeAt Go.RowKit
set_option maxRecDepth 100000 in
set_option maxHeartbeats 2000000 in
theorem walkH (w : World) (v u : Value) (b at_ : List Int) (hv : Held .u8 w v b) (hcp : CapOk v) (hu : Held .i64 w u at_) : Calls Try.prog 5 #[v, u] w (Yes w) := by
  obtain ⟨bo, bc, rfl, _⟩ := id hv.view
  obtain ⟨ao, ac, rfl, _⟩ := id hu.view
  have HV := Lib.hid hv
  have HC := Lib.hid hcp
  have HU := Lib.hid hu
  clear hv hcp hu
  by_cases hl : 200 < b.length
  · go_enter Try.func5, Try.ntmps5
    go_wp2_with fail
    refine (works5_any _).mono ?_
    rintro e w1 ⟨rfl, b1⟩
    go_wp2_with fail
    refine (works5_any _).mono ?_
    rintro e w2 ⟨rfl, b2⟩
    go_wp2
    go_ret
    exact ⟨(ret_eq (by first | rfl | (simp <;> omega))), b1.trans (b2.mono b1.size)⟩
  by_cases hl2 : 20 < at_.length
  · go_enter Try.func5, Try.ntmps5
    go_wp2_with fail
    refine (works5_any _).mono ?_
    rintro e w1 ⟨rfl, b1⟩
    go_wp2_with fail
    refine (works5_any _).mono ?_
    rintro e w2 ⟨rfl, b2⟩
    go_wp2
    go_ret
    exact ⟨(ret_eq (by first | rfl | (simp <;> omega))), b1.trans (b2.mono b1.size)⟩
  have hln := cutB_len b at_
  have hrf := ref_cut b at_
  obtain ⟨L, hL⟩ : ∃ L, L = cutB b at_ := ⟨_, rfl⟩
  rw [← hL] at hln hrf
  have HRF := Lib.hid hrf
  have HLE := Lib.hid hL
  have hl3 : L.length ≤ 1000000 := by omega
  clear hrf hL hln
  go_enter Try.func5, Try.ntmps5
  go_wp2_with fail
  refine (works5_any _).mono ?_
  rintro e w1 ⟨rfl, b1⟩
  go_wp2_with fail
  refine (cut_any _ _ b at_ _ (HV.out.below b1) HC.out (HU.out.below b1) (by omega) (by omega)).mono ?_
  rintro e w2 ⟨v2, n2, rfl, hob, b2⟩
  rw [← HLE.out] at hob
  have hb2 := b1.trans (b2.mono b1.size)
  have hh := ownB_held hob
  obtain ⟨lo, lc, rfl⟩ := hh.len
  have HH := Lib.hid hh
  clear hob b1 b2 hh
  go_wp2_with fail
  refine (rcut_any _ _ b at_ _ (HV.out.below hb2) (HU.out.below hb2) (by omega) (by omega)).mono ?_
  rintro e w3 ⟨v3, n3, rfl, hob, b3⟩
  rw [HRF.out] at hob
  have hb3 := hb2.trans (b3.mono hb2.size)
  have hm := ownB_held hob
  obtain ⟨mo, mc, rfl⟩ := hm.len
  have HM := Lib.hid hm
  have HH3 := Lib.hid (HH.out.below b3)
  clear hob b3 hm HH hb2
  go_wp2
  go_loopw [7] (fun iv wr => ∃ k : Nat, k ≤ L.length ∧ iv = .int .i64 k ∧ Below w3.heap.size w3 wr) (fun iv _ => L.length - (intOf iv).toNat)
  case atStart => exact ⟨0, Nat.zero_le _, rfl, Below.refl _ _⟩
  case round =>
    obtain ⟨k, hk, rfl, hbw⟩ := hrel
    by_cases hlt : k < L.length
    · obtain ⟨b1, o1, u1, rfl, hb1, c1, hu1⟩ := HH3.out.spots k hlt
      obtain ⟨b2, o2, u2, rfl, hb2, c2, hu2⟩ := HM.out.spots k hlt
      have c1 := (hbw.cell (p := ⟨b1, o1 + k, none⟩) hb1).trans c1
      have c2 := (hbw.cell (p := ⟨b2, o2 + k, none⟩) hb2).trans c2
      obtain ⟨T, hT⟩ : ∃ T, T = L.getD k [] := ⟨_, rfl⟩
      rw [← hT] at hu1 hu2
      have HBS := Lib.hid (fun (y : Nat) => bytes_same u1 u2 T (wr.drewN y) ((hu1.below hbw).below ((Below.refl wr.heap.size wr).drewN y)) ((hu2.below hbw).below ((Below.refl wr.heap.size wr).drewN y)))
      clear hT hu1 hu2
      go_wp2_with fail
      go_quiet (first | (go_at_call 28; exact callq (HBS.out _)))
      go_wp2
      go_roundw
      case rel => exact ⟨k + 1, by omega, by go_num, hbw.drewN _⟩
      case measure => simp [intOf] <;> omega
    · obtain rfl : k = L.length := by omega
      have hfin := hb3.trans (hbw.mono hb3.size)
      go_wp2
      go_ret
      exact ⟨(ret_eq (by first | rfl | (simp <;> omega))), hfin⟩
set_option maxRecDepth 100000 in
theorem walk {H : Type} {enc : TypeId × Value → H} (W : World) {base : Nat} (v : Value) {d : DataW H} {p : List MemPlace} (hv : Value.okWide Try.prog W .any base 22 v) (h : DataW.Trod enc Try.prog W 0 (fun _ => true) true 22 v d p)
    (u : Value) (at_ : List Int) (hu : Held .i64 W u at_) (wu : ∀ n ∈ at_, (Lit.int .i64 n).wf = true) : Calls Try.prog 5 #[v, u] W (Yes W) := by
  obtain ⟨xs, hh, hcp, _⟩ := heldc_arg Try.underlying22 Try.underlying5 (by kernel_rfl) hv h
  exact walkH W v u xs at_ hh hcp hu

set_option maxRecDepth 100000 in
theorem lifted (os : Os) (started : os.Started) (H : Type) (enc : TypeId × Value → H) :
    ReturnsInHanded {} Try.checked os 5 .any (Rows.chunksCutSpec.pre6 enc Try.prog Try.f5 Rows.chunksCutRow.domain false) (Rows.chunksCutSpec.post enc Try.prog Try.f5 false true false false) := by
  refine law_frame_plain (C := Try.checked) (tb := 4) (by kernel_rfl) started (by kernel_rfl) Try.func5 (by kernel_rfl) (by kernel_rfl) Try.underlying4 rfl
    (by rw [Try.params5]; intro t ht; simp at ht; rcases ht with rfl | rfl <;> exact ⟨by kernel_rfl, of_decide_eq_true (by kernel_rfl)⟩)
    (by rw [Try.params5]; intro ds hd; match ds, hd with | [_, _], _ => rfl)
    (ChangeSpec.witness6 (enc := enc) (C := Try.checked) false ⟨#[], #[.slice none 0 0, .slice none 0 0], []⟩ 8 (by kernel_rfl) (by kernel_rfl) (by kernel_rfl) (by kernel_rfl)) ?_
  intro W base args ds before hval hA
  rw [Try.params5] at hA hval
  obtain ⟨v0, vs0, d0, ds0, p0, q0, hargs, rfl, rfl, h0, r0⟩ := trodAll_cons hA
  obtain ⟨v1, vs1, d1, ds1, p1, q1, rfl, rfl, rfl, h1, r1⟩ := trodAll_cons r0
  obtain ⟨rfl, rfl, rfl⟩ := trodAll_nil r1
  obtain rfl : args = #[v0, v1] := by cases args; simp_all
  obtain ⟨x1, hx1, wx1⟩ := held_arg Try.underlying43 Try.underlying3 (by kernel_rfl) (hval 1 43 v1 rfl rfl) h1
  exact walk W v0 (hval 0 22 v0 rfl rfl) h0 v1 x1 hx1 wx1

theorem proved : Rows.ChunksCutSaid :=
  OpenClaim.holds_of_wide 5 Try.f5 rfl rfl rfl rfl rfl rfl rfl ⟨rfl, rfl, rfl, rfl, rfl⟩ rfl rfl rfl rfl rfl (by kernel_rfl) Try.func5 (by kernel_rfl)
    (of_decide_eq_true (by kernel_rfl)) (by unfold Func.isWrapper; first | (rw [if_pos (by decide +kernel)]; kernel_rfl) | (rw [if_neg (by decide +kernel)]; exact ⟨rfl, rfl⟩))
    (fun os started H enc _ => lifted os started H enc)
#print axioms proved

end Go.Proofs.Ytgoeacmpphmnoaa.lawChunksCut
