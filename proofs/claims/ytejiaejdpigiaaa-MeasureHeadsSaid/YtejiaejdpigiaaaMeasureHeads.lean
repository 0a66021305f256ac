/- MeasureHeads (21.2) answers true at every text and width, and turns nothing. No condition. -/
import Derived.Test.YtejiaejdpigiaaaMeaI
import Derived.Test.YtejiaejdpigiaaaMg8
import Derived.Test.YtejiaejdpigiaaaMg2
import Derived.Test.YtejiaejdpigiaaaMg1
import Derived.Test.YtejiaejdpigiaaaRows
import Derived.ProofKit
namespace Go.Proofs.Ytejiaejdpigiaaa.lawMeasureHeads
open Go.ChangeShapes Go.WideShapes Go.ChangeAt Go.RowKit
set_option maxRecDepth 100000 in
set_option maxHeartbeats 1600000 in
theorem walkN (W : World) (v : Value) (xs : List Int) (Wd : Int) (hv : HeldE (intE .i32) (fun b => b < W.heap.size) W v xs) (hr : bounds32 xs) (hn : xs.length ≤ 60) (hW : Wd ≤ 9223372036854775807) : Calls Try.prog 7 #[v, .int .i64 Wd] W (Yes W) := by
  obtain ⟨ao, ca, rfl⟩ := hv.len
  have hd : decide ((60 : Int) < xs.length) = false := by rw [decide_eq_false_iff_not]; omega
  have hdn : decide (60 < xs.length) = false := by rw [decide_eq_false_iff_not]; omega
  have H1 := Lib.hid (show ∀ w', Below W.heap.size W w' → Calls Try.prog 30 #[.slice ao xs.length ca, .int .i64 Wd] w' (GivesHead xs Wd w') from fun w' b => mhead_any _ xs Wd w' (hv.ints.below b) (by omega) hW)
  have H2 := Lib.hid (show ∀ w', Below W.heap.size W w' → Calls Try.prog 31 #[.slice ao xs.length ca, .int .i64 Wd] w' (HeadGives xs Wd w') from fun w' b => rhead_any _ _ xs Wd w' (hv.below b) (by omega) hr)
  obtain ⟨n, hnn⟩ : ∃ n, n = xs.length := ⟨_, rfl⟩
  rw [← hnn] at H1 H2 hd hdn hn ⊢
  clear hv hr hnn
  go_enter Try.func7, Try.ntmps7
  go_wp2_with fail
  refine (works21_any _).mono ?_
  rintro e w1 ⟨rfl, b1⟩
  have B := Lib.hid b1
  clear b1
  have h1 := H1.out w1 B.out
  go_wp2_with fail
  refine h1.mono ?_
  clear h1 hd hdn
  rintro e w2 ⟨n1, u1, rfl, ho, b2⟩
  obtain ⟨rfl, rfl⟩ := head_one ho
  replace B := Lib.hid (B.out.trans (b2.mono B.out.size))
  clear b2
  clear ho
  have h2 := H2.out w2 B.out
  unfold HeadGives at h2
  obtain ⟨⟨p, q⟩, hpq⟩ : ∃ y, y = rbC xs Wd := ⟨_, rfl⟩
  rw [← hpq] at h2 ⊢
  clear hpq
  simp only at h2 ⊢
  go_wp2_with fail
  refine h2.mono ?_
  rintro e w3 ⟨rfl, b3⟩
  replace B := Lib.hid (B.out.trans (b3.mono B.out.size))
  clear b3
  clear h2
  have hp : (p == p) = true := by simp
  have hq : (q == q) = true := by simp
  go_wp2
  go_ret
  exact ⟨(ret_eq (by first | rfl | (simp <;> omega))), B.out⟩
set_option maxRecDepth 100000 in
theorem walk {H : Type} {enc : TypeId × Value → H} (W : World) (v : Value) {base : Nat} {d : DataW H} {p : List MemPlace} (hv : Value.okWide Try.prog W .any base 22 v) (h : DataW.Trod enc Try.prog W 0 (fun _ => true) true 22 v d p) (Wd : Int) (hw : (Lit.int .i64 Wd).wf = true) : Calls Try.prog 7 #[v, .int .i64 Wd] W (Yes W) := by
  obtain ⟨xs, hx, hr⟩ := runes_arg hv h
  by_cases hl : 60 < xs.length
  · obtain ⟨ao, ca, rfl⟩ := hx.len
    clear hv h hx hr
    go_enter Try.func7, Try.ntmps7
    go_wp2_with fail
    refine (works21_any _).mono ?_
    rintro e w1 ⟨rfl, b1⟩
    go_wp2_with fail
    refine (works21_any _).mono ?_
    rintro e w2 ⟨rfl, b2⟩
    have B := b1.trans (b2.mono b1.size)
    go_wp2
    go_ret
    exact ⟨(ret_eq (by first | rfl | (simp <;> omega))), B⟩
  · exact walkN W v xs Wd hx hr (by omega) (by simp [Lit.wf] at hw; exact hw.2)

set_option maxRecDepth 100000 in
theorem lifted (os : Os) (started : os.Started) (H : Type) (enc : TypeId × Value → H) :
    ReturnsInHanded {} Try.checked os 7 .any (Rows.measureHeadsSpec.pre6 enc Try.prog Try.f7 Rows.measureHeadsRow.domain false) (Rows.measureHeadsSpec.post enc Try.prog Try.f7 false true false false) := by
  refine law_frame_plain (C := Try.checked) (tb := 4) (by kernel_rfl) started (by kernel_rfl) Try.func7 (by kernel_rfl) (by kernel_rfl) Try.underlying4 rfl
    (by rw [Try.params7]; intro t ht; simp at ht; rcases ht with rfl | rfl <;> exact ⟨by kernel_rfl, of_decide_eq_true (by kernel_rfl)⟩)
    (by rw [Try.params7]; intro ds hd; match ds, hd with | [_, _], _ => rfl)
    (ChangeSpec.witness6 (enc := enc) (C := Try.checked) false ⟨#[], #[.slice none 0 0, .int .i64 0], []⟩ 8 (by kernel_rfl) (by kernel_rfl) (by kernel_rfl) (by kernel_rfl)) ?_
  intro W base args ds before hval hA
  rw [Try.params7] at hA hval
  obtain ⟨v0, vs0, d0, ds0, p0, q0, hargs, rfl, rfl, h0, r0⟩ := trodAll_cons hA
  obtain ⟨v1, vs1, d1, ds1, p1, q1, rfl, rfl, rfl, h1, r1⟩ := trodAll_cons r0
  obtain ⟨rfl, rfl, rfl⟩ := trodAll_nil r1
  obtain rfl : args = #[v0, v1] := by cases args; simp_all
  obtain ⟨x1, rfl, rfl, rfl, wx1⟩ := open_int Try.underlying3 (hval 1 3 v1 rfl rfl) h1
  exact walk W v0 (hval 0 22 v0 rfl rfl) h0 x1 wx1

theorem proved : Rows.MeasureHeadsSaid :=
  OpenClaim.holds_of_wide 7 Try.f7 rfl rfl rfl rfl rfl rfl rfl ⟨rfl, rfl, rfl, rfl, rfl⟩ rfl rfl rfl rfl rfl (by kernel_rfl) Try.func7 (by kernel_rfl)
    (of_decide_eq_true (by kernel_rfl)) (by unfold Func.isWrapper; first | (rw [if_pos (by decide +kernel)]; kernel_rfl) | (rw [if_neg (by decide +kernel)]; exact ⟨rfl, rfl⟩))
    (fun os started H enc _ => lifted os started H enc)
#print axioms proved

end Go.Proofs.Ytejiaejdpigiaaa.lawMeasureHeads
