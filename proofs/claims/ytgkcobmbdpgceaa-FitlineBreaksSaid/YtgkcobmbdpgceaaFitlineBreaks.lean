/- FitlineBreaks (22.1) answers true at every text and width, and turns nothing. No condition. -/
import Derived.Test.YtgkcobmbdpgceaaMg8
import Derived.Test.YtgkcobmbdpgceaaFlnR
import Derived.Test.YtgkcobmbdpgceaaGraS
import Derived.Test.YtgkcobmbdpgceaaMg7
import Derived.Test.YtgkcobmbdpgceaaMg2
import Derived.Test.YtgkcobmbdpgceaaMg1
import Derived.Test.YtgkcobmbdpgceaaRows
import Derived.ProofKit
namespace Go.Proofs.Ytgkcobmbdpgceaa.lawFitlineBreaks
open Go.ChangeShapes Go.WideShapes Go.ChangeAt Go.RowKit
set_option maxRecDepth 100000 in
set_option maxHeartbeats 1600000 in
theorem walkN (W : World) (v : Value) (xs : List Int) (Wd : Int) (hv : HeldE (intE .i32) (fun b => b < W.heap.size) W v xs) (hr : bounds32 xs) (hn : xs.length ≤ 300) : Calls Try.prog 6 #[v, .int .i64 Wd] W (Yes W) := by
  obtain ⟨ao, ca, rfl⟩ := hv.len
  have hd : decide ((300 : Int) < xs.length) = false := by rw [decide_eq_false_iff_not]; omega
  have hdn : decide (300 < xs.length) = false := by rw [decide_eq_false_iff_not]; omega
  have H1 := Lib.hid (show ∀ w', Below W.heap.size W w' → Calls Try.prog 22 #[.slice ao xs.length ca, .int .i64 Wd] w' (MadeRow w' (linesC Wd xs)) from fun w' b => flines_any _ xs Wd w' (hv.ints.below b) (by omega))
  have H2 := Lib.hid (show ∀ w', Below W.heap.size W w' → Calls Try.prog 23 #[.slice ao xs.length ca, .int .i64 Wd] w' (MadeRow w' (linesC Wd xs)) from fun w' b => rlines_any _ _ xs Wd w' (hv.below b) (by omega) hr)
  have H3 := Lib.hid (show ∀ w', Below W.heap.size W w' → Calls Try.prog 25 #[.slice ao xs.length ca, .int .i64 Wd] w' (Gives w' (.int .i64 ((linesC Wd xs).length : Int))) from fun w' b => fcount_any _ xs Wd w' (hv.ints.below b) (by omega))
  obtain ⟨n, hnn⟩ : ∃ n, n = xs.length := ⟨_, rfl⟩
  rw [← hnn] at H1 H2 H3 hd hdn hn ⊢
  obtain ⟨L, hL⟩ : ∃ L, L = linesC Wd xs := ⟨_, rfl⟩
  rw [← hL] at H1 H2 H3
  clear hv hr hnn hL
  go_enter Try.func6, Try.ntmps6
  go_wp2_with fail
  refine (works22_any _).mono ?_
  rintro e w1 ⟨rfl, b1⟩
  have B := Lib.hid b1
  clear b1
  have h1 := H1.out w1 B.out
  go_wp2_with fail
  refine h1.mono ?_
  clear h1 hd hdn
  rintro e w2 ⟨v2, rfl, ho2, b2⟩
  have O2 := Lib.hid ho2
  have B2 := Lib.hid (B.out.trans (b2.mono B.out.size))
  clear ho2 b2 B
  have h2 := H2.out w2 B2.out
  go_wp2_with fail
  refine h2.mono ?_
  clear h2
  rintro e w3 ⟨v3, rfl, ho3, b3⟩
  have h4 := rsame16_self _ _ v2 v3 L w3 ((O2.out.below b3).held (fun b h _ => h)) (ho3.held (fun b h _ => h))
  have B3 := Lib.hid (B2.out.trans (b3.mono B2.out.size))
  obtain ⟨a2, c2, e2⟩ := (O2.out.held (fun b h _ => h)).len
  obtain ⟨a3, c3, e3⟩ := (ho3.held (fun b h _ => h)).len
  rw [e2] at h4 ⊢
  rw [e3] at h4 ⊢
  clear e2 e3 ho3 b3 O2 B2
  obtain ⟨m, hm⟩ : ∃ m, m = L.length := ⟨_, rfl⟩
  rw [← hm] at H3 h4 ⊢
  have hmm : ((m : Int) == (m : Int)) = true := by simp
  clear hm
  go_wp2_with fail
  refine h4.mono ?_
  clear h4
  rintro e w4 ⟨rfl, b4⟩
  have B4 := Lib.hid (B3.out.trans (b4.mono B3.out.size))
  clear b4 B3
  have h5 := H3.out w4 B4.out
  go_wp2_with fail
  refine h5.mono ?_
  clear h5
  rintro e w5 ⟨rfl, b5⟩
  have B5 := Lib.hid (B4.out.trans (b5.mono B4.out.size))
  clear b5 B4
  go_wp2
  go_ret
  exact ⟨(ret_eq (by first | rfl | (simp <;> omega))), B5.out⟩
set_option maxRecDepth 100000 in
theorem walk {H : Type} {enc : TypeId × Value → H} (W : World) (v : Value) {base : Nat} {d : DataW H} {p : List MemPlace} (hv : Value.okWide Try.prog W .any base 22 v) (h : DataW.Trod enc Try.prog W 0 (fun _ => true) true 22 v d p) (Wd : Int) (hw : (Lit.int .i64 Wd).wf = true) : Calls Try.prog 6 #[v, .int .i64 Wd] W (Yes W) := by
  obtain ⟨xs, hx, hr⟩ := runes_arg hv h
  by_cases hl : 300 < xs.length
  · obtain ⟨ao, ca, rfl⟩ := hx.len
    clear hv h hx hr
    go_enter Try.func6, Try.ntmps6
    go_wp2_with fail
    refine (works22_any _).mono ?_
    rintro e w1 ⟨rfl, b1⟩
    go_wp2_with fail
    refine (works22_any _).mono ?_
    rintro e w2 ⟨rfl, b2⟩
    have B := b1.trans (b2.mono b1.size)
    go_wp2
    go_ret
    exact ⟨(ret_eq (by first | rfl | (simp <;> omega))), B⟩
  · exact walkN W v xs Wd hx hr (by omega)

set_option maxRecDepth 100000 in
theorem lifted (os : Os) (started : os.Started) (H : Type) (enc : TypeId × Value → H) :
    ReturnsInHanded {} Try.checked os 6 .any (Rows.fitlineBreaksSpec.pre6 enc Try.prog Try.f6 Rows.fitlineBreaksRow.domain false) (Rows.fitlineBreaksSpec.post enc Try.prog Try.f6 false true false false) := by
  refine law_frame_plain (C := Try.checked) (tb := 4) (by kernel_rfl) started (by kernel_rfl) Try.func6 (by kernel_rfl) (by kernel_rfl) Try.underlying4 rfl
    (by rw [Try.params6]; intro t ht; simp at ht; rcases ht with rfl | rfl <;> exact ⟨by kernel_rfl, of_decide_eq_true (by kernel_rfl)⟩)
    (by rw [Try.params6]; intro ds hd; match ds, hd with | [_, _], _ => rfl)
    (ChangeSpec.witness6 (enc := enc) (C := Try.checked) false ⟨#[], #[.slice none 0 0, .int .i64 0], []⟩ 8 (by kernel_rfl) (by kernel_rfl) (by kernel_rfl) (by kernel_rfl)) ?_
  intro W base args ds before hval hA
  rw [Try.params6] at hA hval
  obtain ⟨v0, vs0, d0, ds0, p0, q0, hargs, rfl, rfl, h0, r0⟩ := trodAll_cons hA
  obtain ⟨v1, vs1, d1, ds1, p1, q1, rfl, rfl, rfl, h1, r1⟩ := trodAll_cons r0
  obtain ⟨rfl, rfl, rfl⟩ := trodAll_nil r1
  obtain rfl : args = #[v0, v1] := by cases args; simp_all
  obtain ⟨x1, rfl, rfl, rfl, wx1⟩ := open_int Try.underlying3 (hval 1 3 v1 rfl rfl) h1
  exact walk W v0 (hval 0 22 v0 rfl rfl) h0 x1 wx1

theorem proved : Rows.FitlineBreaksSaid :=
  OpenClaim.holds_of_wide 6 Try.f6 rfl rfl rfl rfl rfl rfl rfl ⟨rfl, rfl, rfl, rfl, rfl⟩ rfl rfl rfl rfl rfl (by kernel_rfl) Try.func6 (by kernel_rfl)
    (of_decide_eq_true (by kernel_rfl)) (by unfold Func.isWrapper; first | (rw [if_pos (by decide +kernel)]; kernel_rfl) | (rw [if_neg (by decide +kernel)]; exact ⟨rfl, rfl⟩))
    (fun os started H enc _ => lifted os started H enc)
#print axioms proved

end Go.Proofs.Ytgkcobmbdpgceaa.lawFitlineBreaks
