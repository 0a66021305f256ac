/- JustifyWide (58.3) answers true at every text and width, and turns nothing. No condition. -/
import Derived.Test.YtgkcobmbdpgceaaJusW
import Derived.Test.YtgkcobmbdpgceaaMg7
import Derived.Test.YtgkcobmbdpgceaaMg2
import Derived.Test.YtgkcobmbdpgceaaMg1
import Derived.Test.YtgkcobmbdpgceaaRows
import Derived.ProofKit
import Derived.Lib.MinMax
namespace Go.Proofs.Ytgkcobmbdpgceaa.lawJustifyWide
open Go.ChangeShapes Go.WideShapes Go.ChangeAt Go.RowKit
theorem rb_at (xs : List Int) (W : Int) (hW : 0 ≤ W) : ∀ i, i ≤ (clS xs).length + 1 → ∃ k, k ≤ (clS xs).length ∧ (rb xs W i).1 = (endC xs k : Int) ∧ cumW xs k ≤ W
  | 0, _ => ⟨0, Nat.zero_le _, by rw [endC_zero]; rfl, by rw [cumW_zero]; exact hW⟩
  | i + 1, hi => by
    rw [show rb xs W (i + 1) = if cumW xs i ≤ W then ((endC xs i : Int), cumW xs i) else rb xs W i from rfl]
    by_cases h : cumW xs i ≤ W
    · rw [if_pos h]
      exact ⟨i, by omega, rfl, h⟩
    · rw [if_neg h]
      exact rb_at xs W hW i (by omega)
theorem cut_cols (W : Int) (xs : List Int) : colsC (cutC W xs) ≤ wc W := by
  have h0 := wc_bd W
  obtain ⟨k, h1, h2, h3⟩ := rb_at xs (wc W) h0.1 _ (Nat.le_refl _)
  unfold cutC rbC
  rw [if_neg (by omega), h2, Int.toNat_natCast, cols_take xs k h1]
  exact h3
theorem take_len_take (xs : List Int) (n : Nat) : xs.take (xs.take n).length = xs.take n := by
  rw [List.length_take]
  by_cases h : n ≤ xs.length
  · rw [Nat.min_eq_left h]
  · rw [Nat.min_eq_right (by omega), List.take_length, List.take_of_length_le (by omega)]
set_option maxRecDepth 100000 in
set_option maxHeartbeats 1600000 in
theorem walkN (W : World) (v : Value) (xs : List Int) (Wd : Int) (hv : HeldE (intE .i32) (fun b => b < W.heap.size) W v xs) (hn : xs.length ≤ 500) : Calls Try.prog 10 #[v, .int .i64 Wd] W (Yes W) := by
  obtain ⟨ao, ca, rfl, hcap, hmx, hnil, _⟩ := id hv
  have hd : decide ((500 : Int) < xs.length) = false := by rw [decide_eq_false_iff_not]; omega
  have hdn : decide (500 < xs.length) = false := by rw [decide_eq_false_iff_not]; omega
  have H1 := Lib.hid (show ∀ w', Below W.heap.size W w' → Calls Try.prog 41 #[.slice ao xs.length ca, .int .i64 Wd] w' (Cloned 21 .i32 w' (cutC Wd xs)) from fun w' b => jcut_any _ _ xs Wd w' (hv.below b) (by omega))
  have HV := Lib.hid hv
  have HNIL := Lib.hid hnil
  have HMX := Lib.hid hmx
  have hcl := cut_len Wd xs
  have hcc := cut_cols Wd xs
  have hct := take_len_take xs (rbC xs (wc Wd)).1.toNat
  rw [show xs.take (rbC xs (wc Wd)).1.toNat = cutC Wd xs from rfl] at hct
  have HN0 := Lib.hid hn
  obtain ⟨n, hnn⟩ : ∃ n, n = xs.length := ⟨_, rfl⟩
  have HN := Lib.hid hnn
  rw [← hnn] at H1 HV hd hdn hn hcl hcap ⊢
  obtain ⟨CU, hCU⟩ : ∃ CU, CU = cutC Wd xs := ⟨_, rfl⟩
  rw [← hCU] at H1 hcl hcc hct
  have HCT := Lib.hid hct
  obtain ⟨cc, hcc9⟩ : ∃ cc, cc = colsC CU := ⟨_, rfl⟩
  rw [← hcc9] at hcc
  have HCC := Lib.hid hcc9
  have hg1 : decide (cc ≤ max 0 (min Wd 1024)) = true := by rw [decide_eq_true_eq]; unfold wc at hcc; omega
  have HCL := Lib.hid hcl
  clear hv hnn hCU hcc9 hcc hct hnil hmx hcl
  go_enter Try.func10, Try.ntmps10
  go_wp2_with fail
  refine (works58_any _).mono ?_
  rintro e w1 ⟨rfl, b1⟩
  have B := Lib.hid b1
  clear b1
  have h1 := H1.out w1 B.out
  go_wp2_with fail
  refine h1.mono ?_
  clear h1 hd hdn
  rintro e w2 ⟨v2, rfl, ho2, b2⟩
  have B2 := Lib.hid (B.out.trans (b2.mono B.out.size))
  have hh2 := held_of_owns ho2
  obtain ⟨a2, c2, rfl⟩ := hh2.len
  have h3 := mcols_any (.slice a2 CU.length c2) CU w2 hh2 (by have := HCL.out; omega)
  rw [← HCC.out] at h3
  have HH2 := Lib.hid hh2
  obtain ⟨cl, hcl⟩ : ∃ cl, cl = CU.length := ⟨_, rfl⟩
  rw [← hcl] at h3 HH2 HCT HCL ⊢
  have HCLE := Lib.hid hcl
  have hli : (cl : Int) ≤ n := by have := HCL.out; omega
  have hg2 : decide ((cl : Int) ≤ n) = true := by rw [decide_eq_true_eq]; exact hli
  have hkc : cl ≤ ca := by have := HCL.out; omega
  have hkci : (cl : Int) ≤ ca := by omega
  clear ho2 b2 hh2 hcl B
  go_wp2_with fail
  refine h3.mono ?_
  clear h3
  rintro e w3 ⟨rfl, b3⟩
  have B3 := Lib.hid (B2.out.trans (b3.mono B2.out.size))
  have key : ∀ a' : Option Addr, a' = ao → Calls Try.prog 27 #[.slice a2 cl c2, .slice a' cl ca] w3 (Gives w3 (.bool true)) := by
    intro a' e
    subst e
    have hp := (HV.out.below B3.out).part 0 cl (Nat.zero_le _) (by rw [← HN.out]; exact HCL.out) a' ca (fun h => ⟨h, (HNIL.out h).2⟩) (fun b' o' h _ => by rw [h]; simp) (fun a h => by rw [h]; simp) (by omega) HMX.out
    rw [List.drop_zero, Nat.sub_zero, HCT.out] at hp
    have h9 := same_any (.slice a2 cl c2) (.slice a' cl ca) CU CU w3 (HH2.out.below b3) hp.ints (by have := HCL.out; have := HCLE.out; omega)
    rw [sameB_self] at h9
    exact h9
  have HKEY := Lib.hid key
  clear key b3
  cases hao : ao with
  | none =>
    subst hao
    have hca := (HNIL.out rfl)
    have hn0 : n = 0 := by rw [HN.out, hca.1]; rfl
    have hk0 : cl = 0 := by have := HCL.out; omega
    have hc0 : ca = 0 := hca.2
    subst hk0 hc0
    have h9 := HKEY.out none rfl
    clear hca hn0
    go_wp2_with fail
    refine h9.mono ?_
    clear h9
    rintro e w4 ⟨rfl, b4⟩
    have HF := Lib.hid (B3.out.trans (b4.mono B3.out.size))
    clear b4
    go_wp2
    go_ret
    exact ⟨(ret_eq (by first | rfl | (simp <;> omega))), HF.out⟩
  | some a =>
    subst hao
    have h9 := HKEY.out (some a) rfl
    go_wp2_with fail
    refine h9.mono ?_
    clear h9
    rintro e w4 ⟨rfl, b4⟩
    have HF := Lib.hid (B3.out.trans (b4.mono B3.out.size))
    clear b4
    go_wp2
    go_ret
    exact ⟨(ret_eq (by first | rfl | (simp <;> omega))), HF.out⟩
set_option maxRecDepth 100000 in
theorem walk {H : Type} {enc : TypeId × Value → H} (W : World) (v : Value) {base : Nat} {d : DataW H} {p : List MemPlace} (hv : Value.okWide Try.prog W .any base 22 v) (h : DataW.Trod enc Try.prog W 0 (fun _ => true) true 22 v d p) (Wd : Int) (hw : (Lit.int .i64 Wd).wf = true) : Calls Try.prog 10 #[v, .int .i64 Wd] W (Yes W) := by
  obtain ⟨xs, hx, hr⟩ := runes_arg hv h
  by_cases hl : 500 < xs.length
  · obtain ⟨ao, ca, rfl⟩ := hx.len
    clear hv h hx hr
    go_enter Try.func10, Try.ntmps10
    go_wp2_with fail
    refine (works58_any _).mono ?_
    rintro e w1 ⟨rfl, b1⟩
    go_wp2_with fail
    refine (works58_any _).mono ?_
    rintro e w2 ⟨rfl, b2⟩
    have B := b1.trans (b2.mono b1.size)
    go_wp2
    go_ret
    exact ⟨(ret_eq (by first | rfl | (simp <;> omega))), B⟩
  · exact walkN W v xs Wd hx (by omega)

set_option maxRecDepth 100000 in
theorem lifted (os : Os) (started : os.Started) (H : Type) (enc : TypeId × Value → H) :
    ReturnsInHanded {} Try.checked os 10 .any (Rows.justifyWideSpec.pre6 enc Try.prog Try.f10 Rows.justifyWideRow.domain false) (Rows.justifyWideSpec.post enc Try.prog Try.f10 false true false false) := by
  refine law_frame_plain (C := Try.checked) (tb := 4) (by kernel_rfl) started (by kernel_rfl) Try.func10 (by kernel_rfl) (by kernel_rfl) Try.underlying4 rfl
    (by rw [Try.params10]; intro t ht; simp at ht; rcases ht with rfl | rfl <;> exact ⟨by kernel_rfl, of_decide_eq_true (by kernel_rfl)⟩)
    (by rw [Try.params10]; intro ds hd; match ds, hd with | [_, _], _ => rfl)
    (ChangeSpec.witness6 (enc := enc) (C := Try.checked) false ⟨#[], #[.slice none 0 0, .int .i64 0], []⟩ 8 (by kernel_rfl) (by kernel_rfl) (by kernel_rfl) (by kernel_rfl)) ?_
  intro W base args ds before hval hA
  rw [Try.params10] at hA hval
  obtain ⟨v0, vs0, d0, ds0, p0, q0, hargs, rfl, rfl, h0, r0⟩ := trodAll_cons hA
  obtain ⟨v1, vs1, d1, ds1, p1, q1, rfl, rfl, rfl, h1, r1⟩ := trodAll_cons r0
  obtain ⟨rfl, rfl, rfl⟩ := trodAll_nil r1
  obtain rfl : args = #[v0, v1] := by cases args; simp_all
  obtain ⟨x1, rfl, rfl, rfl, wx1⟩ := open_int Try.underlying3 (hval 1 3 v1 rfl rfl) h1
  exact walk W v0 (hval 0 22 v0 rfl rfl) h0 x1 wx1

theorem proved : Rows.JustifyWideSaid :=
  OpenClaim.holds_of_wide 10 Try.f10 rfl rfl rfl rfl rfl rfl rfl ⟨rfl, rfl, rfl, rfl, rfl⟩ rfl rfl rfl rfl rfl (by kernel_rfl) Try.func10 (by kernel_rfl)
    (of_decide_eq_true (by kernel_rfl)) (by unfold Func.isWrapper; first | (rw [if_pos (by decide +kernel)]; kernel_rfl) | (rw [if_neg (by decide +kernel)]; exact ⟨rfl, rfl⟩))
    (fun os started H enc _ => lifted os started H enc)
#print axioms proved

end Go.Proofs.Ytgkcobmbdpgceaa.lawJustifyWide
