/- BorderGoes (17.3) answers true at every row of numbers, and turns nothing. No conditions. -/
import Derived.Test.YtbchdpgcjiepfaaBordW
import Derived.Test.YtbchdpgcjiepfaaFrame
import Derived.Test.YtbchdpgcjiepfaaRows
import Derived.ProofKit
namespace Go.Proofs.Ytbchdpgcjiepfaa.lawBorderGoes
open Go.ChangeShapes Go.WideShapes Go.ChangeAt Go.RowKit
theorem least (P : Nat → Bool) (n : Nat) (h : P n = true) : ∃ b, b ≤ n ∧ P b = true ∧ ∀ k, k < b → P k = false := by
  induction n using Nat.strongRecOn with
  | _ n ih =>
    by_cases hex : ∃ k, k < n ∧ P k = true
    · obtain ⟨k, hk, hP⟩ := hex
      obtain ⟨b, hb, h1, h2⟩ := ih k hk hP
      exact ⟨b, by omega, h1, h2⟩
    · refine ⟨n, Nat.le_refl _, h, fun k hk => ?_⟩
      cases hP : P k with
      | false => rfl
      | true => exact absurd ⟨k, hk, hP⟩ hex
theorem next_prev {xs : List Int} {a : Nat} (ha : a < xs.length) (hB : bB xs a = true) : ∃ b, nextTo xs (a : Int) = b ∧ a < b ∧ b ≤ xs.length ∧ bB xs b = true ∧ prevTo xs (b : Int) = a ∧ isAt xs (b : Int) = true := by
  obtain ⟨b, hb, hP, hl⟩ := least (fun k => decide (a < k) && bB xs k) xs.length (by simp [ha, bB_last])
  simp only [Bool.and_eq_true, decide_eq_true_eq] at hP
  refine ⟨b, ?_, hP.1, hb, hP.2, ?_, by rw [isAt_nat hb]; exact hP.2⟩
  · refine up_unique _ _ _ _ hb ?_ (.inr ⟨?_, hP.2⟩) _ (by omega) (Nat.le_refl _)
    · intro k hk hBk
      have := hl k hk
      rw [hBk] at this
      simp at this ⊢
      omega
    · simp; omega
  · refine down_unique _ _ _ (.inr ⟨?_, hB⟩) _ (by omega) ?_
    · simp; omega
    · intro k hk hkn hBk
      by_cases hkb : k < b
      · have := hl k hkb
        rw [hBk] at this
        simp at this
        omega
      · simp; omega
set_option maxRecDepth 100000 in
set_option maxHeartbeats 1000000 in
theorem walk (w : World) (v : Value) (xs : List Int) (hv : Held .i32 w v xs) (_hp : ∀ x ∈ xs, (Lit.int .i32 x).wf = true) : Calls Try.prog 4 #[v] w (Yes w) := by
  obtain ⟨ao, ca, rfl, _⟩ := hv.view
  have HV := Lib.hid hv
  clear hv _hp
  by_cases hl : 100 < xs.length
  · go_enter Try.func4, Try.ntmps4
    go_wp2_with fail
    refine (works17_any _).mono ?_
    rintro e w1 ⟨rfl, b1⟩
    go_wp2_with fail
    refine (works17_any _).mono ?_
    rintro e w2 ⟨rfl, b2⟩
    have b2 := b1.trans (b2.mono b1.size)
    go_wp2
    go_ret
    exact ⟨(ret_eq (by first | rfl | (simp <;> omega))), b2⟩
  have hn : xs.length ≤ 1000000 := by omega
  go_enter Try.func4, Try.ntmps4
  go_wp2_with fail
  refine (works17_any _).mono ?_
  rintro e w1 ⟨rfl, b1⟩
  go_wp2
  go_loopw [3, 4, 5] (fun p av nv wr => ∃ (a n : Nat) (l : List Int), a ≤ xs.length ∧ n ≤ a ∧ (n = 0 → a = 0) ∧ av = .int .i64 a ∧ nv = .int .i64 n ∧ Go.RowKit.Hid (bB xs a = true) ∧ wr.ownsRow w.heap.size 3 1 p n (l.map (Value.int .i64)) ∧ Below w.heap.size w wr) (fun _ av _ _ => xs.length - (intOf av).toNat)
  case atStart => exact ⟨0, 0, [], Nat.zero_le _, Nat.le_refl _, fun _ => rfl, rfl, rfl, Lib.hid (by rw [← isAt_nat (Nat.zero_le _)]; exact isAt_zero xs), World.ownsRow_nil _ _ _ _, b1⟩
  case round =>
    obtain ⟨a, n, l, ha, hna, hn0, rfl, rfl, HB, hown, hbw⟩ := hrel
    have d0 : decide ((n : Int) ≤ (xs.length : Int)) = true := by simp; omega
    by_cases hlt : a < xs.length
    · have d1 : decide ((a : Int) < (xs.length : Int)) = true := by simp; omega
      obtain ⟨b, h1, h2, h3, h4, h5, h6⟩ := next_prev hlt HB.out
      have HN := Lib.hid (fun w hx => next_val xs (.slice ao xs.length ca) (a : Int) b h1 w hx hn)
      have HP := Lib.hid (fun w hx => prev_val xs (.slice ao xs.length ca) (b : Int) a h5 w hx hn)
      have HI := Lib.hid (fun w hx => is_val xs (.slice ao xs.length ca) (b : Int) true h6 w hx hn)
      have HB2 := Lib.hid h4
      clear h1 h4 h5 h6 HB
      go_wp2_with (at_builtin; refine wpList_append_new wr rfl (.tmp 27) (.tmp 29) 28 rfl w.heap.size 3 (.int .i64 0) 8 Try.underlying28 info_int rfl u3 n (l.map (Value.int .i64)) rfl hown [.int .i64 (a : Int)] 1 1 rfl rfl (by intro u hu; simp at hu; rcases hu with rfl <;> rfl) (by omega) (by omega) hbw.size ?_)
      intro v' w2 hown' hb'
      have HO := Lib.hid (show w2.ownsRow w.heap.size 3 1 v' (n + 1) ((l ++ [(a : Int)]).map (Value.int .i64)) by rw [List.map_append]; exact hown')
      have hb2 := hbw.trans hb'
      clear hown hown' hb'
      have e1 : decide ((b : Int) ≤ (a : Int)) = false := by simp; omega
      have e2 : decide ((xs.length : Int) < (b : Int)) = false := by simp; omega
      go_wp2_with fail
      refine (HN.out _ (HV.out.below hb2)).mono ?_
      rintro e w3 ⟨rfl, bq⟩
      have b3 := hb2.trans (bq.mono hb2.size)
      go_wp2_with fail
      refine (HP.out _ (HV.out.below b3)).mono ?_
      rintro e w4 ⟨rfl, b4⟩
      have HO4 := Lib.hid (ownsRow_below (ownsRow_below HO.out bq) b4)
      have b4 := b3.trans (b4.mono b3.size)
      go_wp2_with fail
      refine (HI.out _ (HV.out.below b4)).mono ?_
      rintro e w5 ⟨rfl, b5⟩
      have HO5 := Lib.hid (ownsRow_below HO4.out b5)
      have b5 := b4.trans (b5.mono b4.size)
      go_wp2
      go_roundw
      case rel => exact ⟨b, n + 1, l ++ [(a : Int)], h3, by omega, by omega, rfl, by go_num, HB2, HO5.out, b5⟩
      case measure => simp [intOf] <;> omega
    · obtain rfl : a = xs.length := by omega
      have hn1 : n = 0 ∧ xs.length = 0 ∨ 0 < n ∧ 0 < xs.length := by omega
      have hsh : ∃ po pc, u3 = .slice po n pc := by
        rcases hown.2 with ⟨rfl, rfl⟩ | ⟨g, cap, cur, rfl, _⟩
        · exact ⟨_, _, rfl⟩
        · exact ⟨_, _, rfl⟩
      obtain ⟨po, pc, rfl⟩ := hsh
      clear hown
      rcases hn1 with ⟨h1, h2⟩ | ⟨h1, h2⟩
      · have d2 : ((xs.length : Int) == 0) = true := beq_iff_eq.2 (by omega)
        go_wp2
        all_goals
          go_ret
          exact ⟨(ret_eq (by first | rfl | (simp <;> omega))), hbw⟩
      · have d2 : ((xs.length : Int) == 0) = false := beq_eq_false_iff_ne.2 (by omega)
        have d3 : decide ((0 : Int) < (n : Int)) = true := decide_eq_true (by omega)
        go_wp2
        all_goals
          go_ret
          exact ⟨(ret_eq (by first | rfl | (simp <;> omega))), hbw⟩

set_option maxRecDepth 100000 in
theorem lifted (os : Os) (started : os.Started) (H : Type) (enc : TypeId × Value → H) :
    ReturnsInHanded {} Try.checked os 4 .any (Rows.borderGoesSpec.pre6 enc Try.prog Try.f4 Rows.borderGoesRow.domain false) (Rows.borderGoesSpec.post enc Try.prog Try.f4 false true false false) := by
  refine law_frame_plain (C := Try.checked) (tb := 4) (by kernel_rfl) started (by kernel_rfl) Try.func4 (by kernel_rfl) (by kernel_rfl) Try.underlying4 rfl
    (by rw [Try.params4]; intro t ht; simp at ht; subst ht <;> exact ⟨by kernel_rfl, of_decide_eq_true (by kernel_rfl)⟩)
    (by rw [Try.params4]; intro ds hd; match ds, hd with | [_], _ => rfl)
    (ChangeSpec.witness6 (enc := enc) (C := Try.checked) false ⟨#[], #[.slice none 0 0], []⟩ 8 (by kernel_rfl) (by kernel_rfl) (by kernel_rfl) (by kernel_rfl)) ?_
  intro W base args ds before hval hA
  rw [Try.params4] at hA hval
  obtain ⟨v0, vs0, d0, ds0, p0, q0, hargs, rfl, rfl, h0, r0⟩ := trodAll_cons hA
  obtain ⟨rfl, rfl, rfl⟩ := trodAll_nil r0
  obtain rfl : args = #[v0] := by cases args; simp_all
  obtain ⟨x0, hx0, wx0⟩ := held_arg Try.underlying22 Try.underlying21 (by kernel_rfl) (hval 0 22 v0 rfl rfl) h0
  exact walk W v0 x0 hx0 wx0

theorem proved : Rows.BorderGoesSaid :=
  OpenClaim.holds_of_wide 4 Try.f4 rfl rfl rfl rfl rfl rfl rfl ⟨rfl, rfl, rfl, rfl, rfl⟩ rfl rfl rfl rfl rfl (by kernel_rfl) Try.func4 (by kernel_rfl)
    (of_decide_eq_true (by kernel_rfl)) (by unfold Func.isWrapper; first | (rw [if_pos (by decide +kernel)]; kernel_rfl) | (rw [if_neg (by decide +kernel)]; exact ⟨rfl, rfl⟩))
    (fun os started H enc _ => lifted os started H enc)
#print axioms proved

end Go.Proofs.Ytbchdpgcjiepfaa.lawBorderGoes
