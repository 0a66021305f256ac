/- rowtext: begins. -/
import Derived.Test.YtmclmhdlnlcafaaDoorMg3
import Derived.Test.YtmclmhdlnlcafaaDoorMg1
import Derived.Deep.Cut
namespace Go.Proofs.YtmclmhdlnlcafaaDoor
open Go.RowKit Go.ChangeShapes Go.WideShapes
def eatL : List Cl → List Int → List Int
  | [], T => T
  | c :: C, T => if T = [] ∨ c.1 = 0 ∨ T.length < c.2.length ∨ c.2 ≠ T.take c.2.length then T else eatL C (T.drop c.2.length)
def beginB (C : List Cl) (T : List Int) : Bool := if (C.getD 0 zc).1 = 3 then false else decide ((eatL C T).length = 0)
theorem eat_drop (C : List Cl) (k : Nat) (h : k < C.length) (T : List Int) : eatL (C.drop k) T = if T = [] ∨ (C.getD k zc).1 = 0 ∨ T.length < (C.getD k zc).2.length ∨ (C.getD k zc).2 ≠ T.take (C.getD k zc).2.length then T else eatL (C.drop (k + 1)) (T.drop (C.getD k zc).2.length) := by
  rw [List.drop_eq_getElem_cons h]
  have : C.getD k zc = C[k] := by simp [List.getD, List.getElem?_eq_getElem h]
  rw [this]
  rfl
set_option maxRecDepth 100000 in
set_option maxHeartbeats 2500000 in
theorem begins_any (Z Y : Zone) (v u : Value) (C : List Cl) (T : List Int) (w : World) (hv : HeldE cellE Z w v C) (hu : HeldE (intE .i32) Y w u T) (h0 : 0 < C.length) : Calls Tryd.prog 63 #[v, u] w (Gives w (.bool (beginB C T))) := by
  have hl := hv.max
  obtain ⟨ao, cap, rfl⟩ := hv.len
  obtain ⟨_, _, hc⟩ := cells_at hv
  have HC := Lib.hid hc
  obtain ⟨b, off, _, rfl, hb, _, c0, _, _⟩ := hc 0 h0
  rw [Nat.zero_mul, Nat.add_zero] at c0
  obtain ⟨K0, hK0⟩ : ∃ K0, K0 = (C.getD 0 zc).1 := ⟨_, rfl⟩
  rw [← hK0] at c0
  have HU := Lib.hid hu
  obtain ⟨ua, uc, rfl⟩ := hu.len
  by_cases h3 : K0 = 3
  · have hk3 : (K0 == 3) = true := by rw [beq_iff_eq]; exact h3
    have HBB := Lib.hid (show beginB C T = false by unfold beginB; rw [← hK0, if_pos h3])
    clear hc hv hK0 h3 hu
    go_enter Tryd.func63, Tryd.ntmps63
    go_wp2
    go_ret
    rw [HBB.out]
    exact ⟨(ret_eq (by first | rfl | (simp <;> omega))), Below.refl _ _⟩
  have hk3 : (K0 == 3) = false := by rw [beq_eq_false_iff_ne]; exact h3
  have HBB := Lib.hid (show beginB C T = decide ((eatL C T).length = 0) by unfold beginB; rw [← hK0, if_neg h3])
  clear hc hv hK0 h3 hu
  go_enter Tryd.func63, Tryd.ntmps63
  go_wp2
  clear c0 hk3 hb
  go_loopw [1, 14] (fun tv i wr => ∃ (k : Nat) (S : List Int), k ≤ C.length ∧ i = .int .i64 k ∧ HeldE (intE .i32) Y wr tv S ∧ Go.RowKit.Hid (eatL (C.drop k) S = eatL C T) ∧ Below w.heap.size w wr) (fun _ i _ => C.length - (intOf i).toNat)
  case atStart => exact ⟨0, T, Nat.zero_le _, rfl, HU.out, Lib.hid rfl, Below.refl _ _⟩
  case round =>
    obtain ⟨k, S, hk, rfl, htv, HEA, hbw⟩ := hrel
    have HBW := Lib.hid hbw
    have hsm := htv.max
    clear hbw
    obtain ⟨sa, sc, rfl⟩ := htv.len
    have HS := Lib.hid htv
    have hscap : S.length ≤ sc ∧ sc ≤ maxLen := by
      obtain ⟨a, c, e, h1, h2, _⟩ := htv
      cases e
      exact ⟨h1, h2⟩
    clear htv
    by_cases hlt : k < C.length
    · obtain ⟨b, off, cv, e, hb, _, c0, c1, hh⟩ := HC.out k hlt
      cases e
      have he := eat_drop C k hlt S
      rw [HEA.out] at he
      obtain ⟨⟨K, X⟩, hKX⟩ : ∃ y, y = C.getD k zc := ⟨_, rfl⟩
      rw [← hKX] at c0 hh he
      simp only at c0 hh he
      have HX := Lib.hid hh
      have hxm := hh.max
      obtain ⟨xa, xc, rfl⟩ := hh.len
      have c0 := (HBW.out.cell (p := ⟨b, off + k * 2, none⟩) hb).trans c0
      have c1 := (HBW.out.cell (p := ⟨b, off + k * 2 + 1, none⟩) hb).trans c1
      obtain ⟨W1, hW1⟩ : ∃ W1, W1 = wr.alloc (.cells #[.int .i64 K, .slice xa X.length xc] 40) := ⟨_, rfl⟩
      have hb1 : Below wr.heap.size wr W1 := by rw [hW1]; exact (Below.refl _ _).alloc (Nat.le_refl _) _
      have HH := Lib.hid (show Has W1 wr.heap.size [.int .i64 K, .slice xa X.length xc] 40 by rw [hW1]; exact Has.new wr _ _)
      have HB1 := Lib.hid (HBW.out.trans (hb1.mono HBW.out.size))
      have HS1 := Lib.hid (HS.out.below hb1)
      have HX1 := Lib.hid (HX.out.below HB1.out)
      have HE := Lib.hid he
      clear hKX hh hb hb1 he
      go_upto_region 6 with (fail)
      rw [← hW1]
      clear hW1 c0 c1
      have d0 := ext_cell (HH.out.cell 0 _ rfl)
      have d1 := ext_cell (HH.out.cell 1 _ rfl)
      by_cases hS : S = []
      · subst hS
        have HR := Lib.hid (show beginB C T = true by rw [HBB.out, HE.out, if_pos (.inl rfl)]; rfl)
        refine wp_region_ext (by kernel_rfl) (by kernel_rfl) ?_
        repeat (go_big_quiet_step ((fail)))
        refine wpQuiet_nil ?_
        intro _ hw'
        obtain ⟨u, hw''⟩ := hw'
        subst hw''
        have HF := Lib.hid (ext_below HB1.out u)
        go_wp2
        go_ret
        rw [HR.out]
        exact ⟨(ret_eq (by first | rfl | (simp <;> omega))), HF.out⟩
      · have hne : S ≠ [] := hS
        have hn0 : 0 < S.length := by
          cases S with
          | nil => exact absurd rfl hne
          | cons y S' => simp
        clear hS
        have hz : ((S.length : Int) == 0) = false := by rw [beq_eq_false_iff_ne]; omega
        have HNO := Lib.hid (show S = eatL C T → beginB C T = false from fun e => by rw [HBB.out, ← e]; simpa using hne)
        by_cases hK : K = 0
        · have hk0 : (K == 0) = true := by rw [beq_iff_eq]; exact hK
          have HR := Lib.hid (HNO.out (by rw [HE.out, if_pos (.inr (.inl hK))]))
          clear hK
          refine wp_region_ext (by kernel_rfl) (by kernel_rfl) ?_
          repeat (go_big_quiet_step ((fail)))
          refine wpQuiet_nil ?_
          intro _ hw'
          obtain ⟨u, hw''⟩ := hw'
          subst hw''
          have HF := Lib.hid (ext_below HB1.out u)
          go_wp2
          go_ret
          rw [HR.out]
          exact ⟨(ret_eq (by first | rfl | (simp <;> omega))), HF.out⟩
        have hk0 : (K == 0) = false := by rw [beq_eq_false_iff_ne]; exact hK
        by_cases hlx : S.length < X.length
        · have hdx : decide ((S.length : Int) < X.length) = true := by rw [decide_eq_true_eq]; omega
          have HR := Lib.hid (HNO.out (by rw [HE.out, if_pos (.inr (.inr (.inl hlx)))]))
          clear hK
          refine wp_region_ext (by kernel_rfl) (by kernel_rfl) ?_
          repeat (go_big_quiet_step ((fail)))
          refine wpQuiet_nil ?_
          intro _ hw'
          obtain ⟨u, hw''⟩ := hw'
          subst hw''
          have HF := Lib.hid (ext_below HB1.out u)
          go_wp2
          go_ret
          rw [HR.out]
          exact ⟨(ret_eq (by first | rfl | (simp <;> omega))), HF.out⟩
        have hdx : decide ((S.length : Int) < X.length) = false := by rw [decide_eq_false_iff_not]; omega
        have hpt : HeldE (intE .i32) Y W1 (.slice sa X.length sc) (S.take X.length) := by
          have := HS1.out.part 0 X.length (Nat.zero_le _) (by omega) sa sc (fun h => ⟨h, by obtain ⟨_, c, e, _, _, hnn, _⟩ := HS1.out; cases e; exact (hnn h).2⟩) (fun b off e _ => by simp [e]) (fun a e => by rw [e]; simp) (by omega) hscap.2
          simpa using this
        have HQ := Lib.hid (fun u : Growth W1 => requal_any _ _ X (S.take X.length) (ext W1 u) (HX1.out.below u.ok).ints (hpt.below u.ok).ints hxm)
        by_cases hq : X = S.take X.length
        · have hsb : sameB X (S.take X.length) = true := by unfold sameB; exact decide_eq_true hq
          rw [hsb] at HQ
          have HEE := Lib.hid (show eatL (C.drop (k + 1)) (S.drop X.length) = eatL C T by rw [HE.out, if_neg (by rintro (h | h | h | h); exact hne h; exact hK h; exact hlx h; exact h hq)])
          clear hpt hq hsb hK
          obtain ⟨_, _, hsp⟩ := HS1.out.spots
          obtain ⟨sb, so, rfl, _⟩ := hsp 0 hn0
          clear hsp
          have hxl : X.length ≤ S.length := by omega
          have hxsc : X.length ≤ sc := by omega
          refine wp_region_ext (by kernel_rfl) (by kernel_rfl) ?_
          repeat (go_big_quiet_step (((go_at_call 82; exact callx (HQ.out _)))))
          refine wpQuiet_nil ?_
          intro _ hw'
          obtain ⟨u, hw''⟩ := hw'
          subst hw''
          have HF := Lib.hid (ext_below HB1.out u)
          have HH2 := Lib.hid (show Has (ext W1 u) wr.heap.size [.int .i64 K, .slice xa X.length xc] 40 from HH.out.below u.ok HH.out.lt)
          have hp := (show HeldE (intE .i32) Y (ext W1 u) (.slice (some ⟨sb, so, none⟩) S.length sc) S from HS1.out.below u.ok).part X.length S.length hxl (Nat.le_refl _) (if sc = X.length then some ⟨sb, so, none⟩ else some ⟨sb, so + X.length, none⟩) (sc - X.length) (fun e => by cases e) (fun b off e hlt => by cases e; rw [if_neg (by omega)]; exact congrArg (fun z => some (⟨sb, so + z, none⟩ : Addr)) (Nat.mul_one _).symm) (fun _ _ => by split <;> simp) (by omega) (by omega)
          rw [List.take_of_length_le (by simp)] at hp
          have HP := Lib.hid hp
          obtain ⟨wx, hwx⟩ : ∃ wx, wx = ext W1 u := ⟨_, rfl⟩
          rw [← hwx] at HF HH2 HP ⊢
          clear hwx d0 d1 hp
          have d1 := HH2.out.cell 1 _ rfl
          go_wp2
          go_roundw
          case rel => exact ⟨k + 1, S.drop X.length, by omega, by go_num, HP.out, HEE, HF.out⟩
          case measure => simp [intOf] <;> omega
        · have hsb : sameB X (S.take X.length) = false := by unfold sameB; exact decide_eq_false hq
          rw [hsb] at HQ
          have HR := Lib.hid (HNO.out (by rw [HE.out, if_pos (.inr (.inr (.inr hq)))]))
          clear hpt hq hsb hK
          refine wp_region_ext (by kernel_rfl) (by kernel_rfl) ?_
          repeat (go_big_quiet_step (((go_at_call 82; exact callx (HQ.out _)))))
          refine wpQuiet_nil ?_
          intro _ hw'
          obtain ⟨u, hw''⟩ := hw'
          subst hw''
          have HF := Lib.hid (ext_below HB1.out u)
          go_wp2
          go_ret
          rw [HR.out]
          exact ⟨(ret_eq (by first | rfl | (simp <;> omega))), HF.out⟩
    · obtain rfl : k = C.length := by omega
      have he : S = eatL C T := by rw [← HEA.out, List.drop_length]; rfl
      have HR := Lib.hid (show beginB C T = decide (S.length = 0) by rw [HBB.out, he])
      cases S with
      | nil =>
        have HR2 := Lib.hid (show beginB C T = true by rw [HR.out]; rfl)
        clear HR he
        go_wp2
        go_ret
        rw [HR2.out]
        exact ⟨(ret_eq (by first | rfl | (simp <;> omega))), HBW.out⟩
      | cons y S' =>
        obtain ⟨n, hn⟩ : ∃ n, n = (y :: S').length := ⟨_, rfl⟩
        have hn0 : 0 < n := by rw [hn]; simp
        rw [← hn] at HR ⊢
        have hz : ((n : Int) == 0) = false := by rw [beq_eq_false_iff_ne]; omega
        have HR2 := Lib.hid (show beginB C T = false by rw [HR.out]; simp; omega)
        clear hn he
        go_wp2
        go_ret
        rw [HR2.out]
        exact ⟨(ret_eq (by first | rfl | (simp <;> omega))), HBW.out⟩
end Go.Proofs.YtmclmhdlnlcafaaDoor
