/- linotyperef38.Wrong; works of layer 38. -/
import Derived.Test.YtgndolgihplngaaGreatDoorEdtD
import Derived.Test.YtgndolgihplngaaGreatDoorMg8
namespace Go.Proofs.YtgndolgihplngaaGreatDoor
open Go.RowKit Go.ChangeShapes Go.WideShapes
set_option maxRecDepth 100000 in
set_option maxHeartbeats 2000000 in
theorem rwr_3 (a b : Int) (bo : Option Addr) (bn bk : Nat) (w : World) : Calls Tryz.prog 7 #[.agg #[.int .i64 3, .int .i64 a, .int .i64 b, .slice bo bn bk]] w (Gives w (.int .i64 (if a < 0 ∨ 2 < a then 3 else 0))) := by
  obtain ⟨W1, hW1, hx, hb⟩ := op_box w 3 a b bo bn bk
  have HB := Lib.hid hb
  have x0 := hx.cell 0 _ rfl
  have x1 := hx.cell 1 _ rfl
  clear hx hb
  by_cases h0 : a < 0
  · have d1 : decide (a < 0) = true := by rw [decide_eq_true_eq]; exact h0
    rw [if_pos (Or.inl h0)]
    go_enter Tryz.func7, Tryz.ntmps7
    go_upto_region 1 with (fail)
    rw [← hW1]
    clear hW1
    go_wp2
    go_ret
    exact ⟨(ret_eq (by first | rfl | (simp <;> omega))), HB.out⟩
  · have d1 : decide (a < 0) = false := by rw [decide_eq_false_iff_not]; exact h0
    by_cases h2 : 2 < a
    · have d2 : decide (2 < a) = true := by rw [decide_eq_true_eq]; exact h2
      rw [if_pos (Or.inr h2)]
      go_enter Tryz.func7, Tryz.ntmps7
      go_upto_region 1 with (fail)
      rw [← hW1]
      clear hW1
      go_wp2
      go_ret
      exact ⟨(ret_eq (by first | rfl | (simp <;> omega))), HB.out⟩
    · have d2 : decide (2 < a) = false := by rw [decide_eq_false_iff_not]; exact h2
      rw [if_neg (by omega)]
      go_enter Tryz.func7, Tryz.ntmps7
      go_upto_region 1 with (fail)
      rw [← hW1]
      clear hW1
      go_wp2
      go_ret
      exact ⟨(ret_eq (by first | rfl | (simp <;> omega))), HB.out⟩
set_option maxRecDepth 100000 in
set_option maxHeartbeats 2000000 in
theorem rwr_4 (a b : Int) (bo : Option Addr) (bn bk : Nat) (w : World) : Calls Tryz.prog 7 #[.agg #[.int .i64 4, .int .i64 a, .int .i64 b, .slice bo bn bk]] w (Gives w (.int .i64 (if a < 0 ∨ 2 < a then 3 else 0))) := by
  obtain ⟨W1, hW1, hx, hb⟩ := op_box w 4 a b bo bn bk
  have HB := Lib.hid hb
  have x0 := hx.cell 0 _ rfl
  have x1 := hx.cell 1 _ rfl
  clear hx hb
  by_cases h0 : a < 0
  · have d1 : decide (a < 0) = true := by rw [decide_eq_true_eq]; exact h0
    rw [if_pos (Or.inl h0)]
    go_enter Tryz.func7, Tryz.ntmps7
    go_upto_region 1 with (fail)
    rw [← hW1]
    clear hW1
    go_wp2
    go_ret
    exact ⟨(ret_eq (by first | rfl | (simp <;> omega))), HB.out⟩
  · have d1 : decide (a < 0) = false := by rw [decide_eq_false_iff_not]; exact h0
    by_cases h2 : 2 < a
    · have d2 : decide (2 < a) = true := by rw [decide_eq_true_eq]; exact h2
      rw [if_pos (Or.inr h2)]
      go_enter Tryz.func7, Tryz.ntmps7
      go_upto_region 1 with (fail)
      rw [← hW1]
      clear hW1
      go_wp2
      go_ret
      exact ⟨(ret_eq (by first | rfl | (simp <;> omega))), HB.out⟩
    · have d2 : decide (2 < a) = false := by rw [decide_eq_false_iff_not]; exact h2
      rw [if_neg (by omega)]
      go_enter Tryz.func7, Tryz.ntmps7
      go_upto_region 1 with (fail)
      rw [← hW1]
      clear hW1
      go_wp2
      go_ret
      exact ⟨(ret_eq (by first | rfl | (simp <;> omega))), HB.out⟩
set_option maxRecDepth 100000 in
set_option maxHeartbeats 2000000 in
theorem rwr_any (k a b : Int) (bo : Option Addr) (bn bk : Nat) (w : World) : Calls Tryz.prog 7 #[.agg #[.int .i64 k, .int .i64 a, .int .i64 b, .slice bo bn bk]] w (Gives w (.int .i64 (wrC k a))) := by
  by_cases h3 : k = 3
  · subst h3
    have h := rwr_3 a b bo bn bk w
    rw [show ((wrC 3 a : Nat) : Int) = (if a < 0 ∨ 2 < a then 3 else 0) from by unfold wrC; rw [if_neg (by decide)]; simp only [true_or, true_and]; split <;> rfl]
    exact h
  by_cases h4 : k = 4
  · subst h4
    have h := rwr_4 a b bo bn bk w
    rw [show ((wrC 4 a : Nat) : Int) = (if a < 0 ∨ 2 < a then 3 else 0) from by unfold wrC; rw [if_neg (by decide)]; simp only [or_true, true_and]; split <;> rfl]
    exact h
  have e3 : (k == 3) = false := by rw [beq_eq_false_iff_ne]; exact h3
  have e4 : (k == 4) = false := by rw [beq_eq_false_iff_ne]; exact h4
  obtain ⟨W1, hW1, hx, hb⟩ := op_box w k a b bo bn bk
  have HB := Lib.hid hb
  have x0 := hx.cell 0 _ rfl
  have x1 := hx.cell 1 _ rfl
  clear hx hb
  by_cases h0 : k < 2
  · have d1 : decide (k < 2) = true := by rw [decide_eq_true_eq]; exact h0
    rw [show wrC k a = 5 from if_pos (.inl h0)]
    clear h0 h3 h4
    go_enter Tryz.func7, Tryz.ntmps7
    go_upto_region 1 with (fail)
    rw [← hW1]
    clear hW1
    go_wp2
    go_ret
    exact ⟨(ret_eq (by first | rfl | (simp <;> omega))), HB.out⟩
  · have d1 : decide (k < 2) = false := by rw [decide_eq_false_iff_not]; exact h0
    by_cases h2 : 12 < k
    · have d2 : decide (12 < k) = true := by rw [decide_eq_true_eq]; exact h2
      rw [show wrC k a = 5 from if_pos (.inr h2)]
      clear h0 h2 h3 h4
      go_enter Tryz.func7, Tryz.ntmps7
      go_upto_region 1 with (fail)
      rw [← hW1]
      clear hW1
      go_wp2
      go_ret
      exact ⟨(ret_eq (by first | rfl | (simp <;> omega))), HB.out⟩
    · have d2 : decide (12 < k) = false := by rw [decide_eq_false_iff_not]; exact h2
      rw [show wrC k a = 0 from by unfold wrC; rw [if_neg (by omega), if_neg (by omega)]]
      clear h0 h2 h3 h4
      go_enter Tryz.func7, Tryz.ntmps7
      go_upto_region 1 with (fail)
      rw [← hW1]
      clear hW1
      go_wp2
      go_ret
      exact ⟨(ret_eq (by first | rfl | (simp <;> omega))), HB.out⟩
theorem in_nine : inI 9 (sideI 2) = ((1 : Nat) : Int) ∧ inI 9 (sideI 3) = ((2 : Nat) : Int) := by decide
set_option maxRecDepth 100000 in
set_option maxHeartbeats 3000000 in
theorem works38_any (sa : Nat → Addr) (w : World) (hs : Sents w sa) : Calls Tryz.prog 5 #[] w (Yes w) := by
  have HNW := Lib.hid (pnew_any 3 2 w)
  rw [show rowN 3 = 3 from rfl, show rowN 2 = 2 from rfl] at HNW
  have HS := Lib.hid hs
  clear hs
  go_enter Tryz.func5, Tryz.ntmps5
  go_wp2_with fail
  refine HNW.out.mono ?_
  rintro e w1 ⟨gp, gg, gr, R0, rfl, h1, b1⟩
  have hb := (Below.refl w1.heap.size w1).alloc (Nat.le_refl _) (.cells [Value.int .i32 97].toArray 21)
  have ht := heldE_one (w := w1) (ty := 21) (E := intE .i32) (Y := fun _ => False) (Z := fun b => w1.heap.size ≤ b) [.int .i32 97] 97 rfl (fun _ _ h => h.elim) (Nat.le_refl _)
  have h1' := h1.below hb
  have hp := pput_any w.heap.size gp gg gr 3 R0 wk0 0 0 false true 1 _ [97] _ h1' (pen_text h1 ht) 0 0 false in_num.1 in_num.2.1 rfl (by decide) (by decide)
  rw [wk_1.1, wk_1.2.1, wk_1.2.2.1] at hp
  rw [show aftC ((0 : Nat) : Int) 1 ((3 : Nat) : Int) = 1 from wk_1.2.2.2.1, show aftP ((0 : Nat) : Int) 1 ((3 : Nat) : Int) true = false from wk_1.2.2.2.2.1] at hp
  have HP := Lib.hid hp
  have H1 := Lib.hid h1'
  have B1 := Lib.hid (b1.trans (hb.mono b1.size))
  clear hb ht h1' h1 b1 hp
  go_wp2_with fail
  refine HP.out.mono ?_
  rintro e w2 ⟨rfl, k2⟩
  have B2 := Lib.hid (B1.out.trans (k2.belowB H1.out B1.out.size))
  obtain ⟨R2, h2, _⟩ := k2
  have hd := edo_any w.heap.size gp gg gr 3 R2 wk1 0 1 false true 2 9 9 none 0 0 w2 h2 0 1 (by rw [wk_1.2.2.2.2.2.2]; exact in_num.1) in_num.2.2.1 (by rw [wk_1.2.2.2.2.2.2]; decide) rfl
  rw [(ed_2 wk1 0 1 3 9 9 true).1, (ed_2 wk1 0 1 3 9 9 true).2.1, (ed_2 wk1 0 1 3 9 9 true).2.2.1, (ed_2 wk1 0 1 3 9 9 true).2.2.2, wk_1.2.2.2.2.2.2] at hd
  rw [show inI 9 (sideI ((2 : Nat) : Int)) = 1 from in_nine.1, show inI 9 (sideI ((3 : Nat) : Int)) = 2 from in_nine.2] at hd
  have HD := Lib.hid hd
  have H2 := Lib.hid h2
  clear h2 hd HP H1 B1
  go_wp2_with fail
  refine HD.out.mono ?_
  rintro e w3 ⟨rfl, k3⟩
  have B3 := Lib.hid (B2.out.trans (k3.belowB H2.out B2.out.size))
  obtain ⟨R3, h3, _⟩ := k3
  have z0 := h3.1.cell 0 _ rfl
  have z1 := h3.1.cell 1 _ rfl
  have z2 := h3.1.cell 2 _ rfl
  have z3 := h3.1.cell 3 _ rfl
  have q1 := cur_self 1 2 false
  have HW := Lib.hid (ewrong_bad sa 3 3 0 none 0 0 w3 (HS.out.below B3.out) 2 rfl).2
  have HDN := Lib.hid (fun w => edoes_no 13 (by decide) w)
  clear h3 HD H2 B2
  go_wp2_with fail
  refine HW.out.mono ?_
  rintro e w4 ⟨rfl, b4⟩
  have B4 := Lib.hid (B3.out.trans (b4.mono B3.out.size))
  have HCD := Lib.hid (code_sent sa w4 (HS.out.below B4.out) 2 (by decide))
  clear b4
  go_wp2_with fail
  refine HCD.out.mono ?_
  rintro e w5 ⟨rfl, rfl⟩
  go_wp2_with fail
  refine (HDN.out _).mono ?_
  rintro e w5 ⟨rfl, rfl⟩
  go_wp2
  go_ret
  exact ⟨(ret_eq (by first | rfl | (simp <;> omega))), B4.out⟩
end Go.Proofs.YtgndolgihplngaaGreatDoor
