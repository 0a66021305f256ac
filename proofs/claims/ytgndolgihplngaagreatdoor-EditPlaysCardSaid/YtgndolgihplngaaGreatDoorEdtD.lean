/- edit.Does, Wrong, Do. -/
import Derived.Test.YtgndolgihplngaaGreatDoorEdtC
import Derived.Test.YtgndolgihplngaaGreatDoorErrS
import Derived.Test.YtgndolgihplngaaGreatDoorCursorE
namespace Go.Proofs.YtgndolgihplngaaGreatDoor
open Go.RowKit Go.ChangeShapes Go.WideShapes
def wrC (k a : Int) : Nat := if k < 2 ∨ 12 < k then 5 else if (k = 3 ∨ k = 4) ∧ (a < 0 ∨ 2 < a) then 3 else 0
theorem wrC_cases (k a : Int) : (wrC k a = 5 ∧ (k < 2 ∨ 12 < k)) ∨ (wrC k a = 3 ∧ (k = 3 ∨ k = 4) ∧ (a < 0 ∨ 2 < a)) ∨ (wrC k a = 0 ∧ 2 ≤ k ∧ k ≤ 12 ∧ ((k ≠ 3 ∧ k ≠ 4) ∨ (0 ≤ a ∧ a ≤ 2))) := by
  unfold wrC
  split
  · omega
  · split
    · omega
    · omega
theorem edoes_yes (k : Int) (h1 : 2 ≤ k) (h2 : k ≤ 12) (w : World) : Calls Tryz.prog 12 #[.int .i64 k] w fun e w' => e = .returned (.bool true) ∧ w = w' := by
  have d1 : decide (2 ≤ k) = true := by rw [decide_eq_true_eq]; exact h1
  have d2 : decide (k ≤ 12) = true := by rw [decide_eq_true_eq]; exact h2
  go_enter Tryz.func12, Tryz.ntmps12
  go_wp2
  go_ret
  exact ⟨(ret_eq (by first | rfl | (simp <;> omega))), rfl⟩
theorem edoes_no (k : Int) (h : k < 2 ∨ 12 < k) (w : World) : Calls Tryz.prog 12 #[.int .i64 k] w fun e w' => e = .returned (.bool false) ∧ w = w' := by
  by_cases h1 : k < 2
  · have d1 : decide (2 ≤ k) = false := by rw [decide_eq_false_iff_not]; omega
    clear h
    go_enter Tryz.func12, Tryz.ntmps12
    go_wp2
    go_ret
    exact ⟨(ret_eq (by first | rfl | (simp <;> omega))), rfl⟩
  · have d1 : decide (2 ≤ k) = true := by rw [decide_eq_true_eq]; omega
    have d2 : decide (k ≤ 12) = false := by rw [decide_eq_false_iff_not]; omega
    clear h
    go_enter Tryz.func12, Tryz.ntmps12
    go_wp2
    go_ret
    exact ⟨(ret_eq (by first | rfl | (simp <;> omega))), rfl⟩
set_option maxRecDepth 100000 in
set_option maxHeartbeats 2000000 in
theorem ewrong_ok (k a b : Int) (bo : Option Addr) (bn bk : Nat) (w : World) (h : wrC k a = 0) : Calls Tryz.prog 10 #[.agg #[.int .i64 k, .int .i64 a, .int .i64 b, .slice bo bn bk]] w (Gives w .nilIface) := by
  obtain ⟨W1, hW1, hx, hb⟩ := op_box w k a b bo bn bk
  have HB := Lib.hid hb
  have x0 := hx.cell 0 _ rfl
  have x1 := hx.cell 1 _ rfl
  have hk : 2 ≤ k ∧ k ≤ 12 ∧ ((k ≠ 3 ∧ k ≠ 4) ∨ (0 ≤ a ∧ a ≤ 2)) := by rcases wrC_cases k a with q | q | q <;> omega
  have HD := Lib.hid (fun w => edoes_yes k hk.1 hk.2.1 w)
  clear h hx hb
  by_cases hk3 : k = 3 ∨ k = 4
  · have d1 : decide (a < 0) = false := by rw [decide_eq_false_iff_not]; omega
    have d2 : decide (2 < a) = false := by rw [decide_eq_false_iff_not]; omega
    clear hk
    rcases hk3 with rfl | rfl
    · go_enter Tryz.func10, Tryz.ntmps10
      go_upto_region 1 with (fail)
      rw [← hW1]
      clear hW1
      go_wp2_with fail
      refine (HD.out _).mono ?_
      rintro e w2 ⟨rfl, rfl⟩
      go_wp2
      go_ret
      exact ⟨(ret_eq (by first | rfl | (simp <;> omega))), HB.out⟩
    · go_enter Tryz.func10, Tryz.ntmps10
      go_upto_region 1 with (fail)
      rw [← hW1]
      clear hW1
      go_wp2_with fail
      refine (HD.out _).mono ?_
      rintro e w2 ⟨rfl, rfl⟩
      go_wp2
      go_ret
      exact ⟨(ret_eq (by first | rfl | (simp <;> omega))), HB.out⟩
  · have d1 : (k != 3) = true := by rw [bne_iff_ne]; omega
    have d2 : (k != 4) = true := by rw [bne_iff_ne]; omega
    clear hk hk3
    go_enter Tryz.func10, Tryz.ntmps10
    go_upto_region 1 with (fail)
    rw [← hW1]
    clear hW1
    go_wp2_with fail
    refine (HD.out _).mono ?_
    rintro e w2 ⟨rfl, rfl⟩
    go_wp2
    go_ret
    exact ⟨(ret_eq (by first | rfl | (simp <;> omega))), HB.out⟩
set_option maxRecDepth 100000 in
set_option maxHeartbeats 2000000 in
theorem ewrong_kind (sa : Nat → Addr) (k a b : Int) (bo : Option Addr) (bn bk : Nat) (w : World) (hs : Sents w sa) (h : k < 2 ∨ 12 < k) : Calls Tryz.prog 10 #[.agg #[.int .i64 k, .int .i64 a, .int .i64 b, .slice bo bn bk]] w (Gives w (.iface 151 (.pointer (some (sa 4))))) := by
  obtain ⟨W1, hW1, hx, hb⟩ := op_box w k a b bo bn bk
  have HB := Lib.hid hb
  have x0 := hx.cell 0 _ rfl
  have h4 := (hs.below hb).cell 4 (by decide)
  simp only [glob] at h4
  have HD := Lib.hid (fun w => edoes_no k h w)
  clear h hx hb hs
  go_enter Tryz.func10, Tryz.ntmps10
  go_upto_region 1 with (fail)
  rw [← hW1]
  clear hW1
  go_wp2_with fail
  refine (HD.out _).mono ?_
  rintro e w2 ⟨rfl, rfl⟩
  go_wp2
  go_ret
  exact ⟨(ret_eq (by first | rfl | (simp <;> omega))), HB.out⟩
set_option maxRecDepth 100000 in
set_option maxHeartbeats 2000000 in
theorem ewrong_range3 (sa : Nat → Addr) (a b : Int) (bo : Option Addr) (bn bk : Nat) (w : World) (hs : Sents w sa) (h : a < 0 ∨ 2 < a) : Calls Tryz.prog 10 #[.agg #[.int .i64 3, .int .i64 a, .int .i64 b, .slice bo bn bk]] w (Gives w (.iface 151 (.pointer (some (sa 2))))) := by
  obtain ⟨W1, hW1, hx, hb⟩ := op_box w 3 a b bo bn bk
  have HB := Lib.hid hb
  have x0 := hx.cell 0 _ rfl
  have x1 := hx.cell 1 _ rfl
  have h2 := (hs.below hb).cell 2 (by decide)
  simp only [glob] at h2
  have HD := Lib.hid (fun w => edoes_yes 3 (by decide) (by decide) w)
  clear hx hb hs
  by_cases h0 : a < 0
  · have d1 : decide (a < 0) = true := by rw [decide_eq_true_eq]; exact h0
    clear h
    go_enter Tryz.func10, Tryz.ntmps10
    go_upto_region 1 with (fail)
    rw [← hW1]
    clear hW1
    go_wp2_with fail
    refine (HD.out _).mono ?_
    rintro e w2 ⟨rfl, rfl⟩
    go_wp2
    go_ret
    exact ⟨(ret_eq (by first | rfl | (simp <;> omega))), HB.out⟩
  · have d1 : decide (a < 0) = false := by rw [decide_eq_false_iff_not]; exact h0
    have d2 : decide (2 < a) = true := by rw [decide_eq_true_eq]; omega
    clear h
    go_enter Tryz.func10, Tryz.ntmps10
    go_upto_region 1 with (fail)
    rw [← hW1]
    clear hW1
    go_wp2_with fail
    refine (HD.out _).mono ?_
    rintro e w2 ⟨rfl, rfl⟩
    go_wp2
    go_ret
    exact ⟨(ret_eq (by first | rfl | (simp <;> omega))), HB.out⟩
set_option maxRecDepth 100000 in
set_option maxHeartbeats 2000000 in
theorem ewrong_range4 (sa : Nat → Addr) (a b : Int) (bo : Option Addr) (bn bk : Nat) (w : World) (hs : Sents w sa) (h : a < 0 ∨ 2 < a) : Calls Tryz.prog 10 #[.agg #[.int .i64 4, .int .i64 a, .int .i64 b, .slice bo bn bk]] w (Gives w (.iface 151 (.pointer (some (sa 2))))) := by
  obtain ⟨W1, hW1, hx, hb⟩ := op_box w 4 a b bo bn bk
  have HB := Lib.hid hb
  have x0 := hx.cell 0 _ rfl
  have x1 := hx.cell 1 _ rfl
  have h2 := (hs.below hb).cell 2 (by decide)
  simp only [glob] at h2
  have HD := Lib.hid (fun w => edoes_yes 4 (by decide) (by decide) w)
  clear hx hb hs
  by_cases h0 : a < 0
  · have d1 : decide (a < 0) = true := by rw [decide_eq_true_eq]; exact h0
    clear h
    go_enter Tryz.func10, Tryz.ntmps10
    go_upto_region 1 with (fail)
    rw [← hW1]
    clear hW1
    go_wp2_with fail
    refine (HD.out _).mono ?_
    rintro e w2 ⟨rfl, rfl⟩
    go_wp2
    go_ret
    exact ⟨(ret_eq (by first | rfl | (simp <;> omega))), HB.out⟩
  · have d1 : decide (a < 0) = false := by rw [decide_eq_false_iff_not]; exact h0
    have d2 : decide (2 < a) = true := by rw [decide_eq_true_eq]; omega
    clear h
    go_enter Tryz.func10, Tryz.ntmps10
    go_upto_region 1 with (fail)
    rw [← hW1]
    clear hW1
    go_wp2_with fail
    refine (HD.out _).mono ?_
    rintro e w2 ⟨rfl, rfl⟩
    go_wp2
    go_ret
    exact ⟨(ret_eq (by first | rfl | (simp <;> omega))), HB.out⟩
theorem ewrong_bad (sa : Nat → Addr) (k a b : Int) (bo : Option Addr) (bn bk : Nat) (w : World) (hs : Sents w sa) (m : Nat) (h : wrC k a = m + 1) : m < 8 ∧ Calls Tryz.prog 10 #[.agg #[.int .i64 k, .int .i64 a, .int .i64 b, .slice bo bn bk]] w (Gives w (.iface 151 (.pointer (some (sa m))))) := by
  rcases wrC_cases k a with ⟨q, q2⟩ | ⟨q, q2, q3⟩ | q
  · obtain rfl : m = 4 := by omega
    exact ⟨by decide, ewrong_kind sa k a b bo bn bk w hs q2⟩
  · obtain rfl : m = 2 := by omega
    rcases q2 with rfl | rfl
    · exact ⟨by decide, ewrong_range3 sa a b bo bn bk w hs q3⟩
    · exact ⟨by decide, ewrong_range4 sa a b bo bn bk w hs q3⟩
  · omega
set_option maxRecDepth 100000 in
set_option maxHeartbeats 2000000 in
theorem edo_bad (sa : Nat → Addr) (p : Option Addr) (k a b : Int) (bo : Option Addr) (bn bk : Nat) (w : World) (hs : Sents w sa) (m : Nat) (h : wrC k a = m + 1) : Calls Tryz.prog 11 #[.pointer p, .agg #[.int .i64 k, .int .i64 a, .int .i64 b, .slice bo bn bk]] w (Gives w (.iface 151 (.pointer (some (sa m))))) := by
  obtain ⟨W1, hW1, hx, hb⟩ := op_box w k a b bo bn bk
  have HB := Lib.hid hb
  have x0 := hx.cell 0 _ rfl
  have x1 := hx.cell 1 _ rfl
  have x2 := hx.cell 2 _ rfl
  have x3 := hx.cell 3 _ rfl
  have HW := Lib.hid (ewrong_bad sa k a b bo bn bk W1 (hs.below hb) m h).2
  clear h hx hb hs
  go_enter Tryz.func11, Tryz.ntmps11
  go_upto_region 1 with (fail)
  rw [← hW1]
  clear hW1
  go_wp2_with fail
  refine HW.out.mono ?_
  rintro e w2 ⟨rfl, b2⟩
  have HF := Lib.hid (HB.out.trans (b2.mono HB.out.size))
  clear x0 x1 x2 x3 b2
  go_wp2
  go_ret
  exact ⟨(ret_eq (by first | rfl | (simp <;> omega))), HF.out⟩
set_option maxRecDepth 100000 in
set_option maxHeartbeats 2000000 in
theorem edo_nil (k a b : Int) (bo : Option Addr) (bn bk : Nat) (w : World) (h : wrC k a = 0) : Calls Tryz.prog 11 #[.pointer none, .agg #[.int .i64 k, .int .i64 a, .int .i64 b, .slice bo bn bk]] w (Gives w .nilIface) := by
  obtain ⟨W1, hW1, hx, hb⟩ := op_box w k a b bo bn bk
  have HB := Lib.hid hb
  have x0 := hx.cell 0 _ rfl
  have x1 := hx.cell 1 _ rfl
  have x2 := hx.cell 2 _ rfl
  have x3 := hx.cell 3 _ rfl
  have HW := Lib.hid (ewrong_ok k a b bo bn bk W1 h)
  clear h hx hb
  go_enter Tryz.func11, Tryz.ntmps11
  go_upto_region 1 with (fail)
  rw [← hW1]
  clear hW1
  go_wp2_with fail
  refine HW.out.mono ?_
  rintro e w2 ⟨rfl, b2⟩
  have HF := Lib.hid (HB.out.trans (b2.mono HB.out.size))
  clear x0 x1 x2 x3 b2
  go_wp2
  go_ret
  exact ⟨(ret_eq (by first | rfl | (simp <;> omega))), HF.out⟩
/-- The pen's pending mark alone. -/
theorem PAt.one {w0 w1 : World} {B gp gg gr wd : Nat} {Rs R1 : List Rw} {Ls : List Ln} {r c : Int} {pd au : Bool} (h : PAt w0 B gp gg gr wd Rs R1 Ls r c pd au w1) (pd2 : Bool) : PAt w0 B gp gg gr wd Rs R1 Ls r c pd2 au (w1.setCell ⟨gp, 3, none⟩ (.bool pd2)) := by
  have hu := (Upd.refl (fun b => b = gp) w1).setCell (p := ⟨gp, 3, none⟩) (.inl rfl) (.bool pd2)
  exact ⟨h.1.turn (h.1.1.set 3 _) hu, h.2.1.trans (hu.mono fun b _ e => .inl e), h.2.2⟩
theorem PAt.auto {w0 w1 : World} {B gp gg gr wd : Nat} {Rs R1 : List Rw} {Ls : List Ln} {r c : Int} {pd au : Bool} (h : PAt w0 B gp gg gr wd Rs R1 Ls r c pd au w1) (au2 : Bool) : PAt w0 B gp gg gr wd Rs R1 Ls r c pd au2 (w1.setCell ⟨gp, 4, none⟩ (.bool au2)) := by
  have hu := (Upd.refl (fun b => b = gp) w1).setCell (p := ⟨gp, 4, none⟩) (.inl rfl) (.bool au2)
  exact ⟨h.1.turn (h.1.1.set 4 _) hu, h.2.1.trans (hu.mono fun b _ e => .inl e), h.2.2⟩
theorem ed_2 (Ls : List Ln) (r c wd : Nat) (a b : Int) (au : Bool) : edL Ls r c 2 a = Ls ∧ edR r 2 a Ls.length = inI a (sideI Ls.length) ∧ edC c 2 b wd = inI b (sideI wd) ∧ edU 2 a au = au := ⟨rfl, rfl, rfl, rfl⟩
theorem ed_3 (Ls : List Ln) (r c wd : Nat) (a b : Int) (au : Bool) : edL Ls r c 3 a = edN Ls r c a ∧ edR r 3 a Ls.length = (r : Int) ∧ edC c 3 b wd = (c : Int) ∧ edU 3 a au = au := ⟨rfl, rfl, rfl, rfl⟩
theorem ed_4 (Ls : List Ln) (r c wd : Nat) (a b : Int) (au : Bool) : edL Ls r c 4 a = edS Ls r c a ∧ edR r 4 a Ls.length = (r : Int) ∧ edC c 4 b wd = (c : Int) ∧ edU 4 a au = au := ⟨rfl, rfl, rfl, rfl⟩
theorem ed_5 (Ls : List Ln) (r c wd : Nat) (a b : Int) (au : Bool) : edL Ls r c 5 a = edA Ls r 4 c a ∧ edR r 5 a Ls.length = (r : Int) ∧ edC c 5 b wd = (c : Int) ∧ edU 5 a au = au := ⟨rfl, rfl, rfl, rfl⟩
theorem ed_6 (Ls : List Ln) (r c wd : Nat) (a b : Int) (au : Bool) : edL Ls r c 6 a = edI Ls r c a ∧ edR r 6 a Ls.length = (r : Int) ∧ edC c 6 b wd = (c : Int) ∧ edU 6 a au = au := ⟨rfl, rfl, rfl, rfl⟩
theorem ed_7 (Ls : List Ln) (r c wd : Nat) (a b : Int) (au : Bool) : edL Ls r c 7 a = edD Ls r c a ∧ edR r 7 a Ls.length = (r : Int) ∧ edC c 7 b wd = (c : Int) ∧ edU 7 a au = au := ⟨rfl, rfl, rfl, rfl⟩
theorem ed_8 (Ls : List Ln) (r c wd : Nat) (a b : Int) (au : Bool) : edL Ls r c 8 a = mvd Ls r Ls.length a false ∧ edR r 8 a Ls.length = (r : Int) ∧ edC c 8 b wd = 0 ∧ edU 8 a au = au := ⟨rfl, rfl, rfl, rfl⟩
theorem ed_9 (Ls : List Ln) (r c wd : Nat) (a b : Int) (au : Bool) : edL Ls r c 9 a = mvd Ls r Ls.length a true ∧ edR r 9 a Ls.length = (r : Int) ∧ edC c 9 b wd = 0 ∧ edU 9 a au = au := ⟨rfl, rfl, rfl, rfl⟩
theorem ed_10 (Ls : List Ln) (r c wd : Nat) (a b : Int) (au : Bool) : edL Ls r c 10 a = mvd Ls 0 Ls.length a true ∧ edR r 10 a Ls.length = (r : Int) ∧ edC c 10 b wd = (c : Int) ∧ edU 10 a au = au := ⟨rfl, rfl, rfl, rfl⟩
theorem ed_11 (Ls : List Ln) (r c wd : Nat) (a b : Int) (au : Bool) : edL Ls r c 11 a = mvd Ls 0 Ls.length a false ∧ edR r 11 a Ls.length = (r : Int) ∧ edC c 11 b wd = (c : Int) ∧ edU 11 a au = au := ⟨rfl, rfl, rfl, rfl⟩
theorem ed_12 (Ls : List Ln) (r c wd : Nat) (a b : Int) (au : Bool) : edL Ls r c 12 a = Ls ∧ edR r 12 a Ls.length = (r : Int) ∧ edC c 12 b wd = (c : Int) ∧ edU 12 a au = (a != 0) := ⟨rfl, rfl, rfl, rfl⟩
set_option maxRecDepth 100000 in
set_option maxHeartbeats 6000000 in
theorem edo_any (B gp gg gr wd : Nat) (Rs : List Rw) (Ls : List Ln) (r c : Int) (pd au : Bool) (k a b : Int) (bo : Option Addr) (bn bk : Nat) (w : World) (h : PenAt w B gp gg gr wd Rs Ls r c pd au) (r2 c2 : Nat) (hr2 : inI r (sideI Ls.length) = (r2 : Int)) (hc2 : inI c (sideI wd) = (c2 : Int)) (hlr : r2 < Ls.length) (hk : wrC k a = 0) :
    Calls Tryz.prog 11 #[.pointer (some ⟨gp, 0, none⟩), .agg #[.int .i64 k, .int .i64 a, .int .i64 b, .slice bo bn bk]] w (fun e w' => e = .returned .nilIface ∧ PDo w B gp gg gr wd Rs (edL Ls r2 c2 k a) (edR r2 k a Ls.length) (edC c2 k b wd) false (edU k a au) w') := by
  obtain ⟨W1, hW1, hx, hb⟩ := op_box w k a b bo bn bk
  have hkk : 2 ≤ k ∧ k ≤ 12 ∧ ((k ≠ 3 ∧ k ≠ 4) ∨ (0 ≤ a ∧ a ≤ 2)) := by rcases wrC_cases k a with q | q | q <;> omega
  have HKK := Lib.hid hkk
  have x0 := hx.cell 0 _ rfl
  have x1 := hx.cell 1 _ rfl
  have x2 := hx.cell 2 _ rfl
  have x3 := hx.cell 3 _ rfl
  have HW := Lib.hid (ewrong_ok k a b bo bn bk W1 hk)
  have hlen := h.sizes.2.2.2.2.1
  have H1 := Lib.hid ((PAt.start h).below hb)
  obtain ⟨gb, hgb⟩ : ∃ gb, gb = w.heap.size := ⟨_, rfl⟩
  have HGB := Lib.hid hgb
  have HX := Lib.hid (show Has W1 gb [.int .i64 k, .int .i64 a, .int .i64 b, .slice bo bn bk] 43 from by rw [hgb]; exact hx)
  have HGN := Lib.hid (show gb ≠ gp from by have := h.lt; omega)
  obtain ⟨hh, hhe⟩ : ∃ hh, hh = Ls.length := ⟨_, rfl⟩
  obtain ⟨pd2, hpd2⟩ : ∃ pd2, holdP c pd wd = pd2 := ⟨_, rfl⟩
  have HHO := Lib.hid (show ∀ w', Calls Tryz.prog 31 #[.agg #[.int .i64 r, .int .i64 c, .bool pd], .int .i64 wd, .int .i64 hh] w' (Gives w' (.agg #[.int .i64 r2, .int .i64 c2, .bool pd2])) from fun w' => by
    have h1 := chold_any r c pd wd hh w'
    rw [hhe, hr2, hc2, hpd2] at h1
    rw [hhe]
    exact h1)
  have HHE := Lib.hid hhe
  have HHG := Lib.hid (show ∀ (R : List Rw) (L : List Ln) (r c : Int) (p q : Bool) (w' : World), L.length = hh → PenAt w' B gp gg gr wd R L r c p q → Calls Tryz.prog 33 #[.pointer (some ⟨gg, 0, none⟩)] w' (fun e w2 => e = .returned (.int .i64 hh) ∧ w' = w2) from fun R L r c p q w' hl h9 => by
    have h8 := ghigh_any B gg gr wd R w' h9.2.2.1
    rw [h9.sizes.2.2.2.2.1, hl] at h8
    exact h8)
  rw [← hgb] at x0 x1 x2 x3
  have HLR := Lib.hid hlr
  clear h hx hb hk hkk hlen hr2 hc2 hlr hhe hpd2 hgb
  go_enter Tryz.func11, Tryz.ntmps11
  go_upto_region 1 with (fail)
  rw [← hW1, ← HGB.out]
  clear hW1
  go_wp2_with fail
  refine HW.out.mono ?_
  rintro e w2 ⟨rfl, b2⟩
  have h2 := H1.out.below b2
  have HX2 := Lib.hid (HX.out.below b2 HX.out.lt)
  have H2 := Lib.hid h2
  have HP2 := Lib.hid (show ∀ u : Growth w2, PAt w B gp gg gr wd Rs Rs Ls r c pd au (ext w2 u) from fun u => H2.out.below u.ok)
  have hl := h2.1.lt
  have c0 := h2.1.1.cell 0 _ rfl
  have e0 := ext_cell c0
  have e1 := ext_cell (h2.1.1.cell 1 _ rfl)
  have e2 := ext_cell (h2.1.1.cell 2 _ rfl)
  have e3 := ext_cell (h2.1.1.cell 3 _ rfl)
  have f1 := ext_free (a := ⟨gp, 1, none⟩) hl (h2.1.1.free 1)
  have f2 := ext_free (a := ⟨gp, 2, none⟩) hl (h2.1.1.free 2)
  have f3 := ext_free (a := ⟨gp, 3, none⟩) hl (h2.1.1.free 3)
  clear h2 b2 x0 x1 x2 x3 H1 HX hl
  go_wp2_with fail
  refine wp_region_ext_tail 18 (by kernel_rfl) (by simp) (by kernel_rfl) (by kernel_rfl) (by kernel_rfl) (by kernel_rfl) (by kernel_rfl) ?_
  simp only [List.take_succ_cons, List.take_zero, List.drop_succ_cons, List.drop_zero]
  repeat (go_big_quiet_step ((first | (go_at_call 32; exact callx_same (gwide_any B gg gr wd Rs _ (HP2.out _).1.2.2.1)) | (go_at_call 33; exact callx_same (HHG.out _ _ _ _ _ _ _ HHE.out.symm (HP2.out _).1)) | (go_at_call 31; exact callx (HHO.out _)))))
  refine wpQuiet_nil ?_
  intro _ hw'
  obtain ⟨u, hw''⟩ := hw'
  subst hw''
  obtain ⟨W3, hW3⟩ : ∃ W3, W3 = ext w2 u := ⟨_, rfl⟩
  rw [← hW3]
  have h3 : PAt w B gp gg gr wd Rs Rs Ls r c pd au W3 := by rw [hW3]; exact H2.out.below u.ok
  have HX3 := Lib.hid (show Has W3 gb [.int .i64 k, .int .i64 a, .int .i64 b, .slice bo bn bk] 43 from by rw [hW3]; exact HX2.out.below u.ok HX2.out.lt)
  have H3 := Lib.hid h3
  have p1 := h3.1.1.cell 1 _ rfl
  have p2 := h3.1.1.cell 2 _ rfl
  have p3 := h3.1.1.cell 3 _ rfl
  have g1 := h3.1.1.free 1
  have g2 := h3.1.1.free 2
  have g3 := h3.1.1.free 3
  clear e0 e1 e2 e3 f1 f2 f3 c0 h3 hW3 HP2
  have h4 := (H3.out.turn r2 c2 pd2).one false
  obtain ⟨W4, hW4⟩ : ∃ W4, W4 = (((W3.setCell ⟨gp, 1, none⟩ (.int .i64 r2)).setCell ⟨gp, 2, none⟩ (.int .i64 c2)).setCell ⟨gp, 3, none⟩ (.bool pd2)).setCell ⟨gp, 3, none⟩ (.bool false) := ⟨_, rfl⟩
  have hx4 := ((((HX3.out.setOther ⟨gp, 1, none⟩ (.int .i64 r2) HGN.out).setOther ⟨gp, 2, none⟩ (.int .i64 c2) HGN.out).setOther ⟨gp, 3, none⟩ (.bool pd2) HGN.out).setOther ⟨gp, 3, none⟩ (.bool false) HGN.out)
  rw [← hW4] at h4 hx4
  have H4 := Lib.hid h4
  have HX4 := Lib.hid hx4
  have HW4 := Lib.hid hW4
  clear h4 hx4 hW4 H2 HX2 HX3 H3
  go_upto_region 8 with (fail)
  rw [← HW4.out]
  clear p1 p2 p3 g1 g2 g3 HW4 HW HHO
  have x0 := HX4.out.cell 0 _ rfl
  have hk := HKK.out
  obtain rfl | hk2 : k = 2 ∨ k ≠ 2 := by omega
  · have hl := H4.out.1.lt
    have HP4 := Lib.hid (show ∀ u : Growth W4, PAt w B gp gg gr wd Rs Rs Ls r2 c2 false au (ext W4 u) from fun u => H4.out.below u.ok)
    have e0 := ext_cell (H4.out.1.1.cell 0 _ rfl)
    have x1 := ext_cell (HX4.out.cell 1 _ rfl)
    have x2 := ext_cell (HX4.out.cell 2 _ rfl)
    have g1 := ext_cell (H4.out.1.1.cell 1 _ rfl)
    have g2 := ext_cell (H4.out.1.1.cell 2 _ rfl)
    have g3 := ext_cell (H4.out.1.1.cell 3 _ rfl)
    have f1 := ext_free (a := ⟨gp, 1, none⟩) hl (H4.out.1.1.free 1)
    have f2 := ext_free (a := ⟨gp, 2, none⟩) hl (H4.out.1.1.free 2)
    have f3 := ext_free (a := ⟨gp, 3, none⟩) hl (H4.out.1.1.free 3)
    have HCM := Lib.hid (fun w' => cmove_any a b wd hh w')
    obtain ⟨q1, q2, q3, q4⟩ := ed_2 Ls r2 c2 wd a b au
    have HQ := Lib.hid (show ∀ w', PDo w B gp gg gr wd Rs Ls (inI a (sideI hh)) (inI b (sideI wd)) false au w' → PDo w B gp gg gr wd Rs (edL Ls r2 c2 2 a) (edR r2 2 a Ls.length) (edC c2 2 b wd) false (edU 2 a au) w' from fun w' h9 => by rw [q1, q2, q3, q4, ← HHE.out]; exact h9)
    clear hk q1 q2 q3 q4 hl
    go_wp2_with fail
    refine wp_region_ext_tail 18 (by kernel_rfl) (by simp) (by kernel_rfl) (by kernel_rfl) (by kernel_rfl) (by kernel_rfl) (by kernel_rfl) ?_
    simp only [List.take_succ_cons, List.take_zero, List.drop_succ_cons, List.drop_zero]
    repeat (go_big_quiet_step ((first | (go_at_call 32; exact callx_same (gwide_any B gg gr wd Rs _ (HP4.out _).1.2.2.1)) | (go_at_call 33; exact callx_same (HHG.out _ _ _ _ _ _ _ HHE.out.symm (HP4.out _).1)) | (go_at_call 34; exact callx (HCM.out _)))))
    refine wpQuiet_nil ?_
    intro _ hw'
    obtain ⟨u, hw''⟩ := hw'
    subst hw''
    have HF := Lib.hid (HQ.out _ ((H4.out.below u.ok).turn (inI a (sideI hh)) (inI b (sideI wd)) false).done)
    go_wp2
    go_ret
    exact ⟨(ret_eq (by first | rfl | (simp <;> omega))), HF.out⟩
  obtain rfl | hk12 : k = 12 ∨ k ≠ 12 := by omega
  · have x1 := HX4.out.cell 1 _ rfl
    have g4 := H4.out.1.1.cell 4 _ rfl
    have f4 := H4.out.1.1.free 4
    obtain ⟨q1, q2, q3, q4⟩ := ed_12 Ls r2 c2 wd a b au
    have HF := Lib.hid (show PDo w B gp gg gr wd Rs (edL Ls r2 c2 12 a) (edR r2 12 a Ls.length) (edC c2 12 b wd) false (edU 12 a au) _ from by rw [q1, q2, q3, q4]; exact (H4.out.auto (a != 0)).done)
    clear hk q1 q2 q3 q4 hk2
    go_wp2
    go_ret
    exact ⟨(ret_eq (by first | rfl | (simp <;> omega))), HF.out⟩
  have x1 := HX4.out.cell 1 _ rfl
  have x2 := HX4.out.cell 2 _ rfl
  have x3 := HX4.out.cell 3 _ rfl
  obtain rfl | hk3 : k = 3 ∨ k ≠ 3 := by omega
  · have HE := Lib.hid (echange_3 B gp gg gr wd Rs Ls r2 c2 false au a b bo bn bk W4 H4.out.1 HLR.out (by have := HKK.out; omega))
    obtain ⟨q1, q2, q3, q4⟩ := ed_3 Ls r2 c2 wd a b au
    have HQ := Lib.hid (And.intro q1 (And.intro q2 (And.intro q3 q4)))
    clear hk q1 q2 q3 q4 hk2 hk12
    go_wp2_with fail
    refine HE.out.mono ?_
    rintro e w5 ⟨rfl, k5⟩
    obtain ⟨R5, h5⟩ := H4.out.go k5
    have HF := Lib.hid (show PDo w B gp gg gr wd Rs (edL Ls r2 c2 3 a) (edR r2 3 a Ls.length) (edC c2 3 b wd) false (edU 3 a au) _ from by rw [HQ.out.1, HQ.out.2.1, HQ.out.2.2.1, HQ.out.2.2.2]; exact h5.done)
    clear k5 h5 x0 x1 x2 x3
    go_wp2
    go_ret
    exact ⟨(ret_eq (by first | rfl | (simp <;> omega))), HF.out⟩
  obtain rfl | hk4 : k = 4 ∨ k ≠ 4 := by omega
  · have HE := Lib.hid (echange_4 B gp gg gr wd Rs Ls r2 c2 false au a b bo bn bk W4 H4.out.1 HLR.out (by have := HKK.out; omega))
    obtain ⟨q1, q2, q3, q4⟩ := ed_4 Ls r2 c2 wd a b au
    have HQ := Lib.hid (And.intro q1 (And.intro q2 (And.intro q3 q4)))
    clear hk q1 q2 q3 q4 hk2 hk12
    go_wp2_with fail
    refine HE.out.mono ?_
    rintro e w5 ⟨rfl, k5⟩
    obtain ⟨R5, h5⟩ := H4.out.go k5
    have HF := Lib.hid (show PDo w B gp gg gr wd Rs (edL Ls r2 c2 4 a) (edR r2 4 a Ls.length) (edC c2 4 b wd) false (edU 4 a au) _ from by rw [HQ.out.1, HQ.out.2.1, HQ.out.2.2.1, HQ.out.2.2.2]; exact h5.done)
    clear k5 h5 x0 x1 x2 x3
    go_wp2
    go_ret
    exact ⟨(ret_eq (by first | rfl | (simp <;> omega))), HF.out⟩
  obtain rfl | hk5 : k = 5 ∨ k ≠ 5 := by omega
  · have HE := Lib.hid (echange_5 B gp gg gr wd Rs Ls r2 c2 false au a b bo bn bk W4 H4.out.1 HLR.out)
    obtain ⟨q1, q2, q3, q4⟩ := ed_5 Ls r2 c2 wd a b au
    have HQ := Lib.hid (And.intro q1 (And.intro q2 (And.intro q3 q4)))
    clear hk q1 q2 q3 q4 hk2 hk12
    go_wp2_with fail
    refine HE.out.mono ?_
    rintro e w5 ⟨rfl, k5⟩
    obtain ⟨R5, h5⟩ := H4.out.go k5
    have HF := Lib.hid (show PDo w B gp gg gr wd Rs (edL Ls r2 c2 5 a) (edR r2 5 a Ls.length) (edC c2 5 b wd) false (edU 5 a au) _ from by rw [HQ.out.1, HQ.out.2.1, HQ.out.2.2.1, HQ.out.2.2.2]; exact h5.done)
    clear k5 h5 x0 x1 x2 x3
    go_wp2
    go_ret
    exact ⟨(ret_eq (by first | rfl | (simp <;> omega))), HF.out⟩
  obtain rfl | hk6 : k = 6 ∨ k ≠ 6 := by omega
  · have HE := Lib.hid (echange_6 B gp gg gr wd Rs Ls r2 c2 false au a b bo bn bk W4 H4.out.1 HLR.out)
    obtain ⟨q1, q2, q3, q4⟩ := ed_6 Ls r2 c2 wd a b au
    have HQ := Lib.hid (And.intro q1 (And.intro q2 (And.intro q3 q4)))
    clear hk q1 q2 q3 q4 hk2 hk12
    go_wp2_with fail
    refine HE.out.mono ?_
    rintro e w5 ⟨rfl, k5⟩
    obtain ⟨R5, h5⟩ := H4.out.go k5
    have HF := Lib.hid (show PDo w B gp gg gr wd Rs (edL Ls r2 c2 6 a) (edR r2 6 a Ls.length) (edC c2 6 b wd) false (edU 6 a au) _ from by rw [HQ.out.1, HQ.out.2.1, HQ.out.2.2.1, HQ.out.2.2.2]; exact h5.done)
    clear k5 h5 x0 x1 x2 x3
    go_wp2
    go_ret
    exact ⟨(ret_eq (by first | rfl | (simp <;> omega))), HF.out⟩
  obtain rfl | hk7 : k = 7 ∨ k ≠ 7 := by omega
  · have HE := Lib.hid (echange_7 B gp gg gr wd Rs Ls r2 c2 false au a b bo bn bk W4 H4.out.1 HLR.out)
    obtain ⟨q1, q2, q3, q4⟩ := ed_7 Ls r2 c2 wd a b au
    have HQ := Lib.hid (And.intro q1 (And.intro q2 (And.intro q3 q4)))
    clear hk q1 q2 q3 q4 hk2 hk12
    go_wp2_with fail
    refine HE.out.mono ?_
    rintro e w5 ⟨rfl, k5⟩
    obtain ⟨R5, h5⟩ := H4.out.go k5
    have HF := Lib.hid (show PDo w B gp gg gr wd Rs (edL Ls r2 c2 7 a) (edR r2 7 a Ls.length) (edC c2 7 b wd) false (edU 7 a au) _ from by rw [HQ.out.1, HQ.out.2.1, HQ.out.2.2.1, HQ.out.2.2.2]; exact h5.done)
    clear k5 h5 x0 x1 x2 x3
    go_wp2
    go_ret
    exact ⟨(ret_eq (by first | rfl | (simp <;> omega))), HF.out⟩
  obtain rfl | hk8 : k = 8 ∨ k ≠ 8 := by omega
  · have HE := Lib.hid (emove_8 B gp gg gr wd Rs Ls r2 c2 false au a b bo bn bk W4 H4.out.1)
    obtain ⟨q1, q2, q3, q4⟩ := ed_8 Ls r2 c2 wd a b au
    have HQ := Lib.hid (And.intro q1 (And.intro q2 (And.intro q3 q4)))
    clear hk q1 q2 q3 q4 hk2 hk12
    go_wp2_with fail
    refine HE.out.mono ?_
    rintro e w5 ⟨rfl, k5⟩
    obtain ⟨R5, h5⟩ := H4.out.go k5
    have HF := Lib.hid (show PDo w B gp gg gr wd Rs (edL Ls r2 c2 8 a) (edR r2 8 a Ls.length) (edC c2 8 b wd) false (edU 8 a au) _ from by rw [HQ.out.1, HQ.out.2.1, HQ.out.2.2.1, HQ.out.2.2.2]; exact h5.done)
    clear k5 h5 x0 x1 x2 x3
    go_wp2
    go_ret
    exact ⟨(ret_eq (by first | rfl | (simp <;> omega))), HF.out⟩
  obtain rfl | hk9 : k = 9 ∨ k ≠ 9 := by omega
  · have HE := Lib.hid (emove_9 B gp gg gr wd Rs Ls r2 c2 false au a b bo bn bk W4 H4.out.1)
    obtain ⟨q1, q2, q3, q4⟩ := ed_9 Ls r2 c2 wd a b au
    have HQ := Lib.hid (And.intro q1 (And.intro q2 (And.intro q3 q4)))
    clear hk q1 q2 q3 q4 hk2 hk12
    go_wp2_with fail
    refine HE.out.mono ?_
    rintro e w5 ⟨rfl, k5⟩
    obtain ⟨R5, h5⟩ := H4.out.go k5
    have HF := Lib.hid (show PDo w B gp gg gr wd Rs (edL Ls r2 c2 9 a) (edR r2 9 a Ls.length) (edC c2 9 b wd) false (edU 9 a au) _ from by rw [HQ.out.1, HQ.out.2.1, HQ.out.2.2.1, HQ.out.2.2.2]; exact h5.done)
    clear k5 h5 x0 x1 x2 x3
    go_wp2
    go_ret
    exact ⟨(ret_eq (by first | rfl | (simp <;> omega))), HF.out⟩
  obtain rfl | hk10 : k = 10 ∨ k ≠ 10 := by omega
  · have HE := Lib.hid (emove_10 B gp gg gr wd Rs Ls r2 c2 false au a b bo bn bk W4 H4.out.1)
    obtain ⟨q1, q2, q3, q4⟩ := ed_10 Ls r2 c2 wd a b au
    have HQ := Lib.hid (And.intro q1 (And.intro q2 (And.intro q3 q4)))
    clear hk q1 q2 q3 q4 hk2 hk12
    go_wp2_with fail
    refine HE.out.mono ?_
    rintro e w5 ⟨rfl, k5⟩
    obtain ⟨R5, h5⟩ := H4.out.go k5
    have HF := Lib.hid (show PDo w B gp gg gr wd Rs (edL Ls r2 c2 10 a) (edR r2 10 a Ls.length) (edC c2 10 b wd) false (edU 10 a au) _ from by rw [HQ.out.1, HQ.out.2.1, HQ.out.2.2.1, HQ.out.2.2.2]; exact h5.done)
    clear k5 h5 x0 x1 x2 x3
    go_wp2
    go_ret
    exact ⟨(ret_eq (by first | rfl | (simp <;> omega))), HF.out⟩
  obtain rfl | hk11 : k = 11 ∨ k ≠ 11 := by omega
  · have HE := Lib.hid (emove_11 B gp gg gr wd Rs Ls r2 c2 false au a b bo bn bk W4 H4.out.1)
    obtain ⟨q1, q2, q3, q4⟩ := ed_11 Ls r2 c2 wd a b au
    have HQ := Lib.hid (And.intro q1 (And.intro q2 (And.intro q3 q4)))
    clear hk q1 q2 q3 q4 hk2 hk12
    go_wp2_with fail
    refine HE.out.mono ?_
    rintro e w5 ⟨rfl, k5⟩
    obtain ⟨R5, h5⟩ := H4.out.go k5
    have HF := Lib.hid (show PDo w B gp gg gr wd Rs (edL Ls r2 c2 11 a) (edR r2 11 a Ls.length) (edC c2 11 b wd) false (edU 11 a au) _ from by rw [HQ.out.1, HQ.out.2.1, HQ.out.2.2.1, HQ.out.2.2.2]; exact h5.done)
    clear k5 h5 x0 x1 x2 x3
    go_wp2
    go_ret
    exact ⟨(ret_eq (by first | rfl | (simp <;> omega))), HF.out⟩
  exfalso
  omega
end Go.Proofs.YtgndolgihplngaaGreatDoor
