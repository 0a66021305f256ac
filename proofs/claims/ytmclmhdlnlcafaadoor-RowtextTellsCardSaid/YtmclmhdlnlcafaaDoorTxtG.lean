/- rowtext of nil; the works of layer 30. -/
import Derived.Test.YtmclmhdlnlcafaaDoorTxtF
import Derived.Test.YtmclmhdlnlcafaaDoorMg3
import Derived.Test.YtmclmhdlnlcafaaDoorCellP
import Derived.Test.YtmclmhdlnlcafaaDoorCellU
import Derived.Test.YtmclmhdlnlcafaaDoorMg1
import Derived.Test.YtmclmhdlnlcafaaDoorMg4
namespace Go.Proofs.YtmclmhdlnlcafaaDoor
open Go.RowKit Go.ChangeShapes Go.WideShapes
set_option maxRecDepth 100000 in
theorem rtplain_nil (w : World) : Calls Tryd.prog 19 #[.pointer none] w (Gives w (.slice none 0 0)) := by
  go_enter Tryd.func19, Tryd.ntmps19
  go_wp2_with fail
  refine (rcells_nil w).mono ?_
  rintro e w1 ⟨rfl, rfl⟩
  go_wp2_with fail
  refine (show Calls Tryd.prog 62 #[.slice none 0 0] w (Gives w (.int .i64 0)) from rused_any (fun _ => True) _ [] w (HeldE.nil _ _ _)).mono ?_
  rintro e w2 ⟨rfl, b2⟩
  have HB := Lib.hid b2
  clear b2
  go_wp2
  go_loopw [3, 14] (fun t i wr => t = .slice none 0 0 ∧ i = .int .i64 0 ∧ wr = w2) (fun _ _ _ => 0)
  case atStart => exact ⟨rfl, rfl, (by first | rfl | trivial)⟩
  case round =>
    obtain ⟨rfl, rfl, hww⟩ := hrel
    subst hww
    go_wp2
    go_ret
    exact ⟨(ret_eq (by first | rfl | (simp <;> omega))), HB.out⟩
set_option maxRecDepth 100000 in
theorem rtfind_nil (Y : Zone) (u : Value) (T : List Int) (w : World) (hu : HeldE (intE .i32) Y w u T) : Calls Tryd.prog 23 #[.pointer none, u] w (Gives w (.int .i64 (-1))) := by
  obtain ⟨ua, uc, rfl⟩ := hu.len
  have hum := hu.max
  clear hu
  by_cases hT : T.length = 0
  · have hz : ((T.length : Int) == 0) = true := by rw [beq_iff_eq]; omega
    clear hT
    go_enter Tryd.func23, Tryd.ntmps23
    go_wp2
    go_ret
    exact ⟨(ret_eq (by first | rfl | (simp <;> omega))), Below.refl _ _⟩
  · have hz : ((T.length : Int) == 0) = false := by rw [beq_eq_false_iff_ne]; omega
    clear hT
    go_enter Tryd.func23, Tryd.ntmps23
    go_wp2_with fail
    refine (rcells_nil w).mono ?_
    rintro e w1 ⟨rfl, rfl⟩
    go_wp2
    go_loopw [14] (fun i wr => i = .int .i64 0 ∧ wr = w) (fun _ _ => 0)
    case atStart => exact ⟨rfl, (by first | rfl | trivial)⟩
    case round =>
      obtain ⟨rfl, hww⟩ := hrel
      subst hww
      go_wp2
      go_ret
      exact ⟨(ret_eq (by first | rfl | (simp <;> omega))), Below.refl _ _⟩
set_option maxRecDepth 100000 in
set_option maxHeartbeats 3000000 in
theorem works30_any (w : World) : Calls Tryd.prog 13 #[] w (Yes w) := by
  obtain ⟨W1, hW1⟩ : ∃ W1, W1 = w.alloc (.cells #[.int .i32 97] 21) := ⟨_, rfl⟩
  obtain ⟨W2, hW2⟩ : ∃ W2, W2 = W1.alloc (.cells #[.int .i64 1, .slice (some ⟨w.heap.size, 0, none⟩) 1 1, .int .i64 0, .slice none 0 0] 40) := ⟨_, rfl⟩
  obtain ⟨W3, hW3⟩ : ∃ W3, W3 = W2.alloc (.cells #[.int .i32 19968] 21) := ⟨_, rfl⟩
  have s1 : W1.heap.size = w.heap.size + 1 := by rw [hW1]; simp
  have s2 : W2.heap.size = w.heap.size + 2 := by rw [hW2]; simp [s1]
  have b1 : Below w.heap.size w W1 := by rw [hW1]; exact (Below.refl _ _).alloc (Nat.le_refl _) _
  have b2 : Below W1.heap.size W1 W2 := by rw [hW2]; exact (Below.refl _ _).alloc (Nat.le_refl _) _
  have b3 : Below W2.heap.size W2 W3 := by rw [hW3]; exact (Below.refl _ _).alloc (Nat.le_refl _) _
  have ht1 : HeldE (intE .i32) (fun b => b = w.heap.size) W1 (.slice (some ⟨w.heap.size, 0, none⟩) 1 1) [97] := by rw [hW1]; exact heldE_one (Y := fun _ => False) [.int .i32 97] 97 rfl (fun _ _ h => h.elim) rfl
  have ho2 : OwnE cellE (fun _ => True) W2 w.heap.size 40 (.slice (some ⟨w.heap.size + 1, 0, none⟩) 2 2) [(1, [97]), zc] := by
    have := OwnE.lit (Z := fun _ => True) (B := w.heap.size) (ty := 40) W1 cellE [[.int .i64 1, .slice (some ⟨w.heap.size, 0, none⟩) 1 1], [.int .i64 0, .slice none 0 0]] [(1, [97]), zc] 2 rfl rfl (by omega) (by decide) (fun i hi => by
      match i, hi with
      | 0, _ => exact cell_rep.2 ⟨_, rfl, ht1.zone (fun _ _ _ => trivial)⟩
      | 1, _ => exact cell_rep.2 ⟨_, rfl, HeldE.nil _ _ _⟩) #[.int .i64 1, .slice (some ⟨w.heap.size, 0, none⟩) 1 1, .int .i64 0, .slice none 0 0] rfl
    rw [← hW2, s1] at this
    exact this
  have ht3 : HeldE (intE .i32) (fun _ => True) W3 (.slice (some ⟨w.heap.size + 2, 0, none⟩) 1 1) [19968] := by rw [hW3, ← s2]; exact heldE_one (Y := fun _ => False) [.int .i32 19968] 19968 rfl (fun _ _ h => h.elim) trivial
  have HO := Lib.hid (rcof_new (fun b => b ≠ w.heap.size + 1) _ 2 _ [19968] W3 (fun b h => by have := b3.size; omega) ht3)
  rw [show ofC 2 [19968] = [(2, [19968]), (3, [])] from by decide] at HO
  have HO2 := Lib.hid (ho2.below b3)
  have HB := Lib.hid ((b1.trans (b2.mono b1.size)).trans (b3.mono (by omega)))
  have HS3 := Lib.hid (show w.heap.size + 2 ≤ W3.heap.size by have := b3.size; omega)
  subst hW3
  subst hW2
  subst hW1
  clear s1 s2 b1 b2 b3 ht1 ho2 ht3
  go_enter Tryd.func13, Tryd.ntmps13
  go_wp2_with fail
  refine HO.out.mono ?_
  rintro e w4 ⟨v4, rfl, ho4, b4⟩
  have HU := Lib.hid (show HeldE cellE (fun b => True ∧ (Value.slice (some ⟨w.heap.size + 1, 0, none⟩) 2 2).ownBlock ≠ some b) w4 v4 _ from (ho4.held (fun b h _ => by have := HS3.out; omega)).zone (fun b _ h => ⟨trivial, fun e => h (by simpa [Value.ownBlock] using e.symm)⟩))
  have HOX := Lib.hid (HO2.out.below b4)
  replace HB := Lib.hid (HB.out.trans (b4.mono HB.out.size))
  clear b4
  obtain ⟨ao4, c4, rfl⟩ := HU.out.len
  clear ho4 HO HO2
  go_wp2_with (at_builtin; refine wpList_append_e (E := cellE) (Z := fun _ => True) rfl (.tmp 7) (.tmp 9) 22 rfl (.agg #[.int .i64 0, .slice none 0 0]) 32 Tryd.underlying22 info_cell rfl (by decide) rfl rfl HOX.out HU.out (by simp) (by simp) HB.out.size ?_)
  intro v5 w5 ho5 b5 _ _
  have HH5 := Lib.hid (ho5.held (fun _ _ _ => trivial))
  replace HB := Lib.hid (HB.out.trans b5)
  have HP := Lib.hid (rof_ok _ _ _ _ HH5.out (by decide) (by decide) (by decide))
  obtain ⟨ao5, c5, rfl⟩ := HH5.out.len
  clear ho5 b5 HOX HU
  go_wp2_with fail
  refine HP.out.mono ?_
  rintro e w6 ⟨g, gc, rfl, hr6, b6⟩
  have hr6 := hr6.any
  have hlt := hr6.lt
  have HGL := Lib.hid (show w.heap.size ≤ g ∧ w.heap.size ≤ gc from by have := HB.out.size; omega)
  have R := Lib.hid hr6
  replace HB := Lib.hid (HB.out.trans (b6.mono HB.out.size))
  clear b6
  clear hr6 hlt HP
  have HP6 := Lib.hid (rplain_any _ _ g gc _ _ w6 R.out (by decide))
  rw [show plainL (([(1, [97]), zc, (2, [19968]), (3, [])] : List Cl).take (usedTo [(1, [97]), zc, (2, [19968]), (3, [])] ([(1, [97]), zc, (2, [19968]), (3, [])] : List Cl).length)) = [97, 32, 19968] from by decide] at HP6
  go_wp2_with fail
  refine HP6.out.mono ?_
  rintro e w7 ⟨v7, rfl, ho7, b7⟩
  have hh7 := ho7.heldInts
  replace HB := Lib.hid (HB.out.trans (b7.mono HB.out.size))
  replace R := Lib.hid (R.out.below b7)
  clear b7
  obtain ⟨X1, hX1⟩ : ∃ X1, X1 = w7.alloc (.cells #[.int .i32 97, .int .i32 32, .int .i32 19968] 21) := ⟨_, rfl⟩
  have c1 : Below w7.heap.size w7 X1 := by rw [hX1]; exact (Below.refl _ _).alloc (Nat.le_refl _) _
  have t1 : Held .i32 X1 (.slice (some ⟨w7.heap.size, 0, none⟩) 3 3) [97, 32, 19968] := by rw [hX1]; exact held_new .i32 w7 [.int .i32 97, .int .i32 32, .int .i32 19968] 21 3 3 [97, 32, 19968] rfl rfl
  have HS := Lib.hid (same_any _ _ _ _ X1 (hh7.below c1).ints t1 (by decide))
  rw [show sameB [97, 32, 19968] [97, 32, 19968] = true from by decide] at HS
  replace HB := Lib.hid (HB.out.trans (c1.mono HB.out.size))
  replace R := Lib.hid (R.out.below c1)
  clear c1
  subst hX1
  clear ho7 hh7 t1 HP6
  go_wp2_with fail
  refine HS.out.mono ?_
  rintro e w8 ⟨rfl, b8⟩
  replace HB := Lib.hid (HB.out.trans (b8.mono HB.out.size))
  replace R := Lib.hid (R.out.below b8)
  clear b8
  go_wp2_with fail
  refine (show Calls Tryd.prog 21 _ w8 (Gives w8 (.int .i64 4)) from rowused_any _ _ g gc _ _ w8 R.out).mono ?_
  rintro e w9 ⟨rfl, b9⟩
  replace HB := Lib.hid (HB.out.trans (b9.mono HB.out.size))
  replace R := Lib.hid (R.out.below b9)
  clear b9
  obtain ⟨X2, hX2⟩ : ∃ X2, X2 = w9.alloc (.cells #[.int .i32 19968] 21) := ⟨_, rfl⟩
  have c2 : Below w9.heap.size w9 X2 := by rw [hX2]; exact (Below.refl _ _).alloc (Nat.le_refl _) _
  have t2 : HeldE (intE .i32) (fun _ => True) X2 (.slice (some ⟨w9.heap.size, 0, none⟩) 1 1) [19968] := by rw [hX2]; exact heldE_one (Y := fun _ => False) [.int .i32 19968] 19968 rfl (fun _ _ h => h.elim) trivial
  replace HB := Lib.hid (HB.out.trans (c2.mono HB.out.size))
  replace R := Lib.hid (R.out.below c2)
  clear c2
  have HFN := Lib.hid (rfind_any _ _ _ g gc _ _ _ [19968] X2 R.out t2)
  rw [show findL [(1, [97]), zc, (2, [19968]), (3, [])] [19968] = 2 from by decide] at HFN
  subst hX2
  clear t2 HS
  go_wp2_with fail
  refine HFN.out.mono ?_
  rintro e wa ⟨rfl, ba⟩
  replace HB := Lib.hid (HB.out.trans (ba.mono HB.out.size))
  replace R := Lib.hid (R.out.below ba)
  clear ba
  go_wp2_with fail
  refine (rused_nil wa).mono ?_
  rintro e wb ⟨rfl, bb⟩
  replace HB := Lib.hid (HB.out.trans (bb.mono HB.out.size))
  clear bb
  go_wp2_with fail
  refine (rtplain_nil wb).mono ?_
  rintro e wc ⟨rfl, bc⟩
  replace HB := Lib.hid (HB.out.trans (bc.mono HB.out.size))
  clear bc
  go_wp2
  go_ret
  exact ⟨(ret_eq (by first | rfl | (simp <;> omega))), HB.out⟩
end Go.Proofs.YtmclmhdlnlcafaaDoor
