/- The works of layer 27; a call of shift. -/
import Derived.Test.YtomfclkldmmmgaaDoorShfD
import Derived.Test.YtomfclkldmmmgaaDoorRowO
import Derived.Test.YtomfclkldmmmgaaDoorCellP
import Derived.Test.YtomfclkldmmmgaaDoorCellU
import Derived.Test.YtomfclkldmmmgaaDoorMarkF
import Derived.Test.YtomfclkldmmmgaaDoorFrame
namespace Go.Proofs.YtomfclkldmmmgaaDoor
open Go.RowKit Go.ChangeShapes Go.WideShapes
set_option maxRecDepth 100000 in
theorem sdo_any (B g gc : Nat) (L : List Cl) (wrap : Bool) (d : Bool) (a b : Int) (w : World) (h : RowAt (fun _ => True) w B g gc L wrap) : Calls Tryd.prog 42 #[.pointer (some ⟨g, 0, none⟩), .agg #[.bool d, .int .i64 a, .int .i64 b]] w (RowTurned (fun _ => True) w B g gc (if d then delA L wrap a b else insA L wrap a b).1 (if d then delA L wrap a b else insA L wrap a b).2) := by
  obtain ⟨W1, hW1⟩ : ∃ W1, W1 = w.alloc (.cells #[.bool d, .int .i64 a, .int .i64 b] 67) := ⟨_, rfl⟩
  have b1 : Below w.heap.size w W1 := by rw [hW1]; exact (Below.refl _ _).alloc (Nat.le_refl _) _
  have hr := h.below b1
  have HU := Lib.hid (Upd.ofBelow (S := fun b => b = g ∨ b = gc) b1)
  clear h b1
  cases d with
  | true =>
    have H := Lib.hid (sdel_any B g gc L wrap a b W1 hr)
    clear hr
    subst hW1
    go_enter Tryd.func42, Tryd.ntmps42
    go_wp2_with fail
    refine H.out.mono ?_
    rintro e w2 ⟨rfl, hr2, u2⟩
    have HE := Lib.hid (And.intro hr2 (HU.out.trans u2))
    clear hr2 u2
    go_wp2
    exact bodyPost_end (by kernel_rfl) rfl ⟨rfl, HE.out.1, HE.out.2⟩
  | false =>
    have H := Lib.hid (sins_any B g gc L wrap a b W1 hr)
    clear hr
    subst hW1
    go_enter Tryd.func42, Tryd.ntmps42
    go_wp2_with fail
    refine H.out.mono ?_
    rintro e w2 ⟨rfl, hr2, u2⟩
    have HE := Lib.hid (And.intro hr2 (HU.out.trans u2))
    clear hr2 u2
    go_wp2
    exact bodyPost_end (by kernel_rfl) rfl ⟨rfl, HE.out.1, HE.out.2⟩
set_option maxRecDepth 100000 in
theorem sdo_nil (d : Bool) (a b : Int) (w : World) : Calls Tryd.prog 42 #[.pointer none, .agg #[.bool d, .int .i64 a, .int .i64 b]] w fun e w' => e = .returned (.tuple #[]) ∧ Below w.heap.size w w' := by
  have HB := Lib.hid ((Below.refl w.heap.size w).alloc (Nat.le_refl _) (.cells #[.bool d, .int .i64 a, .int .i64 b] 67))
  cases d with
  | true =>
    go_enter Tryd.func42, Tryd.ntmps42
    go_wp2_with fail
    refine (sdel_nil _ _ _).mono ?_
    rintro e w' ⟨rfl, rfl⟩
    go_wp2
    exact bodyPost_end (by kernel_rfl) rfl ⟨rfl, HB.out⟩
  | false =>
    go_enter Tryd.func42, Tryd.ntmps42
    go_wp2_with fail
    refine (sins_nil _ _ _).mono ?_
    rintro e w' ⟨rfl, rfl⟩
    go_wp2
    exact bodyPost_end (by kernel_rfl) rfl ⟨rfl, HB.out⟩
set_option maxRecDepth 100000 in
set_option maxHeartbeats 3000000 in
theorem works27_any (w : World) : Calls Tryd.prog 39 #[] w (Yes w) := by
  obtain ⟨W1, hW1⟩ : ∃ W1, W1 = w.alloc (.cells #[.int .i32 97] 21) := ⟨_, rfl⟩
  obtain ⟨W2, hW2⟩ : ∃ W2, W2 = W1.alloc (.cells #[.int .i64 1, .slice (some ⟨w.heap.size, 0, none⟩) 1 1] 27) := ⟨_, rfl⟩
  obtain ⟨W3, hW3⟩ : ∃ W3, W3 = W2.alloc (.cells #[.int .i32 19968] 21) := ⟨_, rfl⟩
  have s1 : W1.heap.size = w.heap.size + 1 := by rw [hW1]; simp
  have s2 : W2.heap.size = w.heap.size + 2 := by rw [hW2]; simp [s1]
  have b1 : Below w.heap.size w W1 := by rw [hW1]; exact (Below.refl _ _).alloc (Nat.le_refl _) _
  have b2 : Below W1.heap.size W1 W2 := by rw [hW2]; exact (Below.refl _ _).alloc (Nat.le_refl _) _
  have b3 : Below W2.heap.size W2 W3 := by rw [hW3]; exact (Below.refl _ _).alloc (Nat.le_refl _) _
  have ht1 : HeldE (intE .i32) (fun b => b = w.heap.size) W1 (.slice (some ⟨w.heap.size, 0, none⟩) 1 1) [97] := by rw [hW1]; exact heldE_one (Y := fun _ => False) [.int .i32 97] 97 rfl (fun _ _ h => h.elim) rfl
  have ho2 : OwnE cellE (fun _ => True) W2 w.heap.size 27 (.slice (some ⟨w.heap.size + 1, 0, none⟩) 1 1) [(1, [97])] := by
    have := strip1_own (fun b => b = w.heap.size) W1 (B := w.heap.size) 1 _ [97] ht1 (by omega)
    rw [← hW2, s1] at this
    exact this.zone (fun _ _ _ => trivial)
  have ht3 : HeldE (intE .i32) (fun _ => True) W3 (.slice (some ⟨w.heap.size + 2, 0, none⟩) 1 1) [19968] := by rw [hW3, ← s2]; exact heldE_one (Y := fun _ => False) [.int .i32 19968] 19968 rfl (fun _ _ h => h.elim) trivial
  have HO := Lib.hid (rcof_new (fun b => b ≠ w.heap.size + 1) _ 2 _ [19968] W3 (fun b h => by have := b3.size; omega) ht3)
  rw [show ofC 2 [19968] = [(2, [19968]), (3, [])] from by decide] at HO
  have HO2 := Lib.hid (ho2.below b3)
  have HB := Lib.hid ((b1.trans (b2.mono b1.size)).trans (b3.mono (by omega)))
  have HS3 := Lib.hid (show w.heap.size + 2 ≤ W3.heap.size by have := b3.size; omega)
  subst hW3
  subst hW2
  subst hW1
  clear s1 s2 b1 b2 b3 ht1 ho2 ht3
  go_enter Tryd.func39, Tryd.ntmps39
  go_wp2_with fail
  refine HO.out.mono ?_
  rintro e w4 ⟨v4, rfl, ho4, b4⟩
  have HU := Lib.hid (show HeldE cellE (fun b => True ∧ (Value.slice (some ⟨w.heap.size + 1, 0, none⟩) 1 1).ownBlock ≠ some b) w4 v4 _ from (ho4.held (fun b h _ => by have := HS3.out; omega)).zone (fun b _ h => ⟨trivial, fun e => h (by simpa [Value.ownBlock] using e.symm)⟩))
  have HOX := Lib.hid (HO2.out.below b4)
  replace HB := Lib.hid (HB.out.trans (b4.mono HB.out.size))
  clear b4
  obtain ⟨ao4, c4, rfl⟩ := HU.out.len
  clear ho4 HO HO2
  go_wp2_with (at_builtin; refine wpList_append_e (E := cellE) (Z := fun _ => True) rfl (.tmp 6) (.tmp 8) 22 rfl (.agg #[.int .i64 0, .slice none 0 0]) 32 Tryd.underlying22 info_cell rfl (by decide) rfl rfl HOX.out HU.out (by simp) (by simp) HB.out.size ?_)
  intro v5 w5 ho5 b5 _ _
  have HH5 := Lib.hid (ho5.held (fun _ _ _ => trivial))
  replace HB := Lib.hid (HB.out.trans b5)
  have HP := Lib.hid (rof_ok _ _ _ _ HH5.out (by decide) (by decide) (by decide))
  obtain ⟨ao5, c5, rfl⟩ := HH5.out.len
  clear ho5 b5 HOX HU
  go_wp2_with fail
  refine HP.out.mono ?_
  rintro e w6 ⟨g, gc, rfl, hr6, b6⟩
  have hr6 := hr6.any
  have hlt := hr6.lt
  have HGL := Lib.hid (show w.heap.size ≤ g ∧ w.heap.size ≤ gc from by have := HB.out.size; omega)
  have HE := Lib.hid (sins_any _ g gc _ _ 0 1 w6 hr6)
  rw [show insA [(1, [97]), (2, [19968]), (3, [])] false 0 1 = ([zc, (1, [97]), zc], false) from by decide] at HE
  replace HB := Lib.hid (HB.out.trans (b6.mono HB.out.size))
  clear b6
  clear hr6 hlt HP
  go_wp2_with fail
  refine HE.out.mono ?_
  rintro e w7 ⟨rfl, hr7, u7⟩
  have HR7 := Lib.hid hr7
  replace HB := Lib.hid (HB.out.upd u7 HB.out.size (fun x e => by have := HGL.out; rcases e with e | e <;> omega))
  clear hr7 u7 HE
  go_wp2_with fail
  refine (rcells_any _ _ g gc _ _ _ HR7.out).mono ?_
  rintro e w8 ⟨v8, rfl, ho8, b8⟩
  have hh8 := ho8.held (fun b hb _ => hb)
  replace HB := Lib.hid (HB.out.trans (b8.mono HB.out.size))
  clear b8
  obtain ⟨X1, hX1⟩ : ∃ X1, X1 = w8.alloc (.cells #[.int .i32 97] 21) := ⟨_, rfl⟩
  have c1 : Below w8.heap.size w8 X1 := by rw [hX1]; exact (Below.refl _ _).alloc (Nat.le_refl _) _
  have t1 : HeldE (intE .i32) (fun _ => True) X1 (.slice (some ⟨w8.heap.size, 0, none⟩) 1 1) [97] := by rw [hX1]; exact heldE_one (Y := fun _ => False) [.int .i32 97] 97 rfl (fun _ _ h => h.elim) trivial
  have o2 := OwnE.lit (Z := fun _ => True) (B := 0) (ty := 27) X1 cellE [[.int .i64 0, .slice none 0 0], [.int .i64 1, .slice (some ⟨w8.heap.size, 0, none⟩) 1 1], [.int .i64 0, .slice none 0 0]] [zc, (1, [97]), zc] 3 rfl rfl (Nat.zero_le _) (by decide) (fun i hi => by
      match i, hi with
      | 0, _ => exact cell_rep.2 ⟨_, rfl, HeldE.nil _ _ _⟩
      | 1, _ => exact cell_rep.2 ⟨_, rfl, t1⟩
      | 2, _ => exact cell_rep.2 ⟨_, rfl, HeldE.nil _ _ _⟩) #[.int .i64 0, .slice none 0 0, .int .i64 1, .slice (some ⟨w8.heap.size, 0, none⟩) 1 1, .int .i64 0, .slice none 0 0] rfl
  obtain ⟨X2, hX2⟩ : ∃ X2, X2 = X1.alloc (.cells #[.int .i64 0, .slice none 0 0, .int .i64 1, .slice (some ⟨w8.heap.size, 0, none⟩) 1 1, .int .i64 0, .slice none 0 0] 27) := ⟨_, rfl⟩
  have c2 : Below X1.heap.size X1 X2 := by rw [hX2]; exact (Below.refl _ _).alloc (Nat.le_refl _) _
  rw [← hX2] at o2
  have h2 := o2.held (fun _ _ _ => trivial)
  have HS := Lib.hid (rcsame_any _ _ _ _ _ _ X2 ((hh8.below c1).below c2) h2)
  replace HB := Lib.hid ((HB.out.trans (c1.mono HB.out.size)).trans (c2.mono (Nat.le_trans HB.out.size c1.size)))
  have hsz : X1.heap.size = w8.heap.size + 1 := by rw [hX1]; simp
  rw [hsz] at HS
  rw [sameC_self] at HS
  subst hX2
  subst hX1
  clear ho8 hh8 c1 t1 o2 c2 h2 hsz
  go_wp2_with fail
  refine HS.out.mono ?_
  rintro e w9 ⟨rfl, b9⟩
  replace HB := Lib.hid (HB.out.trans (b9.mono HB.out.size))
  clear b9
  go_wp2
  go_ret
  exact ⟨(ret_eq (by first | rfl | (simp <;> omega))), HB.out⟩
end Go.Proofs.YtomfclkldmmmgaaDoor
