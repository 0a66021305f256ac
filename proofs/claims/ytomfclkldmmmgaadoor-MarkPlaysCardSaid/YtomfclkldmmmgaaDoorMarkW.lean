/- The works of layer 25. -/
import Derived.Test.YtomfclkldmmmgaaDoorMarkF
import Derived.Test.YtomfclkldmmmgaaDoorCellU
import Derived.Test.YtomfclkldmmmgaaDoorRowO
import Derived.Test.YtomfclkldmmmgaaDoorFrame
namespace Go.Proofs.YtomfclkldmmmgaaDoor
open Go.RowKit Go.ChangeShapes Go.WideShapes
set_option maxRecDepth 100000 in
set_option maxHeartbeats 3000000 in
theorem works25_any (w : World) : Calls Tryd.prog 21 #[] w (Yes w) := by
  have HN := Lib.hid (rnew_any (fun _ => True) 4 w)
  rw [show List.replicate (rowN 4) zc = [zc, zc, zc, zc] from by decide] at HN
  go_enter Tryd.func21, Tryd.ntmps21
  go_wp2_with fail
  refine HN.out.mono ?_
  rintro e w1 ⟨g, gc, rfl, hr1, b1⟩
  have hlt := hr1.lt
  have HGL := Lib.hid (show w.heap.size ≤ g ∧ w.heap.size ≤ gc from by omega)
  obtain ⟨W2, hW2⟩ : ∃ W2, W2 = w1.alloc (.cells #[.int .i32 10084] 21) := ⟨_, rfl⟩
  have b2 : Below w1.heap.size w1 W2 := by rw [hW2]; exact (Below.refl _ _).alloc (Nat.le_refl _) _
  have ht : HeldE (intE .i32) (fun _ => True) W2 (.slice (some ⟨w1.heap.size, 0, none⟩) 1 1) [10084] := by rw [hW2]; exact heldE_one (Y := fun _ => False) [.int .i32 10084] 10084 rfl (fun _ _ h => h.elim) trivial
  have HP := Lib.hid (mput_good _ _ g gc _ _ 0 1 _ _ W2 (hr1.below b2) ht (by decide))
  rw [show paintL [zc, zc, zc, zc] (ofC 1 [10084]) (Int.toNat 0) = [(1, [10084]), zc, zc, zc] from by decide] at HP
  simp only [Bool.false_and] at HP
  have HB := Lib.hid (b1.trans (b2.mono b1.size))
  subst hW2
  clear hr1 b1 hlt b2 ht
  go_wp2_with fail
  refine HP.out.mono ?_
  rintro e w3 ⟨rfl, hr3, u3⟩
  have HB3 := Lib.hid (HB.out.upd u3 HB.out.size (fun x e => by have := HGL.out; rcases e with e | e <;> omega))
  have HWd := Lib.hid (mwid_any _ g gc _ _ 0 w3 hr3)
  rw [show widL [(1, [10084]), zc, zc, zc] false 0 = ([(2, [10084]), (3, []), zc, zc], false, true) from by decide] at HWd
  clear hr3 u3
  go_wp2_with fail
  refine HWd.out.mono ?_
  rintro e w4 ⟨rfl, hr4, u4⟩
  have HB4 := Lib.hid (HB3.out.upd u4 HB3.out.size (fun x e => by have := HGL.out; rcases e with e | e <;> omega))
  have HA := Lib.hid (madd_any _ g gc _ _ 1 65039 w4 hr4)
  rw [show addL ([(2, [10084]), (3, []), zc, zc], false, true).1 ([(2, [10084]), (3, []), zc, zc], false, true).2.1 1 65039 = ([(2, [10084, 65039]), (3, []), zc, zc], false, true) from by decide] at HA
  clear hr4 u4
  go_wp2_with fail
  refine HA.out.mono ?_
  rintro e w5 ⟨rfl, hr5, u5⟩
  have HB5 := Lib.hid (HB4.out.upd u5 HB4.out.size (fun x e => by have := HGL.out; rcases e with e | e <;> omega))
  have HR5 := Lib.hid hr5
  clear hr5 u5
  go_wp2_with fail
  refine (rcells_any _ _ g gc _ _ _ HR5.out).mono ?_
  rintro e w6 ⟨v6, rfl, ho6, b6⟩
  have HB6 := Lib.hid (HB5.out.trans (b6.mono HB5.out.size))
  have hh6 := ho6.held (fun b hb _ => hb)
  obtain ⟨W7, hW7⟩ : ∃ W7, W7 = w6.alloc (.cells #[.int .i32 10084, .int .i32 65039] 21) := ⟨_, rfl⟩
  have b7 : Below w6.heap.size w6 W7 := by rw [hW7]; exact (Below.refl _ _).alloc (Nat.le_refl _) _
  have ht7 : HeldE (intE .i32) (fun _ => True) W7 (.slice (some ⟨w6.heap.size, 0, none⟩) 2 2) [10084, 65039] := by
    rw [hW7]
    exact (OwnE.lit (Z := fun _ => True) (B := 0) w6 (intE .i32) [[.int .i32 10084], [.int .i32 65039]] [10084, 65039] 2 rfl rfl (Nat.zero_le _) (by decide) (fun i hi => by
      match i, hi with
      | 0, _ => rfl
      | 1, _ => rfl) _ rfl).held (fun _ _ _ => trivial)
  have ho8 := OwnE.lit (Z := fun _ => True) (B := 0) (ty := 27) W7 cellE [[.int .i64 2, .slice (some ⟨w6.heap.size, 0, none⟩) 2 2], [.int .i64 3, .slice none 0 0], [.int .i64 0, .slice none 0 0], [.int .i64 0, .slice none 0 0]] [(2, [10084, 65039]), (3, []), zc, zc] 4 rfl rfl (Nat.zero_le _) (by decide) (fun i hi => by
      match i, hi with
      | 0, _ => exact cell_rep.2 ⟨_, rfl, ht7⟩
      | 1, _ => exact cell_rep.2 ⟨_, rfl, HeldE.nil _ _ _⟩
      | 2, _ => exact cell_rep.2 ⟨_, rfl, HeldE.nil _ _ _⟩
      | 3, _ => exact cell_rep.2 ⟨_, rfl, HeldE.nil _ _ _⟩) #[.int .i64 2, .slice (some ⟨w6.heap.size, 0, none⟩) 2 2, .int .i64 3, .slice none 0 0, .int .i64 0, .slice none 0 0, .int .i64 0, .slice none 0 0] rfl
  obtain ⟨W8, hW8⟩ : ∃ W8, W8 = W7.alloc (.cells #[.int .i64 2, .slice (some ⟨w6.heap.size, 0, none⟩) 2 2, .int .i64 3, .slice none 0 0, .int .i64 0, .slice none 0 0, .int .i64 0, .slice none 0 0] 27) := ⟨_, rfl⟩
  have b8 : Below W7.heap.size W7 W8 := by rw [hW8]; exact (Below.refl _ _).alloc (Nat.le_refl _) _
  rw [← hW8] at ho8
  have hh8 := ho8.held (fun _ _ _ => trivial)
  have HS := Lib.hid (rcsame_any _ _ _ _ _ _ W8 ((hh6.below b7).below b8) hh8)
  have HB8 := Lib.hid ((HB6.out.trans (b7.mono HB6.out.size)).trans (b8.mono (Nat.le_trans HB6.out.size b7.size)))
  have hsz : W7.heap.size = w6.heap.size + 1 := by rw [hW7]; simp
  rw [hsz] at HS
  rw [sameC_self] at HS
  subst hW8
  subst hW7
  clear ho6 b6 hh6 b7 ht7 ho8 b8 hh8 hsz
  go_wp2_with fail
  refine HS.out.mono ?_
  rintro e w9 ⟨rfl, b9⟩
  have HB9 := Lib.hid (HB8.out.trans (b9.mono HB8.out.size))
  clear b9
  go_wp2
  go_ret
  exact ⟨(ret_eq (by first | rfl | (simp <;> omega))), HB9.out⟩
end Go.Proofs.YtomfclkldmmmgaaDoor
