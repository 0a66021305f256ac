/- The works of layer 24. -/
import Derived.Test.YtfkeeigaocmalaaDoorRowQ
import Derived.Test.YtfkeeigaocmalaaDoorRowO
import Derived.Test.YtfkeeigaocmalaaDoorFrame
namespace Go.Proofs.YtfkeeigaocmalaaDoor
open Go.RowKit Go.ChangeShapes Go.WideShapes
set_option maxRecDepth 100000 in
set_option maxHeartbeats 3000000 in
theorem works24_any (w : World) : Calls Tryd.prog 9 #[] w (Yes w) := by
  have HN := Lib.hid (rnew_any (fun _ => True) 3 w)
  rw [show List.replicate (rowN 3) zc = [zc, zc, zc] from by decide] at HN
  go_enter Tryd.func9, Tryd.ntmps9
  go_wp2_with fail
  refine HN.out.mono ?_
  rintro e w1 ⟨g, gc, rfl, hr1, b1⟩
  have HR1 := Lib.hid hr1
  have HB1 := Lib.hid b1
  have hlt := hr1.lt
  have HGL := Lib.hid hlt
  obtain ⟨W2, hW2⟩ : ∃ W2, W2 = (w1.alloc (.cells #[.int .i32 19968] 21)).alloc (.cells #[.int .i64 2, .slice (some ⟨w1.heap.size, 0, none⟩) 1 1, .int .i64 3, .slice none 0 0] 37) := ⟨_, rfl⟩
  have b2 : Below w1.heap.size w1 W2 := by rw [hW2]; exact ((Below.refl _ _).alloc (Nat.le_refl _) _).alloc (by simp) _
  have ht : HeldE (intE .i32) (fun b => b ≠ g ∧ b ≠ gc) (w1.alloc (.cells #[.int .i32 19968] 21)) (.slice (some ⟨w1.heap.size, 0, none⟩) 1 1) [19968] := heldE_one (Y := fun _ => False) [.int .i32 19968] 19968 rfl (fun _ _ h => h.elim) ⟨by omega, by omega⟩
  have hp : HeldE cellE (fun b => b ≠ g ∧ b ≠ gc) W2 (.slice (some ⟨w1.heap.size + 1, 0, none⟩) 2 2) [(2, [19968]), (3, [])] := by
    have := (strip2_own (fun b => b ≠ g ∧ b ≠ gc) _ (B := w1.heap.size + 1) 2 3 _ [19968] ht (by simp)).held (fun b hb _ => ⟨by omega, by omega⟩)
    rw [hW2]
    simpa using this
  have HP := Lib.hid (rpaint_ok (fun _ => True) _ w.heap.size g gc [zc, zc, zc] [(2, [19968]), (3, [])] false _ W2 (hr1.below b2) hp (fun _ h => h) (fun _ _ => trivial) 0 (by decide) (by decide) (by decide))
  rw [show paintL [zc, zc, zc] [(2, [19968]), (3, [])] 0 = [(2, [19968]), (3, []), zc] from by decide, show lastHit [zc, zc, zc] [(2, [19968]), (3, [])] 0 = false from by decide] at HP
  have HBW2 := Lib.hid (HB1.out.trans (b2.mono HB1.out.size))
  clear hr1 b1 hlt ht hp b2
  subst hW2
  go_wp2_with fail
  refine HP.out.mono ?_
  rintro e w3 ⟨rfl, hr3, u3⟩
  have HR3 := Lib.hid hr3
  have HB3 := Lib.hid (HBW2.out.upd u3 HBW2.out.size (fun x e => by have := HGL.out; rcases e with e | e <;> omega))
  have hlt := hr3.lt
  obtain ⟨W4, hW4⟩ : ∃ W4, W4 = (w3.alloc (.cells #[.int .i32 97] 21)).alloc (.cells #[.int .i64 1, .slice (some ⟨w3.heap.size, 0, none⟩) 1 1] 37) := ⟨_, rfl⟩
  have b4 : Below w3.heap.size w3 W4 := by rw [hW4]; exact ((Below.refl _ _).alloc (Nat.le_refl _) _).alloc (by simp) _
  have ht : HeldE (intE .i32) (fun b => b ≠ g ∧ b ≠ gc) (w3.alloc (.cells #[.int .i32 97] 21)) (.slice (some ⟨w3.heap.size, 0, none⟩) 1 1) [97] := heldE_one (Y := fun _ => False) [.int .i32 97] 97 rfl (fun _ _ h => h.elim) ⟨by omega, by omega⟩
  have hp : HeldE cellE (fun b => b ≠ g ∧ b ≠ gc) W4 (.slice (some ⟨w3.heap.size + 1, 0, none⟩) 1 1) [(1, [97])] := by
    have := (strip1_own (fun b => b ≠ g ∧ b ≠ gc) _ (B := w3.heap.size + 1) 1 _ [97] ht (by simp)).held (fun b hb _ => ⟨by omega, by omega⟩)
    rw [hW4]
    simpa using this
  have HP2 := Lib.hid (rpaint_ok (fun _ => True) _ w.heap.size g gc _ [(1, [97])] _ _ W4 (hr3.below b4) hp (fun _ h => h) (fun _ _ => trivial) 1 (by decide) (by decide) (by decide))
  rw [show paintL [(2, [19968]), (3, []), zc] [(1, [97])] 1 = [zc, (1, [97]), zc] from by decide] at HP2
  have HBW4 := Lib.hid (HB3.out.trans (b4.mono HB3.out.size))
  clear hr3 hlt ht hp b4 u3
  subst hW4
  go_wp2_with fail
  refine HP2.out.mono ?_
  rintro e w5 ⟨rfl, hr5, u5⟩
  have HR5 := Lib.hid hr5
  have HB5 := Lib.hid (HBW4.out.upd u5 HBW4.out.size (fun x e => by have := HGL.out; rcases e with e | e <;> omega))
  clear hr5 u5
  go_wp2_with fail
  refine (rcell_in _ _ g gc _ _ 0 w5 HR5.out (by decide)).mono ?_
  rintro e w6 ⟨tv, rfl, h6, b6⟩
  rw [show ([zc, (1, [97]), zc] : List Cl).getD 0 zc = zc from rfl] at h6 ⊢
  have HR6 := Lib.hid (HR5.out.below b6)
  have HB6 := Lib.hid (HB5.out.trans (b6.mono HB5.out.size))
  obtain ⟨a6, c6, rfl⟩ := h6.len
  clear h6 b6
  simp only [List.length_nil]
  have hba := (Below.refl w6.heap.size w6).alloc (Nat.le_refl _) (.cells #[.int .i64 0, .slice a6 0 c6] 37)
  have HRA := Lib.hid (HR6.out.below hba)
  have HBA := Lib.hid (HB6.out.trans (hba.mono HB6.out.size))
  clear hba
  go_wp2_with fail
  refine (rwide_any _ _ g gc _ _ _ HRA.out).mono ?_
  rintro e w7 ⟨rfl, rfl⟩
  go_wp2_with fail
  refine (rcells_any _ _ g gc _ _ _ HRA.out).mono ?_
  rintro e w8 ⟨v8, rfl, ho8, b8⟩
  obtain ⟨g8, c8, rfl, _, _⟩ := ho8.some (by decide)
  have HB8 := Lib.hid (HBA.out.trans (b8.mono HBA.out.size))
  clear ho8 b8
  go_wp2
  go_ret
  exact ⟨(ret_eq (by first | rfl | (simp <;> omega))), HB8.out⟩
end Go.Proofs.YtfkeeigaocmalaaDoor
