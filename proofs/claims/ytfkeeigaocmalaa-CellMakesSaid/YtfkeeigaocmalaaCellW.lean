/- The works of layer 23. -/
import Derived.Test.YtfkeeigaocmalaaCellP
import Derived.Test.YtfkeeigaocmalaaFrame
import Derived.Test.YtfkeeigaocmalaaRows
namespace Go.Proofs.Ytfkeeigaocmalaa
open Go.RowKit Go.ChangeShapes Go.WideShapes
set_option maxRecDepth 100000 in
set_option maxHeartbeats 1600000 in
theorem works23_any (w : World) : Calls Try.prog 14 #[] w (Yes w) := by
  have hh : HeldE (intE .i32) (fun _ => True) (w.alloc (.cells #[.int .i32 19968] 21)) (.slice (some ⟨w.heap.size, 0, none⟩) 1 1) [19968] := heldE_one (Y := fun _ => False) [.int .i32 19968] 19968 rfl (fun _ _ h => h.elim) trivial
  have HO := Lib.hid (cof_any (fun _ => True) (fun _ => True) (fun _ => trivial) 2 _ [19968] _ hh)
  have hof : ofC 2 [19968] = [(2, [19968]), (3, [])] := by decide
  rw [hof] at HO
  have HB0 := Lib.hid ((Below.refl w.heap.size w).alloc (Nat.le_refl _) (.cells #[.int .i32 19968] 21))
  clear hh hof
  go_enter Try.func14, Try.ntmps14
  go_wp2_with fail
  refine HO.out.mono ?_
  rintro e w1 ⟨v1, rfl, ho1, hb1⟩
  have hh := ho1.held (fun _ _ _ => trivial)
  have HB1 := Lib.hid (HB0.out.trans (hb1.mono HB0.out.size))
  have HH := Lib.hid hh
  obtain ⟨a1, c1, rfl⟩ := hh.len
  obtain ⟨_, _, hc⟩ := cells_at hh
  obtain ⟨b, off, tv, rfl, hb, _, c00, c01, ht⟩ := hc 0 (by decide)
  obtain ⟨b', off', tu, e', _, _, c10, c11, hu⟩ := hc 1 (by decide)
  cases e'
  have HT := Lib.hid ht
  have HU := Lib.hid hu
  have HC := Lib.hid (show ∀ w2, Below w1.heap.size w1 w2 → w2.cell? ⟨b, off, none⟩ = some (.int .i64 2) ∧ w2.cell? ⟨b, off + 1, none⟩ = some tv ∧ w2.cell? ⟨b, off + 2, none⟩ = some (.int .i64 3) ∧ w2.cell? ⟨b, off + 2 + 1, none⟩ = some tu from fun w2 h =>
    ⟨(h.cell (p := ⟨b, off, none⟩) hb).trans c00, (h.cell (p := ⟨b, off + 1, none⟩) hb).trans c01, (h.cell (p := ⟨b, off + 2, none⟩) hb).trans c10, (h.cell (p := ⟨b, off + 2 + 1, none⟩) hb).trans c11⟩)
  clear hc c00 c01 c10 c11 ht hu hh ho1 hb1 hb HO
  obtain ⟨q0, q1, q2, q3⟩ := HC.out w1 (Below.refl _ _)
  go_wp2_with fail
  refine (sound_any _ _ _ _ HH.out).mono ?_
  rintro e w2 ⟨rfl, b2⟩
  clear q0 q1 q2 q3
  obtain ⟨q0, q1, q2, q3⟩ := HC.out w2 b2
  rw [show soundB [(2, [19968]), (3, [])] = true from by decide]
  have B2 := Lib.hid b2
  clear b2
  go_wp2_with fail
  refine (sound_any _ _ _ _ ((strip1_own (fun _ => True) w2 3 tu [] (HU.out.below B2.out) (Nat.le_refl _)).held (fun _ _ _ => trivial))).mono ?_
  rintro e w3 ⟨rfl, b3⟩
  have B3 := Lib.hid (B2.out.trans ((((Below.refl w2.heap.size w2).alloc (Nat.le_refl _) _).trans (b3.mono (by simp))).mono B2.out.size))
  rw [show soundB [(3, [])] = false from by decide]
  clear q0 q1 q2 q3 b3
  obtain ⟨q0, q1, q2, q3⟩ := HC.out w3 B3.out
  go_wp2_with fail
  refine (sound_any _ _ _ _ ((strip1_own (fun _ => True) w3 2 tv [19968] (HT.out.below B3.out) (Nat.le_refl _)).held (fun _ _ _ => trivial))).mono ?_
  rintro e w4 ⟨rfl, b4⟩
  have B4 := Lib.hid (B3.out.trans ((((Below.refl w3.heap.size w3).alloc (Nat.le_refl _) _).trans (b4.mono (by simp))).mono B3.out.size))
  rw [show soundB [(2, [19968])] = false from by decide]
  clear q0 q1 q2 q3 b4
  go_wp2_with fail
  refine (blanks_any (fun _ => True) 3 _).mono ?_
  rintro e w5 ⟨v5, rfl, ho5, b5⟩
  rw [show blankN 3 = 3 from by decide] at ho5
  obtain ⟨a5, c5, rfl⟩ := (ho5.held (fun _ _ _ => trivial)).len
  have B5 := Lib.hid (B4.out.trans (b5.mono B4.out.size))
  clear ho5 b5
  simp only [List.length_replicate]
  go_wp2_with fail
  refine (right_any 0 _ [] _ (Held.nil _ _) (by decide)).mono ?_
  rintro e w6 ⟨rfl, b6⟩
  rw [show rightB (0, []) = true from by decide]
  have B6 := Lib.hid (HB1.out.trans ((B5.out.trans (b6.mono B5.out.size)).mono HB1.out.size))
  clear b6
  go_wp2
  go_ret
  exact ⟨(ret_eq (by first | rfl | (simp <;> omega))), B6.out⟩
end Go.Proofs.Ytfkeeigaocmalaa
