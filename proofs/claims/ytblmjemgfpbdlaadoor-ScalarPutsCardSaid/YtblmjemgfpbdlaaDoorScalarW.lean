import Derived.Test.YtblmjemgfpbdlaaDoorScalarP
import Derived.Test.YtblmjemgfpbdlaaDoorFrame
namespace Go.Proofs.YtblmjemgfpbdlaaDoor
open Go.RowKit


set_option maxRecDepth 100000 in
theorem works_any (w : World) : Calls Tryd.prog 13 #[] w (Yes w) := by
  have hput := put_ok (.slice (some ⟨w.heap.size, 0, none⟩) 2 2) [97, 8364] (w.alloc (.cells [Value.int .i32 97, .int .i32 8364].toArray 21)) (held_new .i32 w _ _ 2 2 _ rfl rfl) (fun i hi => by
      match i, hi with
      | 0, _ => decide
      | 1, _ => decide) (by decide)
  have HP := Lib.hid hput
  clear hput
  go_enter Tryd.func13, Tryd.ntmps13
  go_wp2_with fail
  refine HP.out.mono ?_
  rintro e w1 ⟨v1, rfl, hh, hb⟩
  have hconv := held_text (P := Tryd.prog) hh 25 5 9 Tryd.underlying25 Tryd.underlying5 Tryd.underlying9
  rw [show strOfNums (List.flatMap formL [97, 8364]) = ⟨#[97, 226, 130, 172]⟩ from by decide] at hconv
  have hb0 : Below w.heap.size w w1 := ((Below.refl _ _).alloc (Nat.le_refl _) _).trans (hb.mono (by simp))
  clear hh hb
  go_wp2_with (first
    | (go_at_call 8; refine (size_any _ _).mono ?_; rintro e w' ⟨rfl, rfl⟩; rw [show sizeI 128512 = 4 from by decide])
    | (go_at_call 6; refine (valid_any _ _).mono ?_; rintro e w' ⟨rfl, rfl⟩; rw [show validB 55296 = false from by decide]))
  go_ret
  exact ⟨rfl, hb0⟩
end Go.Proofs.YtblmjemgfpbdlaaDoor
