/- works of layers 9 to 12; the reference's Is. -/
import Derived.Test.YthagaoakeniikaaTabM
import Derived.Test.YthagaoakeniikaaFrame
namespace Go.Proofs.Ythagaoakeniikaa
open Go.RowKit Go.ChangeShapes Go.WideShapes
set_option maxRecDepth 100000 in
theorem rpict_any (r : Int) (w : World) (r0 : -2147483648 ≤ r) (r1 : r ≤ 2147483647) : Calls Try.prog 18 #[.int .i32 r] w (Gives w (.bool (inTab tPict r))) := by
  go_enter Try.func18, Try.ntmps18
  go_wp2_with fail
  refine (r10list_any _).mono ?_
  rintro e w1 ⟨v1, rfl, h1, b1⟩
  go_wp2_with fail
  refine (in_any _ tPict r _ h1 (by rw [tPict_len]; decide) r0 r1).mono ?_
  rintro e w2 ⟨rfl, b2⟩
  go_wp2
  go_ret
  exact ⟨(ret_eq (by first | rfl | (simp <;> omega))), b1.trans (b2.mono b1.size)⟩
set_option maxRecDepth 100000 in
theorem works9_any (w : World) : Calls Try.prog 16 #[] w (Yes w) := by
  go_enter Try.func16, Try.ntmps16
  go_wp2_with fail
  refine (gcb_any 13 _).mono ?_
  rintro e w1 ⟨rfl, b1⟩
  rw [show gcbI 13 = 1 from by decide +kernel]
  go_wp2_with fail
  refine (gcb_any 10 _).mono ?_
  rintro e w2 ⟨rfl, b2⟩
  rw [show gcbI 10 = 2 from by decide +kernel]
  have b2 := b1.trans (b2.mono b1.size)
  go_wp2_with fail
  refine (gcb_any 769 _).mono ?_
  rintro e w3 ⟨rfl, b3⟩
  rw [show gcbI 769 = 4 from by decide +kernel]
  have b3 := b2.trans (b3.mono b2.size)
  go_wp2_with fail
  refine (gcb_any 4352 _).mono ?_
  rintro e w4 ⟨rfl, b4⟩
  rw [show gcbI 4352 = 9 from by decide +kernel]
  have b4 := b3.trans (b4.mono b3.size)
  go_wp2_with fail
  refine (gcb_any 97 _).mono ?_
  rintro e w5 ⟨rfl, b5⟩
  rw [show gcbI 97 = 0 from by decide +kernel]
  have b5 := b4.trans (b5.mono b4.size)
  go_wp2
  go_ret
  exact ⟨(ret_eq (by first | rfl | (simp <;> omega))), b5⟩
set_option maxRecDepth 100000 in
theorem works10_any (w : World) : Calls Try.prog 19 #[] w (Yes w) := by
  go_enter Try.func19, Try.ntmps19
  go_wp2_with fail
  refine (pict_any 128512 _).mono ?_
  rintro e w1 ⟨rfl, b1⟩
  rw [show inTab tPict 128512 = true from by decide +kernel]
  go_wp2_with fail
  refine (pict_any 169 _).mono ?_
  rintro e w2 ⟨rfl, b2⟩
  rw [show inTab tPict 169 = true from by decide +kernel]
  have b2 := b1.trans (b2.mono b1.size)
  go_wp2_with fail
  refine (pict_any 127995 _).mono ?_
  rintro e w3 ⟨rfl, b3⟩
  rw [show inTab tPict 127995 = false from by decide +kernel]
  have b3 := b2.trans (b3.mono b2.size)
  go_wp2_with fail
  refine (pict_any 97 _).mono ?_
  rintro e w4 ⟨rfl, b4⟩
  rw [show inTab tPict 97 = false from by decide +kernel]
  have b4 := b3.trans (b4.mono b3.size)
  go_wp2
  go_ret
  exact ⟨(ret_eq (by first | rfl | (simp <;> omega))), b4⟩
set_option maxRecDepth 100000 in
theorem works11_any (w : World) : Calls Try.prog 22 #[] w (Yes w) := by
  go_enter Try.func22, Try.ntmps22
  go_wp2_with fail
  refine (conj_any 2325 _).mono ?_
  rintro e w1 ⟨rfl, b1⟩
  rw [show conjO 2325 = 1 from by decide +kernel]
  go_wp2_with fail
  refine (conj_any 2381 _).mono ?_
  rintro e w2 ⟨rfl, b2⟩
  rw [show conjO 2381 = 2 from by decide +kernel]
  have b2 := b1.trans (b2.mono b1.size)
  go_wp2_with fail
  refine (conj_any 8205 _).mono ?_
  rintro e w3 ⟨rfl, b3⟩
  rw [show conjO 8205 = 3 from by decide +kernel]
  have b3 := b2.trans (b3.mono b2.size)
  go_wp2_with fail
  refine (conj_any 97 _).mono ?_
  rintro e w4 ⟨rfl, b4⟩
  rw [show conjO 97 = 0 from by decide +kernel]
  have b4 := b3.trans (b4.mono b3.size)
  go_wp2
  go_ret
  exact ⟨(ret_eq (by first | rfl | (simp <;> omega))), b4⟩
set_option maxRecDepth 100000 in
theorem works12_any (w : World) : Calls Try.prog 25 #[] w (Yes w) := by
  go_enter Try.func25, Try.ntmps25
  go_wp2_with fail
  refine (east_any 19968 _).mono ?_
  rintro e w1 ⟨rfl, b1⟩
  rw [show eastI 19968 = 1 from by decide +kernel]
  go_wp2_with fail
  refine (east_any 65313 _).mono ?_
  rintro e w2 ⟨rfl, b2⟩
  rw [show eastI 65313 = 2 from by decide +kernel]
  have b2 := b1.trans (b2.mono b1.size)
  go_wp2_with fail
  refine (east_any 65393 _).mono ?_
  rintro e w3 ⟨rfl, b3⟩
  rw [show eastI 65393 = 3 from by decide +kernel]
  have b3 := b2.trans (b3.mono b2.size)
  go_wp2_with fail
  refine (east_any 97 _).mono ?_
  rintro e w4 ⟨rfl, b4⟩
  rw [show eastI 97 = 0 from by decide +kernel]
  have b4 := b3.trans (b4.mono b3.size)
  go_wp2
  go_ret
  exact ⟨(ret_eq (by first | rfl | (simp <;> omega))), b4⟩
end Go.Proofs.Ythagaoakeniikaa
