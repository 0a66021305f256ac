/- works of layers 9 to 12; the reference's Is. -/
import Derived.Test.YtgoeacmpphmnoaaTabM
import Derived.Test.YtgoeacmpphmnoaaFrame
namespace Go.Proofs.Ytgoeacmpphmnoaa
open Go.RowKit Go.ChangeShapes Go.WideShapes
set_option maxRecDepth 100000 in
theorem works9_any (w : World) : Calls Try.prog 47 #[] w (Yes w) := by
  go_enter Try.func47, Try.ntmps47
  go_wp2_with fail
  refine (gcb_any 13 _).mono ?_
  rintro e w1 ⟨rfl, b1⟩
  rw [show gcbI 13 = 1 from by decide +kernel]
  go_wp2_with fail
  refine (gcb_any 10 _).mono ?_
  rintro e w2 ⟨rfl, b2⟩
  rw [show gcbI 10 = 2 from by decide +kernel]
  have b2 := b1.trans (b2.mono b1.size)
  go_wp2_with fail
  refine (gcb_any 769 _).mono ?_
  rintro e w3 ⟨rfl, b3⟩
  rw [show gcbI 769 = 4 from by decide +kernel]
  have b3 := b2.trans (b3.mono b2.size)
  go_wp2_with fail
  refine (gcb_any 4352 _).mono ?_
  rintro e w4 ⟨rfl, b4⟩
  rw [show gcbI 4352 = 9 from by decide +kernel]
  have b4 := b3.trans (b4.mono b3.size)
  go_wp2_with fail
  refine (gcb_any 97 _).mono ?_
  rintro e w5 ⟨rfl, b5⟩
  rw [show gcbI 97 = 0 from by decide +kernel]
  have b5 := b4.trans (b5.mono b4.size)
  go_wp2
  go_ret
  exact ⟨(ret_eq (by first | rfl | (simp <;> omega))), b5⟩
set_option maxRecDepth 100000 in
theorem works10_any (w : World) : Calls Try.prog 32 #[] w (Yes w) := by
  go_enter Try.func32, Try.ntmps32
  go_wp2_with fail
  refine (pict_any 128512 _).mono ?_
  rintro e w1 ⟨rfl, b1⟩
  rw [show inTab tPict 128512 = true from by decide +kernel]
  go_wp2_with fail
  refine (pict_any 169 _).mono ?_
  rintro e w2 ⟨rfl, b2⟩
  rw [show inTab tPict 169 = true from by decide +kernel]
  have b2 := b1.trans (b2.mono b1.size)
  go_wp2_with fail
  refine (pict_any 127995 _).mono ?_
  rintro e w3 ⟨rfl, b3⟩
  rw [show inTab tPict 127995 = false from by decide +kernel]
  have b3 := b2.trans (b3.mono b2.size)
  go_wp2_with fail
  refine (pict_any 97 _).mono ?_
  rintro e w4 ⟨rfl, b4⟩
  rw [show inTab tPict 97 = false from by decide +kernel]
  have b4 := b3.trans (b4.mono b3.size)
  go_wp2
  go_ret
  exact ⟨(ret_eq (by first | rfl | (simp <;> omega))), b4⟩
set_option maxRecDepth 100000 in
theorem works11_any (w : World) : Calls Try.prog 40 #[] w (Yes w) := by
  go_enter Try.func40, Try.ntmps40
  go_wp2_with fail
  refine (cnj_any 2325 _).mono ?_
  rintro e w1 ⟨rfl, b1⟩
  rw [show conjO 2325 = 1 from by decide +kernel]
  go_wp2_with fail
  refine (cnj_any 2381 _).mono ?_
  rintro e w2 ⟨rfl, b2⟩
  rw [show conjO 2381 = 2 from by decide +kernel]
  have b2 := b1.trans (b2.mono b1.size)
  go_wp2_with fail
  refine (cnj_any 8205 _).mono ?_
  rintro e w3 ⟨rfl, b3⟩
  rw [show conjO 8205 = 3 from by decide +kernel]
  have b3 := b2.trans (b3.mono b2.size)
  go_wp2_with fail
  refine (cnj_any 97 _).mono ?_
  rintro e w4 ⟨rfl, b4⟩
  rw [show conjO 97 = 0 from by decide +kernel]
  have b4 := b3.trans (b4.mono b3.size)
  go_wp2
  go_ret
  exact ⟨(ret_eq (by first | rfl | (simp <;> omega))), b4⟩
set_option maxRecDepth 100000 in
theorem works12_any (w : World) : Calls Try.prog 44 #[] w (Yes w) := by
  go_enter Try.func44, Try.ntmps44
  go_wp2_with fail
  refine (east_any 19968 _).mono ?_
  rintro e w1 ⟨rfl, b1⟩
  rw [show eastI 19968 = 1 from by decide +kernel]
  go_wp2_with fail
  refine (east_any 65313 _).mono ?_
  rintro e w2 ⟨rfl, b2⟩
  rw [show eastI 65313 = 2 from by decide +kernel]
  have b2 := b1.trans (b2.mono b1.size)
  go_wp2_with fail
  refine (east_any 65393 _).mono ?_
  rintro e w3 ⟨rfl, b3⟩
  rw [show eastI 65393 = 3 from by decide +kernel]
  have b3 := b2.trans (b3.mono b2.size)
  go_wp2_with fail
  refine (east_any 97 _).mono ?_
  rintro e w4 ⟨rfl, b4⟩
  rw [show eastI 97 = 0 from by decide +kernel]
  have b4 := b3.trans (b4.mono b3.size)
  go_wp2
  go_ret
  exact ⟨(ret_eq (by first | rfl | (simp <;> omega))), b4⟩
end Go.Proofs.Ytgoeacmpphmnoaa
