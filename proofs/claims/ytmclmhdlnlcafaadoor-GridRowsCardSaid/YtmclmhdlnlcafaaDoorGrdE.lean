/- The works of layer 32. -/
import Derived.Test.YtmclmhdlnlcafaaDoorGrdD
import Derived.Test.YtmclmhdlnlcafaaDoorMg1
namespace Go.Proofs.YtmclmhdlnlcafaaDoor
open Go.RowKit Go.ChangeShapes Go.WideShapes
theorem lines_one {Rs : List Rw} {x : Ln} (h : Rs.map lineOf = [x]) : Rs.length = 1 ∧ (Rs.getD 0 r0).L = x.1 := by
  have hl : Rs.length = 1 := by have := congrArg List.length h; simpa using this
  refine ⟨hl, ?_⟩
  match Rs, hl with
  | [r], _ =>
    have : lineOf r = x := by simpa using h
    rw [← this]
    rfl
set_option maxRecDepth 100000 in
set_option maxHeartbeats 3000000 in
theorem works32_any (w : World) : Calls Tryd.prog 40 #[] w (Yes w) := by
  have h1 := gnew_any 2 0 w
  rw [show rowN 2 = 2 from rfl, show rowN 0 = 1 from rfl, show List.replicate 1 (List.replicate 2 zc, false) = [(([zc, zc] : List Cl), false)] from rfl] at h1
  go_enter Tryd.func40, Tryd.ntmps40
  go_wp2_with fail
  refine h1.mono ?_
  rintro e w1 ⟨gg, gr, Rs, rfl, hg, hm, b1⟩
  obtain ⟨hl, hL⟩ := lines_one hm
  have G := Lib.hid hg
  have B := Lib.hid b1
  have HM := Lib.hid hm
  have HL := Lib.hid hl
  have hr := (hg.row (i := 0) (by omega)).lower
  have HR := Lib.hid hr
  have h3 := grow_in _ gg gr 2 Rs 0 w1 hg (by omega)
  have h5 := rwide_any _ _ _ _ _ _ w1 hr
  rw [hL] at h5
  have h2 := ghigh_any _ gg gr 2 Rs w1 hg
  rw [hl] at h2
  have h4 := grow_out _ gg gr 2 Rs 1 w1 hg (by omega)
  have h6 := glines_any _ gg gr 2 Rs w1 hg
  rw [hm] at h6
  have h7 := gwide_any _ gg gr 2 Rs w1 hg
  obtain ⟨p, hp⟩ : ∃ p, p = (Rs.getD 0 r0).g := ⟨_, rfl⟩
  rw [← hp] at h3 h5
  clear hg hm b1 hl hL hr h1 hp
  go_wp2_with fail
  refine h7.mono ?_
  rintro e w2 ⟨rfl, rfl⟩
  go_wp2_with fail
  refine h2.mono ?_
  rintro e w2 ⟨rfl, rfl⟩
  go_wp2_with fail
  refine h3.mono ?_
  rintro e w2 ⟨rfl, rfl⟩
  go_wp2_with fail
  refine h5.mono ?_
  rintro e w2 ⟨rfl, rfl⟩
  go_wp2_with fail
  refine h4.mono ?_
  rintro e w2 ⟨rfl, rfl⟩
  go_wp2_with fail
  refine h6.mono ?_
  rintro e w2 ⟨v2, rfl, ho2, b2⟩
  obtain ⟨a2, c2, rfl⟩ := (ho2.held (fun b h _ => h)).len
  have HB := Lib.hid (B.out.trans (b2.mono B.out.size))
  clear ho2 b2
  go_wp2
  go_ret
  exact ⟨(ret_eq (by first | rfl | (simp <;> omega))), HB.out⟩
end Go.Proofs.YtmclmhdlnlcafaaDoor
