/- works of layer 35. -/
import Derived.Test.YtgndolgihplngaaDoorWidC
import Derived.Test.YtgndolgihplngaaDoorMg8
import Derived.Test.YtgndolgihplngaaDoorMg2
namespace Go.Proofs.YtgndolgihplngaaDoor
open Go.RowKit Go.ChangeShapes Go.WideShapes
def wn0 : List Ln := List.replicate 2 (List.replicate 2 zc, false)
def wn1 : List Ln := plcL wn0 2 0 0 false true 1 [97]
def wn2 : List Ln := plcL wn1 2 0 1 false true 1 [10084]
def wn3 : List Ln := plcL wn2 2 0 1 false true 2 [10084, 65039]
theorem wn_1 : plcR wn0 2 0 0 false true 1 = 0 ∧ plcC 2 0 false true 1 = 0 ∧ plcK 2 1 = 1 ∧ aftC 0 1 2 = 1 ∧ aftP 0 1 2 true = false ∧ wn0.length = 2 ∧ wn1.length = 2 := by decide +kernel
theorem wn_2 : plcR wn1 2 0 1 false true 1 = 0 ∧ plcC 2 1 false true 1 = 1 ∧ wn2.length = 2 := by decide +kernel
theorem wn_3 : plcR wn2 2 0 1 false true 2 = 1 ∧ plcC 2 1 false true 2 = 0 ∧ wn3.length = 2 ∧ (wn3.getD 0 zl).2 = true := by decide +kernel
theorem wn_in : inI 0 (sideI 2) = ((0 : Nat) : Int) ∧ inI 1 (sideI 2) = ((1 : Nat) : Int) := by decide
theorem wn_wid : widB false false 10084 (gcbI 10084) (inTab tPict 10084) (eastI 10084) = false ∧ inTab tPict 10084 = true ∧ repl 10084 = 10084 ∧ repl 65039 = 65039 := by decide +kernel
theorem wn_wid2 (br : Int) (pc : Bool) (ea : Int) : widB true true 65039 br pc ea = true := by unfold widB; simp
set_option maxRecDepth 100000 in
set_option maxHeartbeats 6000000 in
theorem works35_any (w : World) : Calls Tryd.prog 31 #[] w (Yes w) := by
  have HNW := Lib.hid (pnew_any 2 2 w)
  rw [show rowN 2 = 2 from rfl] at HNW
  go_enter Tryd.func31, Tryd.ntmps31
  go_wp2_with fail
  refine HNW.out.mono ?_
  rintro e w1 ⟨gp, gg, gr, R0, rfl, h1, b1⟩
  have hb := (Below.refl w1.heap.size w1).alloc (Nat.le_refl _) (.cells [Value.int .i32 97].toArray 21)
  have ht := heldE_one (w := w1) (ty := 21) (E := intE .i32) (Y := fun _ => False) (Z := fun b => w1.heap.size ≤ b) [.int .i32 97] 97 rfl (fun _ _ h => h.elim) (Nat.le_refl _)
  have h1' := h1.below hb
  have hp := pput_any w.heap.size gp gg gr 2 R0 wn0 0 0 false true 1 _ [97] _ h1' (wid_text h1 ht) 0 0 false wn_in.1 wn_in.1 rfl (by decide) (by decide)
  rw [wn_1.1, wn_1.2.1, wn_1.2.2.1] at hp
  rw [show aftC ((0 : Nat) : Int) 1 ((2 : Nat) : Int) = 1 from wn_1.2.2.2.1, show aftP ((0 : Nat) : Int) 1 ((2 : Nat) : Int) true = false from wn_1.2.2.2.2.1] at hp
  have HP := Lib.hid hp
  have H1 := Lib.hid h1'
  have B1 := Lib.hid (b1.trans (hb.mono b1.size))
  clear hb ht h1' h1 b1 hp
  go_wp2_with fail
  refine HP.out.mono ?_
  rintro e w2 ⟨rfl, k2⟩
  have B2 := Lib.hid (B1.out.trans (k2.belowB H1.out B1.out.size))
  obtain ⟨R2, h2, _⟩ := k2
  have H2 := Lib.hid h2
  have HK := Lib.hid (show ∀ w', Calls Tryd.prog 68 #[.int .i32 10084] w' (Gives w' (.agg #[.int .i64 (gcbI 10084), .bool (inTab tPict 10084), .int .i64 (conjO 10084), .int .i64 (eastI 10084)])) from fun w' => rucdof_any 10084 w' (by decide) (by decide))
  have HK2 := Lib.hid (show ∀ w', Calls Tryd.prog 68 #[.int .i32 65039] w' (Gives w' (.agg #[.int .i64 (gcbI 65039), .bool (inTab tPict 65039), .int .i64 (conjO 65039), .int .i64 (eastI 65039)])) from fun w' => rucdof_any 65039 w' (by decide) (by decide))
  clear h2 HP H1 B1
  go_wp2_with fail
  refine (HK.out _).mono ?_
  rintro e w3 ⟨rfl, b3⟩
  have h3 := H2.out.below b3
  have B3 := Lib.hid (B2.out.trans (b3.mono B2.out.size))
  have hbg := wbegin_any w.heap.size gp gg gr 2 R2 wn1 0 1 false true 10084 (gcbI 10084) (inTab tPict 10084) (conjO 10084) (eastI 10084) w3 h3 0 1 false (by rw [wn_1.2.2.2.2.2.2]; exact wn_in.1) wn_in.2 rfl (by rw [wn_1.2.2.2.2.2.2]; decide) (by decide)
  rw [wn_wid.2.2.1, wn_wid.1] at hbg
  have HBG := Lib.hid hbg
  have H3 := Lib.hid h3
  clear h3 b3 hbg HK H2 B2
  go_wp2_with fail
  refine HBG.out.mono ?_
  rintro e w4 ⟨g, rfl, hgw, R4, h4, k4, u4, f4⟩
  have hge : ∀ b, PZ w3 gp gr R2 b ∨ b = g → w.heap.size ≤ b := fun b e => by
    rcases e with e | e
    · exact pz_ge H3.out B3.out.size b e
    · rw [e]; exact Nat.le_trans B3.out.size hgw
  have B4 := Lib.hid (B3.out.trans (u4.below B3.out.size hge))
  rw [show gwI false = 1 from rfl, wn_2.1, wn_2.2.1, wn_wid.2.1] at k4
  rw [show gwI false = 1 from rfl] at h4
  have HGW := Lib.hid (show w.heap.size ≤ g from Nat.le_trans B3.out.size hgw)
  have H4 := Lib.hid (show PenY (fun b => b ≠ g) w4 w.heap.size gp gg gr 2 R4 wn2 _ _ _ true from h4)
  have K4 := Lib.hid (show WAt w4 g [10084] true true false 1 ((0 : Nat) : Int) ((1 : Nat) : Int) false from k4)
  have HAT := Lib.hid (wat_any g [10084] true true false 1 ((0 : Nat) : Int) ((1 : Nat) : Int) false w4 K4.out)
  have q1 := cur_self 0 1 false
  have q2 := cur_self 1 0 false
  clear hge u4 f4 h4 k4 HBG H3 B3 hgw
  go_wp2_with fail
  refine HAT.out.mono ?_
  rintro e w5 ⟨rfl, b5⟩
  have HP5 := Lib.hid (H4.out.below b5)
  have K5 := Lib.hid (K4.out.below b5)
  have B5 := Lib.hid (B4.out.trans (b5.mono B4.out.size))
  clear b5 H4 K4 HAT B4
  go_wp2_with fail
  refine (HK2.out _).mono ?_
  rintro e w6 ⟨rfl, b6⟩
  have h6 := HP5.out.below b6
  have k6 := K5.out.below b6
  have B6 := Lib.hid (B5.out.trans (b6.mono B5.out.size))
  have hj := wjoin_any w.heap.size gp gg gr 2 R4 wn2 _ _ _ true g [10084] true true false 1 0 1 65039 (gcbI 65039) (inTab tPict 65039) (conjO 65039) (eastI 65039) w6 h6 k6 (by decide) (by rw [wn_2.2.2]; decide) (by decide)
  rw [wn_wid.2.2.2, wn_wid2, Bool.false_or] at hj
  have HJ := Lib.hid hj
  have H6 := Lib.hid h6
  clear h6 k6 b6 hj HP5 K5 B5 HK2
  go_wp2_with fail
  refine HJ.out.mono ?_
  rintro e w7 ⟨rfl, R7, h7, k7, u7, f7⟩
  have hge : ∀ b, PZ w6 gp gr R4 b ∨ b = g → w.heap.size ≤ b := fun b e => by
    rcases e with e | e
    · exact pz_ge H6.out.any B6.out.size b e
    · rw [e]; exact HGW.out
  have B7 := Lib.hid (B6.out.trans (u7.below B6.out.size hge))
  rw [show gwI true = 2 from rfl, wn_3.1, wn_3.2.1] at k7
  rw [show gwI true = 2 from rfl] at h7
  have H7 := Lib.hid (show PenY (fun b => b ≠ g) w7 w.heap.size gp gg gr 2 R7 wn3 _ _ _ true from h7)
  have K7 := Lib.hid (show WAt w7 g [10084, 65039] true (inTab tPict 65039) true 2 ((1 : Nat) : Int) ((0 : Nat) : Int) false from k7)
  have HAT := Lib.hid (wat_any g _ _ _ _ _ _ _ _ w7 K7.out)
  clear hge u7 f7 h7 k7 HJ H6 B6
  go_wp2_with fail
  refine HAT.out.mono ?_
  rintro e w8 ⟨rfl, b8⟩
  have h8 := H7.out.below b8
  have k8 := K7.out.below b8
  have B8 := Lib.hid (B7.out.trans (b8.mono B7.out.size))
  have z0 := h8.1.cell 0 _ rfl
  have hrl := h8.sizes.2.2.2.2.1
  have hrl2 : R7.length = 2 := by rw [hrl]; exact wn_3.2.2.1
  have hrow := h8.2.2.1.row (i := 0) (by omega)
  have hwr := (row_line h8.2.2.2 0 (by omega)).2
  rw [wn_3.2.2.2] at hwr
  obtain ⟨gk, hgk⟩ : ∃ gk, gk = (R7.getD 0 r0).g := ⟨_, rfl⟩
  have HRW := Lib.hid (show Calls Tryd.prog 38 #[.pointer (some ⟨gg, 0, none⟩), .int .i64 0] w8 (fun e w' => e = .returned (.pointer (some ⟨gk, 0, none⟩)) ∧ w8 = w') from by rw [hgk]; exact grow_in w.heap.size gg gr 2 R7 0 _ h8.2.2.1 (by omega))
  have HWP := Lib.hid (show Calls Tryd.prog 56 #[.pointer (some ⟨gk, 0, none⟩)] w8 (fun e w' => e = .returned (.bool true) ∧ w8 = w') from by rw [hgk, ← hwr]; exact rwrap_any _ _ _ _ _ _ _ hrow)
  have HWD := Lib.hid (wwide_any g _ _ _ _ _ _ _ _ w8 k8)
  clear h8 k8 b8 hrl hrl2 hrow hwr hgk H7 K7 HAT B7
  go_wp2_with fail
  refine HRW.out.mono ?_
  rintro e wz ⟨rfl, rfl⟩
  go_wp2_with fail
  refine HWP.out.mono ?_
  rintro e wz ⟨rfl, rfl⟩
  go_wp2_with fail
  refine HWD.out.mono ?_
  rintro e wz ⟨rfl, rfl⟩
  go_wp2
  go_ret
  exact ⟨(ret_eq (by first | rfl | (simp <;> omega))), B8.out⟩
end Go.Proofs.YtgndolgihplngaaDoor
