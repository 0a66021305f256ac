/- GridRows (32.2, 32.3) answers true at all lines, rows and numbers, and turns nothing. No condition. -/
import Derived.Test.YtmclmhdlnlcafaaDoorGrdH
import Derived.Test.YtmclmhdlnlcafaaDoorGrdE
import Derived.Test.YtmclmhdlnlcafaaDoorRowO
import Derived.Test.YtmclmhdlnlcafaaDoorMg1
import Derived.Test.YtmclmhdlnlcafaaDoorCards
import Derived.Test.YtmclmhdlnlcafaaDoorTie
import Derived.ProofKit
import Derived.Lib.Builder
namespace Go.Proofs.YtmclmhdlnlcafaaDoor.lawGridRows
open Go.ChangeShapes Go.WideShapes Go.ChangeAt Go.RowKit
theorem _root_.Go.Proofs.YtmclmhdlnlcafaaDoor.WrongTold.say {w w' : World} {Ls : List Ln} {e : Ending} (h : WrongTold w Ls e w') : ∃ a c : Int, e = .returned (.tuple #[.int .i64 a, .int .i64 c]) ∧ ((AllGood Ls ∧ a = -1) ∨ (0 ≤ a ∧ ¬ AllGood Ls)) ∧ Below w.heap.size w w' := by
  obtain ⟨h1, h2, h3⟩ := h
  rcases wrong_cases Ls with hg | ⟨i, c, hf⟩
  · exact ⟨-1, 0, h1 hg, .inl ⟨hg, rfl⟩, h3⟩
  · exact ⟨i, c, h2 i c hf, .inr ⟨by omega, fun hg => first_none hg hf⟩, h3⟩
set_option maxRecDepth 100000 in
theorem lines_arg {H : Type} {enc : TypeId × Value → H} {W : World} {base : Nat} {v : Value} {d : DataW H} {p : List MemPlace} (hv : Value.okWide Tryd.prog W .any base 60 v) (h : DataW.Trod enc Tryd.prog W 0 (fun _ => true) true 60 v d p) : ∃ L, HeldE lineE (fun _ => True) W v L := by
  obtain ⟨L, hL, _⟩ := opens_arg (E := lineE) Tryd.underlying60 (by kernel_rfl) (by decide) (opens_pair Tryd.underlying73 (by kernel_rfl) rfl rfl (opens_slice Tryd.underlying22 (by kernel_rfl) (by decide) (opens_pair Tryd.underlying40 (by kernel_rfl) rfl rfl (opens_int Tryd.underlying3 (by kernel_rfl)) (opens_slice Tryd.underlying31 (by kernel_rfl) (by decide) (opens_int Tryd.underlying21 (by kernel_rfl))))) (opens_bool Tryd.underlying4 (by kernel_rfl))) hv h
  exact ⟨L, hL.zone (fun _ _ _ => trivial)⟩
set_option maxRecDepth 100000 in
set_option maxHeartbeats 16000000 in
theorem mainW (W : World) (ao po : Option Addr) (i : Int) (n ca m pc : Nat) (Ls : List Ln) (P : List Cl) (hn : n = Ls.length) (hm : m = P.length) (ha : HeldE lineE (fun b => b < W.heap.size) W (.slice ao n ca) Ls) (hp : HeldE cellE (fun b => b < W.heap.size) W (.slice po m pc) P)
    (hc : ∀ i, i < n → ∃ b off v, ao = some ⟨b, off, none⟩ ∧ b < W.heap.size ∧ b < W.heap.size ∧ W.cell? ⟨b, off + i * 2, none⟩ = some v ∧ W.cell? ⟨b, off + i * 2 + 1, none⟩ = some (.bool (Ls.getD i zl).2) ∧ HeldE cellE (fun b => b < W.heap.size) W v (Ls.getD i zl).1) (hcap : n ≤ ca) (h1 : n ≤ 40) (h0 : 0 < n) (hall : AllGood Ls) (h2 : 0 < m) (h3 : m ≤ 60) (hs : soundB P = true) : Calls Tryd.prog 10 #[.slice ao n ca, .int .i64 i, .slice po m pc] W (Yes W) := by
  have HN := Lib.hid hn
  have HM := Lib.hid hm
  have HA := Lib.hid ha
  have HP := Lib.hid hp
  have HC := Lib.hid hc
  have HALL := Lib.hid hall
  have HS := Lib.hid hs
  have HWR := Lib.hid (rlwrong_any _ _ Ls W ha)
  clear ha hp hn hm hc hall
  have hd40 : decide ((40 : Int) < n) = false := by rw [decide_eq_false_iff_not]; omega
  have hd40n : decide (40 < n) = false := by rw [decide_eq_false_iff_not]; omega
  have hz : ((n : Int) == 0) = false := by rw [beq_eq_false_iff_ne]; omega
  have hzm : ((m : Int) == 0) = false := by rw [beq_eq_false_iff_ne]; omega
  have hd60 : decide ((60 : Int) < m) = false := by rw [decide_eq_false_iff_not]; omega
  have hd60n : decide (60 < m) = false := by rw [decide_eq_false_iff_not]; omega
  go_enter Tryd.func10, Tryd.ntmps10
  go_wp2_with fail
  refine HWR.out.mono ?_
  rintro e w0 hq
  obtain ⟨at_, cc, rfl, hat, b0⟩ := hq.say
  obtain rfl : at_ = -1 := by rcases hat with h | h; exact h.2; exact absurd HALL.out h.2
  clear hq hat
  go_wp2_with fail
  refine (works32_any _).mono ?_
  rintro e w1 ⟨rfl, b1⟩
  have B := b0.trans (b1.mono b0.size)
  have hse := rsound_any _ _ _ _ (HP.out.below B)
  rw [← sound_iff, hs] at hse
  go_wp2_with fail
  refine hse.mono ?_
  rintro e w2 ⟨rfl, b2⟩
  replace B := Lib.hid (B.trans (b2.mono B.size))
  clear b0 b1 b2 hse hs hd40 hd40n hd60 hd60n hz hzm
  have hg := gof_good _ _ Ls w2 HALL.out (HA.out.below B.out) (by rw [← HN.out]; omega) (by rw [← HN.out]; omega)
  go_wp2_with fail
  refine hg.mono ?_
  rintro e w3 ⟨gg, gr, Rs, rfl, hg3, hm3, b3⟩
  have G3 := Lib.hid hg3
  have HM3 := Lib.hid hm3
  have HRN := Lib.hid (show Rs.length = n by have := congrArg List.length hm3; rw [HN.out]; simpa using this)
  have BS3 := Lib.hid B.out.size
  have BQ3 := Lib.hid b3.size
  replace B := Lib.hid (B.out.trans (b3.mono B.out.size))
  clear b3
  clear hg hg3 hm3
  have hr := rof_ok _ P _ w3 (HP.out.below B.out) (by rw [← HM.out]; omega) (by rw [← HM.out]; omega) HS.out
  go_wp2_with fail
  refine hr.mono ?_
  rintro e w4 ⟨g5, gc5, rfl, hr4, b4⟩
  have R := Lib.hid hr4
  have BB := Lib.hid b4
  have HL4 := Lib.hid hr4.lt
  replace B := Lib.hid (B.out.trans (b4.mono B.out.size))
  clear b4
  clear hr hr4
  have hcp := gcopy_any _ gg gr _ Rs w4 (G3.out.below BB.out)
  rw [HM3.out] at hcp
  go_wp2_with fail
  refine hcp.mono ?_
  rintro e w5 ⟨gg2, gr2, R2, rfl, hg5, hm5, b5⟩
  have GC := Lib.hid hg5.toM
  have HM5 := Lib.hid hm5
  have BS4 := Lib.hid (show w2.heap.size ≤ w3.heap.size ∧ w3.heap.size ≤ w4.heap.size ∧ w4.heap.size ≤ w5.heap.size ∧ W.heap.size ≤ w2.heap.size from ⟨BQ3.out, BB.out.size, b5.size, BS3.out⟩)
  replace BB := Lib.hid (BB.out.trans (b5.mono BB.out.size))
  replace B := Lib.hid (B.out.trans (b5.mono B.out.size))
  replace R := Lib.hid (R.out.below b5)
  clear b5
  clear hcp hg5 hm5
  have h0n : 0 < n := by omega
  obtain ⟨b0, off0, cv, e0, hb0, _, z0, _, hz0⟩ := HC.out 0 h0n
  obtain ⟨a0, x0, rfl⟩ := hz0.len
  obtain ⟨n0, hn0⟩ : ∃ n0, n0 = firstN Ls := ⟨_, rfl⟩
  rw [show (Ls.getD 0 zl).1.length = firstN Ls from rfl, ← hn0, Nat.zero_mul, Nat.add_zero] at z0
  rw [← hn0] at G3 GC
  have HZ0 := Lib.hid (show ∀ w9, Below W.heap.size W w9 → w9.cell? ⟨b0, off0, none⟩ = some (.slice a0 n0 x0) from fun w9 h => (h.cell (p := ⟨b0, off0, none⟩) hb0).trans z0)
  subst e0
  clear hn0 z0 hz0 hb0
  obtain ⟨cap, q0, q1, hcg, _⟩ := (G3.out.below BB.out).cells
  rw [HRN.out] at q1 hcg
  by_cases hout : i < 0 ∨ (n : Int) ≤ i
  · have HOUT := Lib.hid hout
    have hio : (decide ((0 : Int) ≤ i) = false) ∨ (decide ((0 : Int) ≤ i) = true ∧ decide (i < (n : Int)) = false) := by
      by_cases h9 : i < 0
      · exact .inl (by rw [decide_eq_false_iff_not]; omega)
      · exact .inr ⟨by rw [decide_eq_true_eq]; omega, by rw [decide_eq_false_iff_not]; omega⟩
    clear hout
    rcases hio with hi1 | ⟨hi1, hi2⟩
    all_goals
      have GM := Lib.hid (G3.out.below BB.out).toM
      have o1 := grow_out _ gg gr n0 Rs i w5 (G3.out.below BB.out) (by rw [HRN.out]; exact HOUT.out)
      go_wp2_with fail
      refine o1.mono ?_
      rintro e w6 ⟨rfl, rfl⟩
      have o2 := gset_out gg _ n cap i (some ⟨g5, 0, none⟩) w5 q1 HOUT.out
      clear o1
      go_wp2_with fail
      refine o2.mono ?_
      rintro e w6 ⟨rfl, b6⟩
      have q1b := (b6.cell (p := ⟨gg, 1, none⟩) (World.block_lt_of_cell? _ _ q1)).trans q1
      replace B := Lib.hid (B.out.trans (b6.mono B.out.size))
      replace GM := Lib.hid (GM.out.below b6)
      replace GC := Lib.hid (GC.out.below b6)
      clear b6
      have o3 := gset_out gg _ n cap i none w6 q1b HOUT.out
      clear o2 q0 q1
      go_wp2_with fail
      refine o3.mono ?_
      rintro e w7 ⟨rfl, b7⟩
      replace B := Lib.hid (B.out.trans (b7.mono B.out.size))
      replace GM := Lib.hid (GM.out.below b7)
      replace GC := Lib.hid (GC.out.below b7)
      clear b7
      clear o3 q1b
      have b7 := (Below.refl w7.heap.size w7).alloc (Nat.le_refl _) (.cells #[] 73)
      have HE := Lib.hid (OwnE.fresh0 (E := lineE) (Z := fun b => b < W.heap.size) w7 73 (Nat.le_refl w7.heap.size))
      have hlo := HE.out.lt
      have hBW := B.out.size
      have HU := Lib.hid (show HeldE lineE (fun b => b < W.heap.size ∧ _ ≠ some b) _ _ Ls from ((HA.out.below B.out).below b7).zone (fun b _ hz => ⟨hz, fun e => by have := (hlo b e).1; omega⟩))
      have HBX := Lib.hid b7
      clear hlo b7
      go_wp2_with (at_builtin; refine wpList_append_e (E := lineE) (Z := fun b => b < W.heap.size) rfl (.tmp 111) (.tmp 112) 60 rfl (.agg #[.slice none 0 0, .bool false]) 32 Tryd.underlying60 info_line rfl (by decide) rfl rfl HE.out HU.out (by rw [← HN.out]; simp only [List.length_nil]; omega) (by rw [← HN.out]; simp only [List.length_nil]; omega) HBX.out.size ?_)
      intro v8 w8 ho8 b8 _ _
      try rw [List.nil_append] at ho8
      obtain ⟨gw, cw, he8, hgw1, hgw2⟩ := ho8.some (by rw [← HN.out]; omega)
      have b8 := HBX.out.trans b8
      rw [← HN.out] at he8
      subst he8
      have HO := Lib.hid ho8
      have HGW := Lib.hid (And.intro hgw1 hgw2)
      replace B := Lib.hid (B.out.trans (b8.mono B.out.size))
      replace GM := Lib.hid (GM.out.below b8)
      replace GC := Lib.hid (GC.out.below b8)
      clear b8
      clear ho8 HE HU HBX hgw1 hgw2 hBW
      have HWT := Lib.hid ((HO.out.zone (Y := fun _ => True) (fun _ _ _ => trivial)).held (Z := fun _ => True) (fun _ _ _ => trivial))
      clear HO
      have t1 := glines_any _ gg gr n0 Rs w8 GM.out.at
      rw [HM3.out] at t1
      go_wp2_with fail
      refine t1.mono ?_
      rintro e wa ⟨va, rfl, hoa, ba⟩
      have HVA := Lib.hid (hoa.held (fun b h _ => h))
      replace B := Lib.hid (B.out.trans (ba.mono B.out.size))
      replace HWT := Lib.hid (HWT.out.below ba)
      replace GC := Lib.hid (GC.out.below ba)
      clear ba
      clear hoa t1
      have t2 := rlsame_any _ _ _ _ _ _ wa HVA.out HWT.out
      rw [sameL_self] at t2
      go_wp2_with fail
      refine t2.mono ?_
      rintro e wb ⟨rfl, bb⟩
      replace B := Lib.hid (B.out.trans (bb.mono B.out.size))
      replace GC := Lib.hid (GC.out.below bb)
      clear bb
      clear t2 HVA
      have t3 := glines_any _ gg2 gr2 n0 R2 wb GC.out.at
      rw [HM5.out] at t3
      go_wp2_with fail
      refine t3.mono ?_
      rintro e wc ⟨vc, rfl, hoc, bc⟩
      have HVC := Lib.hid (hoc.held (fun b h _ => h))
      replace B := Lib.hid (B.out.trans (bc.mono B.out.size))
      clear bc
      clear hoc t3
      have t4 := rlsame_any _ _ _ _ _ _ wc HVC.out (HA.out.below B.out)
      rw [sameL_self] at t4
      go_wp2_with fail
      refine t4.mono ?_
      rintro e wd ⟨rfl, bd⟩
      replace B := Lib.hid (B.out.trans (bd.mono B.out.size))
      clear bd
      clear t4 HVC
      go_wp2_with fail
      refine (gwide_nil wd).mono ?_
      rintro e we ⟨rfl, rfl⟩
      go_wp2_with fail
      refine (ghigh_nil wd).mono ?_
      rintro e we ⟨rfl, rfl⟩
      go_wp2_with fail
      refine (grow_nil 0 wd).mono ?_
      rintro e we ⟨rfl, rfl⟩
      go_wp2_with fail
      refine (gset_nil 0 _ wd).mono ?_
      rintro e wf ⟨rfl, bf⟩
      replace B := Lib.hid (B.out.trans (bf.mono B.out.size))
      clear bf
      go_wp2_with fail
      refine (glines_nil wf).mono ?_
      rintro e wg ⟨ag, cg, rfl, bg⟩
      replace B := Lib.hid (B.out.trans (bg.mono B.out.size))
      clear bg
      go_wp2_with fail
      refine (gcopy_nil wg).mono ?_
      rintro e wh ⟨rfl, rfl⟩
      go_wp2
      go_ret
      exact ⟨(ret_eq (by first | rfl | (simp <;> omega))), B.out⟩

  obtain ⟨k, rfl⟩ : ∃ k : Nat, i = k := ⟨i.toNat, by omega⟩
  have hkn : k < n := by omega
  clear hout
  by_cases hfit : m = n0
  · have hme : ((m : Int) == (n0 : Int)) = true := by rw [beq_iff_eq]; omega
    have HFIT := Lib.hid hfit
    clear hfit
    have o1 := grow_in _ gg gr n0 Rs k w5 (G3.out.below BB.out) (by rw [HRN.out]; exact hkn)
    have z1 := HZ0.out w5 B.out
    have HGR := Lib.hid (show w2.heap.size ≤ gr ∧ gr < w3.heap.size from ⟨G3.out.lt.2.2.1, G3.out.lt.2.2.2.1⟩)
    go_wp2_with fail
    refine o1.mono ?_
    rintro e w6 ⟨rfl, rfl⟩
    clear o1 z1
    obtain ⟨_, ⟨uc, hu1⟩, hu2⟩ := G3.out.put (i := k) (by rw [HRN.out]; exact hkn) BB.out R.out (by rw [← HM.out]; exact HFIT.out)
    have o2 := gset_fit gg gr n0 n cap k _ _ g5 gc5 P false w5 q0 q1 hcg uc hu1 hu2 hkn (by omega) R.out (by rw [← HM.out]; exact HFIT.out)
    clear hu1 hu2
    go_wp2_with fail
    refine o2.mono ?_
    rintro e w6 ⟨rfl, w5b, b5b, hw6⟩
    obtain ⟨hg6, _, _⟩ := G3.out.put (i := k) (by rw [HRN.out]; exact hkn) (BB.out.trans (b5b.mono BB.out.size)) (R.out.below b5b) (by rw [← HM.out]; exact HFIT.out)
    rw [← hw6] at hg6
    have hu6 := (Upd.refl (fun b => b = gr) w5b).setCell (p := ⟨gr, k, none⟩) (.inl rfl) (ptrV (some g5))
    rw [← hw6] at hu6
    replace GC := Lib.hid ((GC.out.below b5b).keep hu6 (fun b h1 _ e => by have := HGR.out; have := BS4.out; omega))
    have HB5 := Lib.hid (B.out.trans (b5b.mono B.out.size))
    replace B := Lib.hid (HB5.out.upd hu6 HB5.out.size (fun x e => by have := HGR.out; have := BS4.out; omega))
    have HSZ6 := Lib.hid (Nat.le_trans b5b.size hu6.size)
    obtain ⟨RQ, hRQ⟩ : ∃ RQ, RQ = Rs.set k ⟨g5, gc5, P, false⟩ := ⟨_, rfl⟩
    rw [← hRQ] at hg6
    have HRQ := Lib.hid (show RQ.length = n by rw [hRQ, List.length_set, HRN.out])
    have HRK := Lib.hid (show RQ.getD k r0 = ⟨g5, gc5, P, false⟩ by rw [hRQ, getD_setI _ _ _ _ _ (by rw [HRN.out]; exact hkn), if_pos rfl])
    have HMQ := Lib.hid (show RQ.map lineOf = Ls.set k (P, false) by rw [hRQ, List.map_set, HM3.out]; rfl)
    have GM := Lib.hid hg6.toM
    obtain ⟨capb, _, q1b, _, _⟩ := hg6.cells
    rw [HRQ.out] at q1b
    have o3 := gset_norow gg _ n capb k w6 q1b hkn (by omega)
    clear o2 q0 q1 hRQ hg6 hu6 hw6 b5b HB5
    go_wp2_with fail
    refine o3.mono ?_
    rintro e w7 ⟨rfl, b7⟩
    have HSZ7 := Lib.hid (Nat.le_trans HSZ6.out b7.size)
    have HMW := Lib.hid b7.size
    replace B := Lib.hid (B.out.trans (b7.mono B.out.size))
    replace GM := Lib.hid (GM.out.below b7)
    replace GC := Lib.hid (GC.out.below b7)
    clear b7
    clear o3 q1b
    have b7 := (Below.refl w7.heap.size w7).alloc (Nat.le_refl _) (.cells #[] 73)
    have HE := Lib.hid (OwnE.fresh0 (E := lineE) (Z := fun b => b < W.heap.size) w7 73 (Nat.le_refl w7.heap.size))
    have hlo := HE.out.lt
    have hBW := B.out.size
    have HU := Lib.hid (show HeldE lineE (fun b => b < W.heap.size ∧ _ ≠ some b) _ _ Ls from ((HA.out.below B.out).below b7).zone (fun b _ hz => ⟨hz, fun e => by have := (hlo b e).1; omega⟩))
    have HBX := Lib.hid b7
    clear hlo b7
    go_wp2_with (at_builtin; refine wpList_append_e (E := lineE) (Z := fun b => b < W.heap.size) rfl (.tmp 111) (.tmp 112) 60 rfl (.agg #[.slice none 0 0, .bool false]) 32 Tryd.underlying60 info_line rfl (by decide) rfl rfl HE.out HU.out (by rw [← HN.out]; simp only [List.length_nil]; omega) (by rw [← HN.out]; simp only [List.length_nil]; omega) HBX.out.size ?_)
    intro v8 w8 ho8 b8 _ _
    try rw [List.nil_append] at ho8
    obtain ⟨gw, cw, he8, hgw1, hgw2⟩ := ho8.some (by rw [← HN.out]; omega)
    have b8 := HBX.out.trans b8
    rw [← HN.out] at he8
    subst he8
    have HO := Lib.hid ho8
    have HGW := Lib.hid (And.intro hgw1 hgw2)
    replace B := Lib.hid (B.out.trans (b8.mono B.out.size))
    replace GM := Lib.hid (GM.out.below b8)
    replace GC := Lib.hid (GC.out.below b8)
    clear b8
    clear ho8 HE HU HBX hgw1 hgw2 hBW
    have hpr : lineE.rep (fun b => b < W.heap.size ∧ b ≠ gw) w8 [.slice po m pc, .bool false] (P, false) := line_rep.2 ⟨_, rfl, (HP.out.below B.out).zone (fun b _ hz => ⟨hz, fun e => by have := HGW.out; have := BS4.out; have := HSZ7.out; omega⟩)⟩
    have HPR := Lib.hid hpr
    clear hpr
    go_wp2_with (refine wpList_put_e (E := lineE) (Y := fun b => b < W.heap.size) (i := k) rfl 73 (.tmp 119) (.tmp 118) rfl rfl rfl [.slice po m pc, .bool false] rfl (by kernel_rfl) HO.out.each (by rw [← HN.out]; exact hkn) (P, false) HPR.out ?_)
    intro w8b hw8 hu8
    replace HO := Lib.hid (show OwnE lineE (fun b => b < W.heap.size) w8b w7.heap.size 73 (.slice (some ⟨gw, 0, none⟩) n cw) (Ls.set k (P, false)) from OwnI.all hw8 (fun j b _ _ q => by first | exact q | (split at q <;> exact q)))
    replace GM := Lib.hid (GM.out.keep hu8 (fun b _ h e => by have := HGW.out; have := HMW.out; omega))
    replace GC := Lib.hid (GC.out.keep hu8 (fun b _ h e => by have := HGW.out; have := HSZ7.out; omega))
    replace B := Lib.hid (B.out.upd hu8 B.out.size (fun x e => by have := HGW.out; have := BS4.out; have := HSZ7.out; omega))
    replace HGW := Lib.hid (And.intro HGW.out.1 (Nat.lt_of_lt_of_le HGW.out.2 hu8.size))
    clear hw8 hu8 HPR
    have r1 := grow_in _ gg gr n0 RQ k w8b GM.out.at (by rw [HRQ.out]; omega)
    rw [HRK.out] at r1
    go_wp2_with fail
    refine r1.mono ?_
    rintro e wz ⟨rfl, rfl⟩
    clear r1
    obtain ⟨j9, hj9⟩ := Option.isSome_iff_exists.1 (show (Tryd.prog.info? 93).isSome = true by kernel_rfl)
    have qq := Lib.run_neq_ptr_same (P := Tryd.prog) w8b ⟨g5, 0, none⟩ Tryd.underlying25 hj9
    have p1 := grow_in _ gg gr n0 RQ k w8b GM.out.at (by rw [HRQ.out]; omega)
    go_wp2_with fail
    refine p1.mono ?_
    rintro e wz ⟨rfl, rfl⟩
    clear p1
    have p2 := ggoonM_any _ _ gg gr n0 k RQ true w8b GM.out (by rw [HRQ.out]; omega)
    have HIN := Lib.hid (show w2.heap.size ≤ (RQ.getD k r0).g ∧ w2.heap.size ≤ (RQ.getD k r0).gc ∧ (RQ.getD k r0).g < w4.heap.size ∧ (RQ.getD k r0).gc < w4.heap.size from by rw [HRK.out]; show w2.heap.size ≤ g5 ∧ w2.heap.size ≤ gc5 ∧ g5 < w4.heap.size ∧ gc5 < w4.heap.size; have := HL4.out; have := BS4.out; omega)
    have HML := Lib.hid (show (RQ.getD k r0).g < gw ∧ (RQ.getD k r0).gc < gw by have := HIN.out; have := HGW.out; have := BS4.out; have := HSZ7.out; omega)
    go_wp2_with fail
    refine p2.mono ?_
    rintro e w9 ⟨rfl, hg9, hu9⟩
    replace GM := Lib.hid hg9
    replace GC := Lib.hid (GC.out.keep hu9 (fun b h1 _ e => by have := HIN.out; rcases e with e | e <;> omega))
    replace HO := Lib.hid (HO.out.upd hu9 (fun b hb e => by
      have h5 := HIN.out
      have h6 := HML.out
      have h7 := BS4.out
      rcases hb with hb | hb
      · rcases e with e | e <;> omega
      · have : gw = b := by simpa [Value.ownBlock] using hb
        rcases e with e | e <;> omega))
    replace B := Lib.hid (B.out.upd hu9 B.out.size (fun x e => by have := HIN.out; have := BS4.out; rcases e with e | e <;> omega))
    have HG9 := Lib.hid (show gw < w9.heap.size by have := HGW.out; have := hu9.size; omega)
    clear hg9 hu9 p2
    obtain ⟨hmk, ⟨uq, hq1⟩, hq2⟩ := line_mark (i := k) HO.out (by rw [List.length_set, ← HN.out]; exact hkn) true
    have hu10 := (Upd.refl (fun b => b = gw) w9).setCell (p := ⟨gw, k * 2 + 1, none⟩) (.inl rfl) (.bool true)
    obtain ⟨wT, hwT⟩ : ∃ wT, wT = w9.setCell ⟨gw, k * 2 + 1, none⟩ (.bool true) := ⟨_, rfl⟩
    rw [← hwT] at hmk hu10
    have HWT := Lib.hid ((hmk.zone (Y := fun _ => True) (fun _ _ _ => trivial)).held (Z := fun _ => True) (fun _ _ _ => trivial))
    have GMT := Lib.hid (GM.out.keep hu10 (fun b _ h e => by have := HGW.out; have := HMW.out; omega))
    have GCT := Lib.hid (GC.out.keep hu10 (fun b _ h e => by have := HGW.out; have := HSZ7.out; omega))
    have BT := Lib.hid (B.out.upd hu10 B.out.size (fun x e => by have := HGW.out; have := BS4.out; have := HSZ7.out; omega))
    have hkI : k < n := hkn
    clear hmk hu10
    go_upto_region 21 with (fail)
    rw [← hwT]
    replace GM := GMT
    replace GC := GCT
    replace B := BT
    clear hwT hq1 hq2 GMT GCT BT HO HIN HML
    have HMT := Lib.hid (show (RQ.set k ⟨(RQ.getD k r0).g, (RQ.getD k r0).gc, (RQ.getD k r0).L, true⟩).map lineOf = (Ls.set k (P, false)).set k (((Ls.set k (P, false)).getD k zl).1, true) by rw [List.map_set, HMQ.out]; rw [HRK.out, getD_setI _ _ _ _ _ (by rw [← HN.out]; exact hkn), if_pos rfl]; rfl)
    have t1 := glines_any _ gg gr n0 (RQ.set k ⟨(RQ.getD k r0).g, (RQ.getD k r0).gc, (RQ.getD k r0).L, true⟩) wT GM.out.at
    rw [HMT.out] at t1
    go_wp2_with fail
    refine t1.mono ?_
    rintro e wa ⟨va, rfl, hoa, ba⟩
    have HVA := Lib.hid (hoa.held (fun b h _ => h))
    replace B := Lib.hid (B.out.trans (ba.mono B.out.size))
    replace HWT := Lib.hid (HWT.out.below ba)
    replace GC := Lib.hid (GC.out.below ba)
    clear ba
    clear hoa t1
    have t2 := rlsame_any _ _ _ _ _ _ wa HVA.out HWT.out
    rw [sameL_self] at t2
    go_wp2_with fail
    refine t2.mono ?_
    rintro e wb ⟨rfl, bb⟩
    replace B := Lib.hid (B.out.trans (bb.mono B.out.size))
    replace GC := Lib.hid (GC.out.below bb)
    clear bb
    clear t2 HVA
    have t3 := glines_any _ gg2 gr2 n0 R2 wb GC.out.at
    rw [HM5.out] at t3
    go_wp2_with fail
    refine t3.mono ?_
    rintro e wc ⟨vc, rfl, hoc, bc⟩
    have HVC := Lib.hid (hoc.held (fun b h _ => h))
    replace B := Lib.hid (B.out.trans (bc.mono B.out.size))
    clear bc
    clear hoc t3
    have t4 := rlsame_any _ _ _ _ _ _ wc HVC.out (HA.out.below B.out)
    rw [sameL_self] at t4
    go_wp2_with fail
    refine t4.mono ?_
    rintro e wd ⟨rfl, bd⟩
    replace B := Lib.hid (B.out.trans (bd.mono B.out.size))
    clear bd
    clear t4 HVC
    go_wp2_with fail
    refine (gwide_nil wd).mono ?_
    rintro e we ⟨rfl, rfl⟩
    go_wp2_with fail
    refine (ghigh_nil wd).mono ?_
    rintro e we ⟨rfl, rfl⟩
    go_wp2_with fail
    refine (grow_nil 0 wd).mono ?_
    rintro e we ⟨rfl, rfl⟩
    go_wp2_with fail
    refine (gset_nil 0 _ wd).mono ?_
    rintro e wf ⟨rfl, bf⟩
    replace B := Lib.hid (B.out.trans (bf.mono B.out.size))
    clear bf
    go_wp2_with fail
    refine (glines_nil wf).mono ?_
    rintro e wg ⟨ag, cg, rfl, bg⟩
    replace B := Lib.hid (B.out.trans (bg.mono B.out.size))
    clear bg
    go_wp2_with fail
    refine (gcopy_nil wg).mono ?_
    rintro e wh ⟨rfl, rfl⟩
    go_wp2
    go_ret
    exact ⟨(ret_eq (by first | rfl | (simp <;> omega))), B.out⟩

  · have hme : ((m : Int) == (n0 : Int)) = false := by rw [beq_eq_false_iff_ne]; omega
    have HFIT := Lib.hid hfit
    clear hfit
    have HIL := Lib.hid (G3.out.lt.2.2.2.2.2 k (by rw [HRN.out]; exact hkn))
    have GM := Lib.hid (G3.out.below BB.out).toM
    have o1 := grow_in _ gg gr n0 Rs k w5 (G3.out.below BB.out) (by rw [HRN.out]; exact hkn)
    have z1 := HZ0.out w5 B.out
    go_wp2_with fail
    refine o1.mono ?_
    rintro e w6 ⟨rfl, rfl⟩
    have o2 := gset_misfit gg gr n0 n cap k _ _ g5 gc5 P false w5 q0 q1 hkn (by omega) R.out (by rw [← HM.out]; exact HFIT.out)
    clear o1 z1
    go_wp2_with fail
    refine o2.mono ?_
    rintro e w6 ⟨rfl, b6⟩
    have q1b := (b6.cell (p := ⟨gg, 1, none⟩) (World.block_lt_of_cell? _ _ q1)).trans q1
    have HSZ6 := Lib.hid b6.size
    replace B := Lib.hid (B.out.trans (b6.mono B.out.size))
    replace GM := Lib.hid (GM.out.below b6)
    replace GC := Lib.hid (GC.out.below b6)
    clear b6
    have o3 := gset_norow gg _ n cap k w6 q1b hkn (by omega)
    clear o2 q0 q1
    go_wp2_with fail
    refine o3.mono ?_
    rintro e w7 ⟨rfl, b7⟩
    have HSZ7 := Lib.hid (Nat.le_trans HSZ6.out b7.size)
    have HMW := HSZ7
    replace B := Lib.hid (B.out.trans (b7.mono B.out.size))
    replace GM := Lib.hid (GM.out.below b7)
    replace GC := Lib.hid (GC.out.below b7)
    clear b7
    clear o3 q1b
    have b7 := (Below.refl w7.heap.size w7).alloc (Nat.le_refl _) (.cells #[] 73)
    have HE := Lib.hid (OwnE.fresh0 (E := lineE) (Z := fun b => b < W.heap.size) w7 73 (Nat.le_refl w7.heap.size))
    have hlo := HE.out.lt
    have hBW := B.out.size
    have HU := Lib.hid (show HeldE lineE (fun b => b < W.heap.size ∧ _ ≠ some b) _ _ Ls from ((HA.out.below B.out).below b7).zone (fun b _ hz => ⟨hz, fun e => by have := (hlo b e).1; omega⟩))
    have HBX := Lib.hid b7
    clear hlo b7
    go_wp2_with (at_builtin; refine wpList_append_e (E := lineE) (Z := fun b => b < W.heap.size) rfl (.tmp 111) (.tmp 112) 60 rfl (.agg #[.slice none 0 0, .bool false]) 32 Tryd.underlying60 info_line rfl (by decide) rfl rfl HE.out HU.out (by rw [← HN.out]; simp only [List.length_nil]; omega) (by rw [← HN.out]; simp only [List.length_nil]; omega) HBX.out.size ?_)
    intro v8 w8 ho8 b8 _ _
    try rw [List.nil_append] at ho8
    obtain ⟨gw, cw, he8, hgw1, hgw2⟩ := ho8.some (by rw [← HN.out]; omega)
    have b8 := HBX.out.trans b8
    rw [← HN.out] at he8
    subst he8
    have HO := Lib.hid ho8
    have HGW := Lib.hid (And.intro hgw1 hgw2)
    replace B := Lib.hid (B.out.trans (b8.mono B.out.size))
    replace GM := Lib.hid (GM.out.below b8)
    replace GC := Lib.hid (GC.out.below b8)
    clear b8
    clear ho8 HE HU HBX hgw1 hgw2 hBW
    have p1 := grow_in _ gg gr n0 Rs k w8 GM.out.at (by rw [HRN.out]; omega)
    go_wp2_with fail
    refine p1.mono ?_
    rintro e wz ⟨rfl, rfl⟩
    clear p1
    have p2 := ggoonM_any _ _ gg gr n0 k Rs true w8 GM.out (by rw [HRN.out]; omega)
    have HIN := Lib.hid (show w2.heap.size ≤ (Rs.getD k r0).g ∧ w2.heap.size ≤ (Rs.getD k r0).gc ∧ (Rs.getD k r0).g < w4.heap.size ∧ (Rs.getD k r0).gc < w4.heap.size from by have := HIL.out; have := BS4.out; omega)
    have HML := Lib.hid (show (Rs.getD k r0).g < gw ∧ (Rs.getD k r0).gc < gw by have := HIN.out; have := HGW.out; have := BS4.out; have := HSZ7.out; omega)
    go_wp2_with fail
    refine p2.mono ?_
    rintro e w9 ⟨rfl, hg9, hu9⟩
    replace GM := Lib.hid hg9
    replace GC := Lib.hid (GC.out.keep hu9 (fun b h1 _ e => by have := HIN.out; rcases e with e | e <;> omega))
    replace HO := Lib.hid (HO.out.upd hu9 (fun b hb e => by
      have h5 := HIN.out
      have h6 := HML.out
      have h7 := BS4.out
      rcases hb with hb | hb
      · rcases e with e | e <;> omega
      · have : gw = b := by simpa [Value.ownBlock] using hb
        rcases e with e | e <;> omega))
    replace B := Lib.hid (B.out.upd hu9 B.out.size (fun x e => by have := HIN.out; have := BS4.out; rcases e with e | e <;> omega))
    have HG9 := Lib.hid (show gw < w9.heap.size by have := HGW.out; have := hu9.size; omega)
    clear hg9 hu9 p2
    obtain ⟨hmk, ⟨uq, hq1⟩, hq2⟩ := line_mark (i := k) HO.out (by rw [← HN.out]; exact hkn) true
    have hu10 := (Upd.refl (fun b => b = gw) w9).setCell (p := ⟨gw, k * 2 + 1, none⟩) (.inl rfl) (.bool true)
    obtain ⟨wT, hwT⟩ : ∃ wT, wT = w9.setCell ⟨gw, k * 2 + 1, none⟩ (.bool true) := ⟨_, rfl⟩
    rw [← hwT] at hmk hu10
    have HWT := Lib.hid ((hmk.zone (Y := fun _ => True) (fun _ _ _ => trivial)).held (Z := fun _ => True) (fun _ _ _ => trivial))
    have GMT := Lib.hid (GM.out.keep hu10 (fun b _ h e => by have := HGW.out; have := HMW.out; omega))
    have GCT := Lib.hid (GC.out.keep hu10 (fun b _ h e => by have := HGW.out; have := HSZ7.out; omega))
    have BT := Lib.hid (B.out.upd hu10 B.out.size (fun x e => by have := HGW.out; have := BS4.out; have := HSZ7.out; omega))
    have hkI : k < n := hkn
    clear hmk hu10
    go_upto_region 21 with (fail)
    rw [← hwT]
    replace GM := GMT
    replace GC := GCT
    replace B := BT
    clear hwT hq1 hq2 GMT GCT BT HO HIN HML
    have HMT := Lib.hid (show (Rs.set k ⟨(Rs.getD k r0).g, (Rs.getD k r0).gc, (Rs.getD k r0).L, true⟩).map lineOf = Ls.set k ((Ls.getD k zl).1, true) by rw [List.map_set, HM3.out]; rw [← HM3.out]; congr 1; rw [show ((Rs.map lineOf).getD k zl) = lineOf (Rs.getD k r0) from by simp [List.getD, List.getElem?_eq_getElem (show k < Rs.length by rw [HRN.out]; exact hkn)]]; rfl)
    have t1 := glines_any _ gg gr n0 (Rs.set k ⟨(Rs.getD k r0).g, (Rs.getD k r0).gc, (Rs.getD k r0).L, true⟩) wT GM.out.at
    rw [HMT.out] at t1
    go_wp2_with fail
    refine t1.mono ?_
    rintro e wa ⟨va, rfl, hoa, ba⟩
    have HVA := Lib.hid (hoa.held (fun b h _ => h))
    replace B := Lib.hid (B.out.trans (ba.mono B.out.size))
    replace HWT := Lib.hid (HWT.out.below ba)
    replace GC := Lib.hid (GC.out.below ba)
    clear ba
    clear hoa t1
    have t2 := rlsame_any _ _ _ _ _ _ wa HVA.out HWT.out
    rw [sameL_self] at t2
    go_wp2_with fail
    refine t2.mono ?_
    rintro e wb ⟨rfl, bb⟩
    replace B := Lib.hid (B.out.trans (bb.mono B.out.size))
    replace GC := Lib.hid (GC.out.below bb)
    clear bb
    clear t2 HVA
    have t3 := glines_any _ gg2 gr2 n0 R2 wb GC.out.at
    rw [HM5.out] at t3
    go_wp2_with fail
    refine t3.mono ?_
    rintro e wc ⟨vc, rfl, hoc, bc⟩
    have HVC := Lib.hid (hoc.held (fun b h _ => h))
    replace B := Lib.hid (B.out.trans (bc.mono B.out.size))
    clear bc
    clear hoc t3
    have t4 := rlsame_any _ _ _ _ _ _ wc HVC.out (HA.out.below B.out)
    rw [sameL_self] at t4
    go_wp2_with fail
    refine t4.mono ?_
    rintro e wd ⟨rfl, bd⟩
    replace B := Lib.hid (B.out.trans (bd.mono B.out.size))
    clear bd
    clear t4 HVC
    go_wp2_with fail
    refine (gwide_nil wd).mono ?_
    rintro e we ⟨rfl, rfl⟩
    go_wp2_with fail
    refine (ghigh_nil wd).mono ?_
    rintro e we ⟨rfl, rfl⟩
    go_wp2_with fail
    refine (grow_nil 0 wd).mono ?_
    rintro e we ⟨rfl, rfl⟩
    go_wp2_with fail
    refine (gset_nil 0 _ wd).mono ?_
    rintro e wf ⟨rfl, bf⟩
    replace B := Lib.hid (B.out.trans (bf.mono B.out.size))
    clear bf
    go_wp2_with fail
    refine (glines_nil wf).mono ?_
    rintro e wg ⟨ag, cg, rfl, bg⟩
    replace B := Lib.hid (B.out.trans (bg.mono B.out.size))
    clear bg
    go_wp2_with fail
    refine (gcopy_nil wg).mono ?_
    rintro e wh ⟨rfl, rfl⟩
    go_wp2
    go_ret
    exact ⟨(ret_eq (by first | rfl | (simp <;> omega))), B.out⟩

set_option maxRecDepth 100000 in
set_option maxHeartbeats 16000000 in
theorem walkH (W : World) (va vp : Value) (i : Int) (Ls : List Ln) (P : List Cl) (Z Zp : Zone) (ha : HeldE lineE Z W va Ls) (hp : HeldE cellE Zp W vp P) : Calls Tryd.prog 10 #[va, .int .i64 i, vp] W (Yes W) := by
  have hla := ha.max
  have hlp := hp.max
  have ha := ha.lower
  have hp := hp.lower
  obtain ⟨ao, ca, rfl⟩ := ha.len
  obtain ⟨po, pc, rfl⟩ := hp.len
  obtain ⟨n, hn⟩ : ∃ n, n = Ls.length := ⟨_, rfl⟩
  obtain ⟨m, hm⟩ : ∃ m, m = P.length := ⟨_, rfl⟩
  have hc := (lines_at ha).2.2
  have hcap := (lines_at ha).2.1
  have HN := Lib.hid hn
  have HM := Lib.hid hm
  rw [← hn] at ha hc hcap hla ⊢
  rw [← hm] at hp hlp ⊢
  have HA := Lib.hid ha
  have HP := Lib.hid hp
  have HC := Lib.hid hc
  have HWR := Lib.hid (rlwrong_any _ _ Ls W ha)
  clear ha hp hn hm hc
  by_cases h1 : 40 < n
  · have hd : decide ((40 : Int) < n) = true := by rw [decide_eq_true_eq]; omega
    go_enter Tryd.func10, Tryd.ntmps10
    go_wp2_with fail
    refine HWR.out.mono ?_
    rintro e w0 hq
    obtain ⟨at_, cc, rfl, hat, b0⟩ := hq.say
    clear hq
    go_wp2_with fail
    refine (works32_any _).mono ?_
    rintro e w1 ⟨rfl, b1⟩
    have B := b0.trans (b1.mono b0.size)
    go_wp2_with fail
    refine (works32_any _).mono ?_
    rintro e w2 ⟨rfl, b2⟩
    have B := B.trans (b2.mono B.size)
    go_wp2
    go_ret
    exact ⟨(ret_eq (by first | rfl | (simp <;> omega))), B⟩

  have hd40 : decide ((40 : Int) < n) = false := by rw [decide_eq_false_iff_not]; omega
  have hd40n : decide (40 < n) = false := by rw [decide_eq_false_iff_not]; omega
  by_cases h0 : n = 0
  · have hz : ((n : Int) == 0) = true := by rw [beq_iff_eq]; omega
    clear h0
    go_enter Tryd.func10, Tryd.ntmps10
    go_wp2_with fail
    refine HWR.out.mono ?_
    rintro e w0 hq
    obtain ⟨at_, cc, rfl, hat, b0⟩ := hq.say
    clear hq
    go_wp2_with fail
    refine (works32_any _).mono ?_
    rintro e w1 ⟨rfl, b1⟩
    have B := b0.trans (b1.mono b0.size)
    go_wp2_with fail
    refine (works32_any _).mono ?_
    rintro e w2 ⟨rfl, b2⟩
    have B := B.trans (b2.mono B.size)
    go_wp2
    go_ret
    exact ⟨(ret_eq (by first | rfl | (simp <;> omega))), B⟩

  have hz : ((n : Int) == 0) = false := by rw [beq_eq_false_iff_ne]; omega
  by_cases hall : AllGood Ls
  rotate_left
  · have HALL := Lib.hid hall
    go_enter Tryd.func10, Tryd.ntmps10
    go_wp2_with fail
    refine HWR.out.mono ?_
    rintro e w0 hq
    obtain ⟨at_, cc, rfl, hat, b0⟩ := hq.say
    have hge : decide ((0 : Int) ≤ at_) = true := by rw [decide_eq_true_eq]; rcases hat with h | h; exact absurd h.1 HALL.out; exact h.1
    clear hq
    go_wp2_with fail
    refine (works32_any _).mono ?_
    rintro e w1 ⟨rfl, b1⟩
    have B := b0.trans (b1.mono b0.size)
    go_wp2_with fail
    refine (works32_any _).mono ?_
    rintro e w2 ⟨rfl, b2⟩
    have B := B.trans (b2.mono B.size)
    go_wp2
    go_ret
    exact ⟨(ret_eq (by first | rfl | (simp <;> omega))), B⟩

  have HALL := Lib.hid hall
  clear hall
  by_cases h2 : m = 0
  · have hzm : ((m : Int) == 0) = true := by rw [beq_iff_eq]; omega
    clear h2
    go_enter Tryd.func10, Tryd.ntmps10
    go_wp2_with fail
    refine HWR.out.mono ?_
    rintro e w0 hq
    obtain ⟨at_, cc, rfl, hat, b0⟩ := hq.say
    obtain rfl : at_ = -1 := by rcases hat with h | h; exact h.2; exact absurd HALL.out h.2
    clear hq
    go_wp2_with fail
    refine (works32_any _).mono ?_
    rintro e w1 ⟨rfl, b1⟩
    have B := b0.trans (b1.mono b0.size)
    go_wp2_with fail
    refine (works32_any _).mono ?_
    rintro e w2 ⟨rfl, b2⟩
    have B := B.trans (b2.mono B.size)
    go_wp2
    go_ret
    exact ⟨(ret_eq (by first | rfl | (simp <;> omega))), B⟩

  have hzm : ((m : Int) == 0) = false := by rw [beq_eq_false_iff_ne]; omega
  by_cases h3 : 60 < m
  · have hd60 : decide ((60 : Int) < m) = true := by rw [decide_eq_true_eq]; omega
    go_enter Tryd.func10, Tryd.ntmps10
    go_wp2_with fail
    refine HWR.out.mono ?_
    rintro e w0 hq
    obtain ⟨at_, cc, rfl, hat, b0⟩ := hq.say
    obtain rfl : at_ = -1 := by rcases hat with h | h; exact h.2; exact absurd HALL.out h.2
    clear hq
    go_wp2_with fail
    refine (works32_any _).mono ?_
    rintro e w1 ⟨rfl, b1⟩
    have B := b0.trans (b1.mono b0.size)
    go_wp2_with fail
    refine (works32_any _).mono ?_
    rintro e w2 ⟨rfl, b2⟩
    have B := B.trans (b2.mono B.size)
    go_wp2
    go_ret
    exact ⟨(ret_eq (by first | rfl | (simp <;> omega))), B⟩

  have hd60 : decide ((60 : Int) < m) = false := by rw [decide_eq_false_iff_not]; omega
  have hd60n : decide (60 < m) = false := by rw [decide_eq_false_iff_not]; omega
  by_cases hs : soundB P = false
  · go_enter Tryd.func10, Tryd.ntmps10
    go_wp2_with fail
    refine HWR.out.mono ?_
    rintro e w0 hq
    obtain ⟨at_, cc, rfl, hat, b0⟩ := hq.say
    obtain rfl : at_ = -1 := by rcases hat with h | h; exact h.2; exact absurd HALL.out h.2
    clear hq
    go_wp2_with fail
    refine (works32_any _).mono ?_
    rintro e w1 ⟨rfl, b1⟩
    have B := b0.trans (b1.mono b0.size)
    have hse := rsound_any _ _ _ _ (HP.out.below B)
    rw [← sound_iff, hs] at hse
    go_wp2_with fail
    refine hse.mono ?_
    rintro e w3 ⟨rfl, b3⟩
    have B := B.trans (b3.mono B.size)
    go_wp2_with fail
    refine (works32_any _).mono ?_
    rintro e w2 ⟨rfl, b2⟩
    have B := B.trans (b2.mono B.size)
    go_wp2
    go_ret
    exact ⟨(ret_eq (by first | rfl | (simp <;> omega))), B⟩

  have hs : soundB P = true := by simpa using hs
  have HS := Lib.hid hs
  exact mainW W ao po i n ca m pc Ls P HN.out HM.out HA.out HP.out HC.out hcap (by omega) (by omega) HALL.out (by omega) (by omega) HS.out
set_option maxRecDepth 100000 in
theorem walk {H : Type} {enc : TypeId × Value → H} (W : World) (u : Value) {base : Nat} {d : DataW H} {p : List MemPlace} (hv : Value.okWide Tryd.prog W .any base 60 u) (h : DataW.Trod enc Tryd.prog W 0 (fun _ => true) true 60 u d p) (i : Int) (_ : (Lit.int .i64 i).wf = true) (u' : Value) {base' : Nat} {d' : DataW H} {p' : List MemPlace} (hv' : Value.okWide Tryd.prog W .any base' 22 u') (h' : DataW.Trod enc Tryd.prog W 0 (fun _ => true) true 22 u' d' p') (_ : laidMetH Tryd.prog Rows.gridRowsRow.laid W) : Calls Tryd.prog 10 #[u, .int .i64 i, u'] W (Yes W) := by
  obtain ⟨L, hL2⟩ := lines_arg hv h
  obtain ⟨P, hP2, _⟩ := cells_arg hv' h'
  exact walkH W u u' i L P _ _ hL2 hP2

theorem door_met (os : Os) : laidMetH Tryd.prog Rows.gridRowsRow.laid ((World.doorLaid Tryd.prog 400 os).forCall (fun _ _ => 0) ⟨#[], #[.slice none 0 0, .int .i64 0, .slice none 0 0], []⟩).memory :=
  laidMetH_of_parts3 (fuel := 8) (laidMet_of_run' 8 (by kernel_rfl) (by kernel_rfl)) (by kernel_rfl) (by kernel_rfl)

set_option maxRecDepth 100000 in
theorem lifted (os : Os) (started : os.Started) (H : Type) (enc : TypeId × Value → H) :
    ReturnsInHanded {} Tryd.checked os 10 .any (fun w args => (Rows.gridRowsSpec.pre enc Tryd.prog Tryd.f10 [] false w args ∧ laidMetH Tryd.prog Rows.gridRowsRow.laid w) ∧ sizedMet enc Tryd.prog Tryd.f10 (OpenSpec.ofChange Rows.gridRowsSpec) false w args)
      (Rows.gridRowsSpec.post enc Tryd.prog Tryd.f10 false true false false) := by
  refine law_frame (C := Tryd.checked) (tb := 4) (by kernel_rfl) started (by kernel_rfl) Tryd.func10 (by kernel_rfl) (by kernel_rfl) Tryd.underlying4 rfl
    (by rw [Tryd.params10]; intro t ht; simp at ht; rcases ht with rfl | rfl | rfl <;> exact ⟨by kernel_rfl, of_decide_eq_true (by kernel_rfl)⟩)
    (by rw [Tryd.params10]; intro ds hd; match ds, hd with | [_, _, _], _ => rfl)
    (ChangeSpec.witness_shaped (enc := enc) (C := Tryd.checked) (os := os) (X := fun w _ => laidMetH Tryd.prog Rows.gridRowsRow.laid w) false (World.doorLaid Tryd.prog 400 os) #[.slice none 0 0, .int .i64 0, .slice none 0 0] 8 rfl (World.shaped_of_RefB (by kernel_rfl) (by kernel_rfl)) (by kernel_rfl) (by kernel_rfl) (by kernel_rfl) (door_met os)) ?_
  intro W base args ds before hval hA hsz hL
  rw [Tryd.params10] at hA hval
  obtain ⟨v0, vs0, d0, ds0, p0, q0, hargs, rfl, rfl, h0, r0⟩ := trodAll_cons hA
  obtain ⟨v1, vs1, d1, ds1, p1, q1, rfl, rfl, rfl, h1, r1⟩ := trodAll_cons r0
  obtain ⟨v2, vs2, d2, ds2, p2, q2, rfl, rfl, rfl, h2, r2⟩ := trodAll_cons r1
  obtain ⟨rfl, rfl, rfl⟩ := trodAll_nil r2
  obtain rfl : args = #[v0, v1, v2] := by cases args; simp_all
  obtain ⟨x1, rfl, rfl, rfl, wx1⟩ := open_int Tryd.underlying3 (hval 1 3 v1 rfl rfl) h1
  exact walk W v0 (hval 0 60 v0 rfl rfl) h0 x1 wx1 v2 (hval 2 22 v2 rfl rfl) h2 hL

theorem said : Rows.GridRowsSaid :=
  OpenClaim.holds_of_wide 10 Tryd.f10 rfl rfl rfl rfl rfl rfl rfl ⟨rfl, rfl, rfl, rfl, rfl⟩ rfl rfl rfl rfl rfl (by kernel_rfl) Tryd.func10 (by kernel_rfl)
    (of_decide_eq_true (by kernel_rfl)) (by unfold Func.isWrapper; first | (rw [if_pos (by decide +kernel)]; kernel_rfl) | (rw [if_neg (by decide +kernel)]; exact ⟨rfl, rfl⟩))
    (fun os started H enc _ => lifted os started H enc)

theorem plain (f : FuncId) (fn : Func) (hf : Tryd.pinned.checked.prog.funcNamed "linotype/linotypelaw32.GridRows" = some f) (hfn : Tryd.pinned.checked.prog.funcs[f]? = some fn) :
    true = Tryd.pinned.checked.prog.looks [] ∧ ∀ (j : Nat) t, fn.params[j]? = some t → Tryd.pinned.checked.prog.wantsStandIn t = false := by
  obtain rfl : f = 10 := Option.some.inj ((show Tryd.prog.funcNamed "linotype/linotypelaw32.GridRows" = some 10 by kernel_rfl).symm.trans hf) |>.symm
  obtain rfl : fn = Tryd.f10 := (Option.some.inj (Tryd.func10.symm.trans hfn)).symm
  refine ⟨by kernel_rfl, fun j t ht => ?_⟩
  rw [Tryd.params10] at ht
  have hm : t ∈ [60, 3, 22] := by simpa using Array.mem_of_getElem? ht
  have hall : ([60, 3, 22].all fun u => !Tryd.prog.wantsStandIn u) = true := by kernel_rfl
  exact (show Tryd.prog.wantsStandIn t = false by simpa using List.all_eq_true.1 hall t hm)

/-- THE CARD. -/
theorem card : Rows.GridRowsCardSaid :=
  Claim7.holds_tied_plain_at .later [] _ _ _ _ said (fun _ h => by cases h) (by kernel_rfl) (fun _ h => by cases h) gridRows_row_tie rfl ⟨rfl, rfl⟩ (by kernel_rfl) rfl plain (by kernel_rfl)
#print axioms card

end Go.Proofs.YtmclmhdlnlcafaaDoor.lawGridRows
