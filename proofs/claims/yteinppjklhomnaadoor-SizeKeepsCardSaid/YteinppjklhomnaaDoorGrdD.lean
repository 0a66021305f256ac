/- Grids of lines: Of. -/
import Derived.Test.YteinppjklhomnaaDoorGrdC
import Derived.Test.YteinppjklhomnaaDoorMg5
import Derived.Test.YteinppjklhomnaaDoorMg2
import Derived.Test.YteinppjklhomnaaDoorMg4
namespace Go.Proofs.YteinppjklhomnaaDoor
open Go.RowKit Go.ChangeShapes Go.WideShapes
section
variable {w w' : World} {B gg wd : Nat} {v v' : Value} {Xs Xs' : List (Option Nat)} {Rs : List Rw}
/-- The rows' slice is another one. -/
theorem PartAt.grow (h : PartAt w B gg wd v Xs Rs) (ho : OwnE ptrE (fun _ => True) w' B 86 v' Xs') (hb : Below B w w') (hk : KeepZ (fun b => v.ownBlock ≠ some b) w w') (hd : ∀ b, b < w.heap.size → v.ownBlock ≠ some b → v'.ownBlock ≠ some b) : PartAt (w'.setCell ⟨gg, 1, none⟩ v') B gg wd v' Xs' Rs ∧ w'.cell? ⟨gg, 1, none⟩ = some v ∧ w'.frozen? ⟨gg, 1, none⟩ = false := by
  have hlt := h.lt
  have hga : v.ownBlock ≠ some gg := fun e => (h.apart e).1 rfl
  have hro : ∀ i, i < Rs.length → v.ownBlock ≠ some (Rs.getD i r0).g ∧ v.ownBlock ≠ some (Rs.getD i r0).gc := fun i hi => ⟨fun e => ((h.apart e).2 i hi).1 rfl, fun e => ((h.apart e).2 i hi).2 rfl⟩
  have hgp := h.gapart
  obtain ⟨Z, h1, h2, h3, h4, h5, h6, h7, h8⟩ := h
  have h2' := hk.has h2 hga
  have hu : Upd (fun b => v.ownBlock = some b) w w' := ⟨hb.os, hb.tape, hb.output, hk.size, fun b hb' hn => hk.block b hb' hn⟩
  have h7' := h7.upd hu (fun b hz e => h6 b e hz) (fun i hi => hro i hi)
  have hu2 := (Upd.refl (fun b => b = gg) w').setCell (p := ⟨gg, 1, none⟩) (.inl rfl) v'
  have hvg : ∀ b, v'.ownBlock = some b → b ≠ gg := fun b e e2 => by
    obtain ⟨C, hC⟩ := own_type ho e
    rw [e2] at hC
    exact other_type h2' hC (by decide)
  refine ⟨⟨Z, fun b hz => ⟨(h1 b hz).1, Nat.lt_of_lt_of_le (h1 b hz).2 (Nat.le_trans hk.size hu2.size)⟩, ?_, h3, own_ptrs (hu2.keep.own ho.ptrs fun b e => hvg b e), h5, fun b e hz => ?_, h7'.upd hu2 (fun b hz e => h5 (e ▸ hz)) (fun i hi => hgp i hi), h8⟩, h2'.cell 1 _ rfl, h2'.free 1⟩
  · have := h2'.set 1 v'
    simpa using this
  · by_cases e2 : v.ownBlock = some b
    · exact h6 b e2 hz
    · exact hd b (h1 b hz).2 e2 e
end
def OfTold (sa : Nat → Addr) (w : World) (Ls : List Ln) (e : Ending) (w' : World) : Prop := (AllGood Ls → ∃ gg gr Rs, e = .returned (.tuple #[.pointer (some ⟨gg, 0, none⟩), .nilIface]) ∧ GridAt w' w.heap.size gg gr (firstN Ls) Rs ∧ Rs.map lineOf = Ls) ∧ (∀ i c : Nat, FirstBad Ls i c → ∃ u, e = .returned (.tuple #[.pointer none, u]) ∧ F.IsErr sa w' u [(i : Int)] c) ∧ Below w.heap.size w w'
theorem OfTold.bad {sa : Nat → Addr} {w w' : World} {Ls : List Ln} {k c : Nat} {u : Value} (hk : k < Ls.length) (h : ∀ j, j < k → codeAt (firstN Ls) (Ls.getD j zl) = 0) (hc : codeAt (firstN Ls) (Ls.getD k zl) = c) (hn : c ≠ 0) (he : F.IsErr sa w' u [(k : Int)] c) (hb : Below w.heap.size w w') : OfTold sa w Ls (.returned (.tuple #[.pointer none, u])) w' := by
  refine ⟨fun hg => absurd (hc.symm.trans (hg k hk)) hn, fun i c' hf => ?_, hb⟩
  obtain ⟨rfl, rfl⟩ := first_one hk h (by rw [hc]; exact hn) hf
  exact ⟨u, rfl, by rw [hc]; exact he⟩
set_option maxRecDepth 100000 in
theorem gof_range (sa : Nat → Addr) (Z : Zone) (v : Value) (Ls : List Ln) (w : World) (hs : Sents w sa) (hv : HeldE lineE Z w v Ls) (hbad : Ls.length = 0 ∨ 1024 < Ls.length) : Calls Tryd.prog 19 #[v] w (Gives w (.tuple #[.pointer none, .iface 194 (.pointer (some (sa 2)))])) := by
  have c2 := hs.cell 2 (by decide)
  simp only [glob] at c2
  have hm := hv.max
  obtain ⟨ao, pc, rfl⟩ := hv.len
  clear hs hv
  rcases hbad with h0 | h0
  · have hz : ((Ls.length : Int) == 0) = true := by rw [h0]; rfl
    clear h0
    go_enter Tryd.func19, Tryd.ntmps19
    go_wp2
    go_quiet (fail)
    go_wp2
    go_ret2
    exact ⟨rfl, (Below.refl _ _).drewN _⟩
  · have hz : ((Ls.length : Int) == 0) = false := by rw [beq_eq_false_iff_ne]; omega
    go_enter Tryd.func19, Tryd.ntmps19
    go_wp2
    go_quiet (fail)
    go_wp2
    go_ret2
    exact ⟨rfl, (Below.refl _ _).drewN _⟩
def OfInv (w : World) (gg wd : Nat) (Ls : List Ln) (k : Nat) (wr : World) : Prop := ∃ v Rs, Rs.length = k ∧ PartAt wr w.heap.size gg wd v (ptrs Rs) Rs ∧ Rs.map lineOf = Ls.take k ∧ Below w.heap.size w wr
theorem wrongs_told {sa : Nat → Addr} {w : World} (k m : Nat) (hm : m < 8) : F.IsErr sa (w.alloc (.cells #[.int .i64 k, .iface 194 (.pointer (some (sa m)))] 145)) (.iface 143 (.pointer (some ⟨w.heap.size, 0, none⟩))) [(k : Int)] (m + 1) := by
  have hH := Has.new w [.int .i64 k, .iface 194 (.pointer (some (sa m)))] 145
  exact F.IsErr.fault _ 0 _ _ [] (m + 1) (hH.cell 0 _ rfl) (hH.cell 1 _ rfl) (F.IsErr.sent (sa := sa) m hm)
set_option maxRecDepth 100000 in
set_option maxHeartbeats 3000000 in
theorem gof_any (sa : Nat → Addr) (Z : Zone) (v : Value) (Ls : List Ln) (w : World) (hs : F.Sents w sa) (hv : HeldE lineE Z w v Ls) (h0 : 0 < Ls.length) (h1 : Ls.length ≤ 1024) : Calls Tryd.prog 19 #[v] w (OfTold sa w Ls) := by
  have hv := hv.lower
  obtain ⟨ao, cap, rfl⟩ := hv.len
  have HSA := Lib.hid hs
  obtain ⟨n, hn⟩ : ∃ n, n = Ls.length := ⟨_, rfl⟩
  have hc := (lines_at hv).2.2
  have hcap := (lines_at hv).2.1
  have HN := Lib.hid hn
  rw [← hn] at hc hcap h0 h1 ⊢
  have HC := Lib.hid hc
  obtain ⟨b0, off0, cv0, rfl, hb0, _, z0, _, hz0⟩ := hc 0 h0
  obtain ⟨a0, x0, rfl⟩ := hz0.len
  obtain ⟨n0, hn0⟩ : ∃ n0, n0 = firstN Ls := ⟨_, rfl⟩
  rw [show (Ls.getD 0 zl).1.length = firstN Ls from rfl, ← hn0, Nat.zero_mul, Nat.add_zero] at z0
  have HN0 := Lib.hid hn0
  have hhz : ((n : Int) == 0) = false := by rw [beq_eq_false_iff_ne]; omega
  have hhd : decide ((1024 : Int) < n) = false := by rw [decide_eq_false_iff_not]; omega
  have hhdn : decide (1024 < n) = false := by rw [decide_eq_false_iff_not]; omega
  have hb2 : Below w.heap.size w (w.alloc (.cells #[.int .i64 n0, .slice none 0 0] 102)) := (Below.refl _ _).alloc (Nat.le_refl _) _
  have hh2 := Has.new w [.int .i64 n0, .slice none 0 0] 102
  have HI0 := Lib.hid (show OfInv w w.heap.size n0 Ls 0 (w.alloc (.cells #[.int .i64 n0, .slice none 0 0] 102)) from ⟨.slice none 0 0, [], rfl, ⟨fun _ => False, fun b h => h.elim, hh2, Nat.le_refl _, OwnE.nil _ _ _ _ _, fun h => h, (fun b e => by cases e), RowsAt.nil _ _ _, fun i hi => absurd hi (Nat.not_lt_zero _)⟩, rfl, hb2⟩)
  obtain ⟨gg, hge⟩ : ∃ gg, gg = w.heap.size := ⟨_, rfl⟩
  have HGG := Lib.hid hge
  rw [← hge] at HI0
  clear hc hv hn hn0 hb2 hh2 hs hz0 hb0 hge
  go_enter Tryd.func19, Tryd.ntmps19
  go_wp2
  rw [← HGG.out]
  clear z0 hhz hhd hhdn
  go_loopw [27] (fun i wr => ∃ k : Nat, k ≤ n ∧ i = .int .i64 k ∧ Go.RowKit.Hid (∀ j, j < k → codeAt (firstN Ls) (Ls.getD j zl) = 0) ∧ OfInv w gg n0 Ls k wr) (fun i _ => n - (intOf i).toNat)
  case atStart => exact ⟨0, Nat.zero_le _, rfl, Lib.hid (fun j hj => absurd hj (Nat.not_lt_zero _)), HI0.out⟩
  case round =>
    obtain ⟨k, hk, rfl, HOK, hinv⟩ := hrel
    obtain ⟨pv, Rs, hRl, hp, hRm, hbw⟩ := hinv
    have HP := Lib.hid hp
    have HRL := Lib.hid hRl
    have HRM := Lib.hid hRm
    have HBW := Lib.hid hbw
    clear hp hRl hRm hbw
    by_cases hlt : k < n
    · obtain ⟨b, off, cv, e0, hb, _, c0, c1, hh⟩ := HC.out k hlt
      cases e0
      have hcc := code_cases (firstN Ls) (Ls.getD k zl)
      have HKL := Lib.hid (show k < Ls.length by rw [← HN.out]; exact hlt)
      obtain ⟨⟨X, wrap⟩, hX⟩ : ∃ y, y = Ls.getD k zl := ⟨_, rfl⟩
      have HXE := Lib.hid hX
      rw [← hX] at c1 hh hcc
      simp only at c1 hh hcc
      have hxm := hh.max
      have HX := Lib.hid hh
      obtain ⟨a1, x1, rfl⟩ := hh.len
      have c0 := (HBW.out.cell (p := ⟨b0, off0 + k * 2, none⟩) hb).trans c0
      have c1 := (HBW.out.cell (p := ⟨b0, off0 + k * 2 + 1, none⟩) hb).trans c1
      have HHX := Lib.hid (show codeAt (firstN Ls) (X, wrap) = codeAt (firstN Ls) (Ls.getD k zl) by rw [hX])
      obtain ⟨W1, hW1⟩ : ∃ W1, W1 = wr.alloc (.cells #[.slice a1 X.length x1, .bool wrap] 59) := ⟨_, rfl⟩
      have hb1 : Below wr.heap.size wr W1 := by rw [hW1]; exact (Below.refl _ _).alloc (Nat.le_refl _) _
      have HH := Lib.hid (show Has W1 wr.heap.size [.slice a1 X.length x1, .bool wrap] 59 by rw [hW1]; exact Has.new wr _ _)
      have HB1 := Lib.hid (HBW.out.trans (hb1.mono HBW.out.size))
      have HP1 := Lib.hid (HP.out.below hb1)
      have HX1 := Lib.hid (HX.out.below HB1.out)
      obtain ⟨gb, hgb⟩ : ∃ gb, gb = wr.heap.size := ⟨_, rfl⟩
      rw [← hgb] at HH
      have HGB := Lib.hid hgb
      have hgl : gg < gb ∧ (∀ b, pv.ownBlock = some b → b < gb) := ⟨by rw [hgb]; exact HP.out.lt.2.1, fun b e => by rw [hgb]; exact (HP.out.lt.2.2 b e).2⟩
      have HGL := Lib.hid hgl
      clear hh hX hb hb1 hgb hgl
      go_upto_region 7 with (fail)
      rw [← HGB.out, ← hW1]
      clear hW1 c0 c1
      have d0 := HH.out.cell 0 _ rfl
      rcases hcc with ⟨hcd, hbad⟩ | ⟨hx0, hx1, ⟨hcd, hsd⟩ | ⟨hsd, hrest⟩⟩
      · have HCD := Lib.hid (HHX.out.symm.trans hcd)
        have hq := rof_range sa _ X _ W1 (sents_f (HSA.out.below HB1.out)) HX1.out hbad
        clear hcd hbad
        go_wp2_with fail
        clear d0
        refine hq.mono ?_
        rintro e w2 ⟨rfl, b2⟩
        have HB2 := Lib.hid (HB1.out.trans (b2.mono HB1.out.size))
        clear b2 hq
        go_wp2_with fail
        refine (F.wrong_any w2 (k : Int) _ _).mono ?_
        rintro e w4 ⟨rfl, rfl⟩
        have HE := Lib.hid (wrongs_told (sa := sa) (w := w2) k 2 (by decide))
        have HB4 := Lib.hid (HB2.out.alloc HB2.out.size (.cells #[.int .i64 k, .iface 194 (.pointer (some (sa 2)))] 145))
        go_wp2
        go_ret2
        exact OfTold.bad HKL.out HOK.out HCD.out (by decide) HE.out HB4.out
      · have HCD := Lib.hid (HHX.out.symm.trans hcd)
        have hq := rof_kind sa _ X _ W1 (sents_f (HSA.out.below HB1.out)) HX1.out hx0 hx1 hsd
        clear hcd hsd
        go_wp2_with fail
        clear d0
        refine hq.mono ?_
        rintro e w2 ⟨rfl, b2⟩
        have HB2 := Lib.hid (HB1.out.trans (b2.mono HB1.out.size))
        clear b2 hq
        go_wp2_with fail
        refine (F.wrong_any w2 (k : Int) _ _).mono ?_
        rintro e w4 ⟨rfl, rfl⟩
        have HE := Lib.hid (wrongs_told (sa := sa) (w := w2) k 4 (by decide))
        have HB4 := Lib.hid (HB2.out.alloc HB2.out.size (.cells #[.int .i64 k, .iface 194 (.pointer (some (sa 4)))] 145))
        go_wp2
        go_ret2
        exact OfTold.bad HKL.out HOK.out HCD.out (by decide) HE.out HB4.out
      · have HSD := Lib.hid hsd
        have HRE := Lib.hid hrest
        clear hsd hrest
        have hq := rof_ok _ X _ W1 HX1.out hx0 hx1 HSD.out
        go_wp2_with fail
        clear d0
        refine hq.mono ?_
        rintro e w2 ⟨g, gc, rfl, hr2, b2⟩
        have HR2 := Lib.hid hr2
        have HB2 := Lib.hid (HB1.out.trans (b2.mono HB1.out.size))
        have HBX := Lib.hid b2
        clear hr2 b2 hq
        have e0 := ext_cell ((by obtain ⟨Z9, k1, k2, _⟩ := HP1.out.below HBX.out; exact k2.cell 0 _ rfl) : w2.cell? ⟨gg, 0, none⟩ = some (.int .i64 n0))
        rcases HRE.out with ⟨hcd, hne⟩ | ⟨hcd, heq⟩
        · have hnn : ((X.length : Int) != (n0 : Int)) = true := by rw [← HN0.out] at hne; simp; omega
          have HCD := Lib.hid (HHX.out.symm.trans hcd)
          clear hcd hne
          go_wp2
          refine wp_region_ext (by kernel_rfl) (by kernel_rfl) ?_
          repeat (go_big_quiet_step (((go_at_call 61; exact callx_same (rwide_any _ _ g gc X false (ext w2 _) (HR2.out.below (Growth.ok _)))))))
          refine wpQuiet_nil ?_
          intro _ hw'
          obtain ⟨u, hw''⟩ := hw'
          subst hw''
          obtain ⟨w3, hw3⟩ : ∃ w3, w3 = ext w2 u := ⟨_, rfl⟩
          have HB3 := Lib.hid (show Below w.heap.size w w3 by rw [hw3]; exact ext_below HB2.out u)
          rw [← hw3]
          clear hw3 e0
          have c2 := (HSA.out.below HB3.out).cell 2 (by decide)
          simp only [F.glob] at c2
          go_wp2_with fail
          refine (F.wrong_any w3 (k : Int) _ _).mono ?_
          rintro e w4 ⟨rfl, rfl⟩
          have HE := Lib.hid (wrongs_told (sa := sa) (w := w3) k 2 (by decide))
          have HB4 := Lib.hid (HB3.out.alloc HB3.out.size (.cells #[.int .i64 k, .iface 194 (.pointer (some (sa 2)))] 145))
          clear c2
          go_wp2
          go_ret2
          exact OfTold.bad HKL.out HOK.out HCD.out (by decide) HE.out HB4.out
        · have hnn : ((X.length : Int) != (n0 : Int)) = false := by rw [← HN0.out] at heq; simp; omega
          have HEQ := Lib.hid (show X.length = n0 by rw [HN0.out]; exact heq)
          have HCD := Lib.hid (HHX.out.symm.trans hcd)
          clear hcd heq
          go_wp2
          refine wp_region_ext (by kernel_rfl) (by kernel_rfl) ?_
          repeat (go_big_quiet_step (((go_at_call 61; exact callx_same (rwide_any _ _ g gc X false (ext w2 _) (HR2.out.below (Growth.ok _)))))))
          refine wpQuiet_nil ?_
          intro _ hw'
          obtain ⟨u, hw''⟩ := hw'
          subst hw''
          obtain ⟨w3, hw3⟩ : ∃ w3, w3 = ext w2 u := ⟨_, rfl⟩
          have b3 : Below w2.heap.size w2 w3 := by rw [hw3]; exact u.ok
          rw [← hw3]
          have HR3 := Lib.hid (HR2.out.below b3)
          have HBY := Lib.hid (HBX.out.trans (b3.mono HBX.out.size))
          clear hw3 e0 b3 hnn
          have HH3 := Lib.hid (HH.out.below HBY.out HH.out.lt)
          have d1 := HH3.out.cell 1 _ rfl
          have hg := rgoon_any _ _ g gc X false wrap w3 HR3.out
          go_wp2_with fail
          refine hg.mono ?_
          rintro e w4 ⟨rfl, hr4, u4⟩
          have hrl := HR3.out.lt
          have hb4 : Below W1.heap.size W1 w4 := HBY.out.upd u4 HBY.out.size (fun x e => by rcases e with e | e <;> omega)
          have hp4 := HP1.out.next hr4 HEQ.out hb4
          have hb4' : Below w.heap.size w w4 := HB1.out.trans (hb4.mono HB1.out.size)
          have HB4 := Lib.hid hb4'
          have HP4 := Lib.hid hp4
          have HV := Lib.hid (show (∃ Z9, Z9 = gg) ∧ OwnE ptrE (fun _ => True) w4 w.heap.size 86 pv (ptrs Rs) ∧ w4.cell? ⟨gg, 1, none⟩ = some pv by
            obtain ⟨Z9, k1, k2, k3, k4, _⟩ := hp4
            exact ⟨⟨gg, rfl⟩, k4, k2.cell 1 _ rfl⟩)
          clear hr4 u4 hg d1 hb4 hb4' hp4 hrl
          have f1 := HV.out.2.2
          have hlen : (ptrs Rs).length ≤ 1024 := by rw [ptrs_len, HRL.out]; omega
          have b5 := (Below.refl w4.heap.size w4).alloc (Nat.le_refl _) (.cells [ptrV (some g)].toArray 86)
          have hlo := HV.out.2.1.lt
          have HU := Lib.hid (show HeldE ptrE (fun b => True ∧ pv.ownBlock ≠ some b) (w4.alloc (.cells [ptrV (some g)].toArray 86)) (.slice (some ⟨w4.heap.size, 0, none⟩) 1 1) [some g] from heldE_one (Y := fun _ => False) [ptrV (some g)] (some g) rfl (fun _ _ h => h.elim) ⟨trivial, fun e => by have := (hlo _ e).2; omega⟩)
          have HO := Lib.hid (HV.out.2.1.below b5)
          have HB5 := Lib.hid (HB4.out.trans (b5.mono HB4.out.size))
          have HP5 := Lib.hid (HP4.out.below b5)
          clear b5 hlo
          go_wp2_with (at_builtin; refine wpList_append_e (E := ptrE) (Z := fun _ => True) rfl (.tmp 61) (.tmp 63) 100 rfl (.pointer none) 8 Tryd.underlying100 info_rowp rfl (by decide) rfl rfl HO.out HU.out (by simp only [List.length_singleton]; omega) (by simp only [List.length_singleton]; omega) HB5.out.size ?_)
          intro v6 w6 ho6 b6 hk6 hd6
          obtain ⟨hp6, k0, k1⟩ := HP5.out.grow ho6 b6 hk6 (fun b hb hn => hd6 b (by simpa using hb) hn)
          obtain ⟨a6, c6, he6⟩ := (ho6.held (Z := fun _ => True) (fun _ _ _ => trivial)).len
          rw [List.length_append, List.length_singleton] at he6
          have hnx : ptrs Rs ++ [some g] = ptrs (Rs ++ [⟨g, gc, X, wrap⟩]) := by simp [ptrs]
          rw [hnx] at hp6
          have hgB := HP5.out.lt
          have hb7 : Below w.heap.size w (w6.setCell ⟨gg, 1, none⟩ v6) := (HB5.out.trans b6).setCell (p := ⟨gg, 1, none⟩) hgB.1 v6
          have HF := Lib.hid (And.intro hp6 hb7)
          subst he6
          have k0 := k0
          clear ho6 b6 hk6 hd6 hp6 hnx hgB hb7 f1
          go_wp2
          have HI := Lib.hid (show OfInv w gg n0 Ls (k + 1) _ from ⟨_, Rs ++ [⟨g, gc, X, wrap⟩], by simp [HRL.out], HF.out.1, by
            rw [List.map_append, HRM.out, List.take_succ_eq_append_getElem HKL.out]
            have : Ls[k]'HKL.out = (X, wrap) := by rw [HXE.out]; simp [List.getD, List.getElem?_eq_getElem HKL.out]
            rw [this]
            rfl, HF.out.2⟩)
          have HOK2 := Lib.hid (show ∀ j, j < k + 1 → codeAt (firstN Ls) (Ls.getD j zl) = 0 from fun j hj => by
            by_cases e : j = k
            · subst e; exact HCD.out
            · exact HOK.out j (by omega))
          go_roundw
          case rel => exact ⟨k + 1, by omega, by go_num, HOK2, HI.out⟩
          case measure => simp [intOf] <;> omega
    · obtain rfl : k = n := by omega
      have hRm := HRM.out
      rw [HN.out, List.take_of_length_le (Nat.le_refl _)] at hRm
      obtain ⟨gr, hg⟩ := HP.out.full (by rw [HRL.out]; exact h0) (by rw [HRL.out]; exact h1)
      have hok := HOK.out
      rw [HN.out] at hok
      have HF := Lib.hid (show OfTold sa w Ls (.returned (.tuple #[.pointer (some ⟨gg, 0, none⟩), .nilIface])) wr from ⟨fun _ => ⟨gg, gr, Rs, rfl, by rw [← HN0.out]; exact hg, hRm⟩, fun i c hf => (first_none hok hf).elim, HBW.out⟩)
      clear hRm hg hok
      go_wp2
      go_ret2
      exact HF.out
end Go.Proofs.YteinppjklhomnaaDoor
