/- Grids below a bound; lines that are turned; Of of good lines. -/
import Derived.Test.YteinppjklhomnaaDoorGrdG
import Derived.Test.YteinppjklhomnaaDoorGrdD
namespace Go.Proofs.YteinppjklhomnaaDoor
open Go.RowKit Go.ChangeShapes Go.WideShapes
/-- A grid all of whose blocks lie below M. -/
def GridM (M : Nat) (w : World) (B gg gr wd : Nat) (Rs : List Rw) : Prop :=
  M ≤ w.heap.size ∧ ∃ (Z : Zone) (cap : Nat), (∀ b, Z b → B ≤ b ∧ b < M) ∧ gg < M ∧ gr < M ∧ (∀ i, i < Rs.length → (Rs.getD i r0).g < M ∧ (Rs.getD i r0).gc < M) ∧ Has w gg [.int .i64 wd, .slice (some ⟨gr, 0, none⟩) Rs.length cap] 102 ∧ B ≤ gg ∧ OwnE ptrE (fun _ => True) w B 86 (.slice (some ⟨gr, 0, none⟩) Rs.length cap) (ptrs Rs) ∧ ¬ Z gg ∧ ¬ Z gr ∧ RowsAt Z w B Rs ∧ (∀ i, i < Rs.length → (Rs.getD i r0).L.length = wd) ∧ 0 < Rs.length ∧ Rs.length ≤ 1024
theorem GridAt.toM {w : World} {B gg gr wd : Nat} {Rs : List Rw} (h : GridAt w B gg gr wd Rs) : GridM w.heap.size w B gg gr wd Rs := by
  have hl := h.lt
  obtain ⟨Z, cap, h1, h2, h3, h4, h5, h6, h7, h8⟩ := h
  exact ⟨Nat.le_refl _, Z, cap, h1, hl.2.1, hl.2.2.2.1, fun i hi => ⟨(hl.2.2.2.2.2 i hi).1, (hl.2.2.2.2.2 i hi).2.1⟩, h2, h3, h4, h5, h6, h7, h8⟩
theorem GridM.at {M : Nat} {w : World} {B gg gr wd : Nat} {Rs : List Rw} (h : GridM M w B gg gr wd Rs) : GridAt w B gg gr wd Rs := by
  obtain ⟨hM, Z, cap, h1, k1, k2, k3, h2, h3, h4, h5, h6, h7, h8⟩ := h
  exact ⟨Z, cap, fun b hz => ⟨(h1 b hz).1, Nat.lt_of_lt_of_le (h1 b hz).2 hM⟩, h2, h3, h4, h5, h6, h7, h8⟩
theorem GridM.keep {M : Nat} {S : Zone} {w w' : World} {B gg gr wd : Nat} {Rs : List Rw} (h : GridM M w B gg gr wd Rs) (hu : Upd S w w') (hs : ∀ b, B ≤ b → b < M → ¬ S b) : GridM M w' B gg gr wd Rs := by
  obtain ⟨hM, Z, cap, h1, k1, k2, k3, h2, h3, h4, h5, h6, h7, h8⟩ := h
  have hk := hu.keep
  refine ⟨Nat.le_trans hM hu.size, Z, cap, h1, k1, k2, k3, hk.has h2 (hs _ h3 k1), h3, ?_, h5, h6, h7.upd hu (fun b hz => hs b (h1 b hz).1 (h1 b hz).2) (fun i hi => ⟨hs _ (h7.lt i hi).2.2.2 (k3 i hi).1, hs _ (h7.lt i hi).2.2.1 (k3 i hi).2⟩), h8⟩
  exact own_ptrs (hk.own h4.ptrs fun b hb => by
    have : gr = b := by simpa [Value.ownBlock] using hb
    subst this
    exact hs _ (h4.lt gr rfl).1 k2)
theorem GridM.below {M : Nat} {w w' : World} {B gg gr wd : Nat} {Rs : List Rw} (h : GridM M w B gg gr wd Rs) (hb : Below w.heap.size w w') : GridM M w' B gg gr wd Rs := h.keep (S := fun _ => False) (.ofBelow hb) fun _ _ _ e => e
/-- Whether a row of the grid goes on. -/
theorem ggoonM_any (M B gg gr wd i : Nat) (Rs : List Rw) (b : Bool) (w : World) (h : GridM M w B gg gr wd Rs) (hi : i < Rs.length) : Calls Tryd.prog 62 #[.pointer (some ⟨(Rs.getD i r0).g, 0, none⟩), .bool b] w fun e w' => e = .returned (.tuple #[]) ∧ GridM M w' B gg gr wd (Rs.set i ⟨(Rs.getD i r0).g, (Rs.getD i r0).gc, (Rs.getD i r0).L, b⟩) ∧ Upd (fun x => x = (Rs.getD i r0).g ∨ x = (Rs.getD i r0).gc) w w' := by
  obtain ⟨cap', hp⟩ := h.at.part
  have hap := hp.apart (b := gr) rfl
  have hgp := hp.gapart
  obtain ⟨hM, Z, cap, h1, hgm, hgrm, hrm, h2, h3, h4, h5, h6, h7, h8, h9, h10⟩ := h
  refine (rgoon_any Z B _ _ _ _ b w (h7.row i hi)).mono ?_
  rintro e w' ⟨rfl, hr, hu⟩
  refine ⟨rfl, ⟨Nat.le_trans hM hu.size, Z, cap, h1, hgm, hgrm, fun j hj => ?_, ?_, h3, ?_, h5, h6, ?_, fun j hj => ?_, by rw [List.length_set]; exact h9, by rw [List.length_set]; exact h10⟩, hu⟩
  · rw [List.length_set] at hj
    rw [getD_setI _ _ _ _ _ hi]
    by_cases e : j = i
    · rw [if_pos e]; exact hrm i hi
    · rw [if_neg e]; exact hrm j hj
  · rw [List.length_set]
    exact hu.keep.has h2 (fun e => by rcases e with e | e; exact (hgp i hi).1 e.symm; exact (hgp i hi).2 e.symm)
  · have he : ptrs (Rs.set i ⟨(Rs.getD i r0).g, (Rs.getD i r0).gc, (Rs.getD i r0).L, b⟩) = ptrs Rs := by
      unfold ptrs
      rw [List.map_set]
      apply List.ext_getElem?
      intro j
      by_cases e : j = i
      · subst e
        rw [List.getElem?_set_self (by rw [List.length_map]; exact hi)]
        simp [List.getD, List.getElem?_eq_getElem hi]
      · rw [List.getElem?_set_ne (Ne.symm e)]
    rw [he, List.length_set]
    exact own_ptrs (hu.keep.own h4.ptrs fun b hb e => by
      have : gr = b := by simpa [Value.ownBlock] using hb
      subst this
      rcases e with e | e
      · exact (hap.2 i hi).1 e.symm
      · exact (hap.2 i hi).2 e.symm)
  · refine h7.put hi hr (h7.out i hi) (fun j hj hne => (h7.row j hj).upd hu (fun b hz e => by rcases e with e | e; exact (h7.out i hi).1 (e ▸ hz); exact (h7.out i hi).2 (e ▸ hz)) (fun e => by rcases e with e | e; exact (h7.apart j i hj hi hne).1 e; exact h7.cross j i hj hi e) (fun e => by rcases e with e | e; exact h7.cross i j hi hj e.symm; exact (h7.apart j i hj hi hne).2 e)) (fun j hj _ => h7.out j hj) (fun j hj hne => h7.apart i j hi hj (Ne.symm hne)) h7.apart
  · rw [List.length_set] at hj
    rw [getD_setI _ _ _ _ _ hi]
    by_cases e : j = i
    · rw [if_pos e]; exact h8 i hi
    · rw [if_neg e]; exact h8 j hj
/-- A line's mark. -/
theorem line_mark {Z : Zone} {w : World} {B g n cap i : Nat} {Ls : List Ln} (h : OwnE lineE Z w B 59 (.slice (some ⟨g, 0, none⟩) n cap) Ls) (hi : i < Ls.length) (b : Bool) : OwnE lineE Z (w.setCell ⟨g, i * 2 + 1, none⟩ (.bool b)) B 59 (.slice (some ⟨g, 0, none⟩) n cap) (Ls.set i ((Ls.getD i zl).1, b)) ∧ (∃ u, w.cell? ⟨g, i * 2 + 1, none⟩ = some u) ∧ w.frozen? ⟨g, i * 2 + 1, none⟩ = false := by
  have hu := (Upd.refl (fun b => b = g) w).setCell (p := ⟨g, i * 2 + 1, none⟩) (.inl rfl) (.bool b)
  obtain ⟨CS, h1, h2, h3⟩ := h
  have hls := own_lens h2 h3
  have hn : n = Ls.length := by
    rcases h1.2 with ⟨e, _⟩ | ⟨g', cap', cur, e, _⟩
    · cases e
    · simp only [Value.slice.injEq] at e
      exact e.2.1
  subst hn
  have hst := (h1.stored (i * 2 + 1) (.bool b)).1
  have hfl := flat_set hls i 1 (.bool b) (by omega) (by decide)
  rw [lineE_size] at hfl
  rw [hfl] at hst
  have hlen : i * 2 + 1 < CS.flatten.length := by rw [flat_len hls, h2, lineE_size]; omega
  refine ⟨⟨_, by rw [List.length_set]; exact hst, by simp [h2], fun j hj => ?_⟩, ?_, h1.frozenAt _⟩
  · rw [List.length_set] at hj
    have hk := hu.keep
    have hj0 := h3 j hj
    by_cases e : j = i
    · subst e
      obtain ⟨v, hv, hh⟩ := line_rep.1 hj0
      rw [show (CS.set j ((CS.getD j []).set 1 (.bool b))).getD j [] = (CS.getD j []).set 1 (.bool b) from by simp [List.getD, List.getElem?_set_self (show j < CS.length by omega)], hv, getD_setI _ _ _ _ _ hj, if_pos rfl]
      exact line_rep.2 ⟨v, rfl, hh.keep (hk.mono fun b _ hz e => hz.2 (by subst e; rfl)) fun _ _ hz => hz⟩
    · rw [show (CS.set i ((CS.getD i []).set 1 (.bool b))).getD j [] = CS.getD j [] from by simp [List.getD, List.getElem?_set_ne (Ne.symm e)], getD_setI _ _ _ _ _ hi, if_neg e]
      exact lineE.keep (hk.mono fun b _ hz e => hz.2 (by subst e; rfl)) (fun _ _ hz => hz) hj0
  · rw [h1.cellAt _ (by rw [lineE_size]; omega)]
    exact ⟨_, List.getElem?_eq_getElem hlen⟩
def OfGood (w : World) (Ls : List Ln) (e : Ending) (w' : World) : Prop := ∃ gg gr Rs, e = .returned (.tuple #[.pointer (some ⟨gg, 0, none⟩), .nilIface]) ∧ GridAt w' w.heap.size gg gr (firstN Ls) Rs ∧ Rs.map lineOf = Ls ∧ Below w.heap.size w w'
set_option maxRecDepth 100000 in
set_option maxHeartbeats 3000000 in
theorem gof_good (Z : Zone) (v : Value) (Ls : List Ln) (w : World) (hall : AllGood Ls) (hv : HeldE lineE Z w v Ls) (h0 : 0 < Ls.length) (h1 : Ls.length ≤ 1024) : Calls Tryd.prog 19 #[v] w (OfGood w Ls) := by
  have hv := hv.lower
  obtain ⟨ao, cap, rfl⟩ := hv.len
  have HALL := Lib.hid hall
  obtain ⟨n, hn⟩ : ∃ n, n = Ls.length := ⟨_, rfl⟩
  have hc := (lines_at hv).2.2
  have hcap := (lines_at hv).2.1
  have HN := Lib.hid hn
  rw [← hn] at hc hcap h0 h1 ⊢
  have HC := Lib.hid hc
  obtain ⟨b0, off0, cv0, rfl, hb0, _, z0, _, hz0⟩ := hc 0 h0
  obtain ⟨a0, x0, rfl⟩ := hz0.len
  obtain ⟨n0, hn0⟩ : ∃ n0, n0 = firstN Ls := ⟨_, rfl⟩
  rw [show (Ls.getD 0 zl).1.length = firstN Ls from rfl, ← hn0, Nat.zero_mul, Nat.add_zero] at z0
  have HN0 := Lib.hid hn0
  have hhz : ((n : Int) == 0) = false := by rw [beq_eq_false_iff_ne]; omega
  have hhd : decide ((1024 : Int) < n) = false := by rw [decide_eq_false_iff_not]; omega
  have hhdn : decide (1024 < n) = false := by rw [decide_eq_false_iff_not]; omega
  have hb2 : Below w.heap.size w (w.alloc (.cells #[.int .i64 n0, .slice none 0 0] 102)) := (Below.refl _ _).alloc (Nat.le_refl _) _
  have hh2 := Has.new w [.int .i64 n0, .slice none 0 0] 102
  have HI0 := Lib.hid (show OfInv w w.heap.size n0 Ls 0 (w.alloc (.cells #[.int .i64 n0, .slice none 0 0] 102)) from ⟨.slice none 0 0, [], rfl, ⟨fun _ => False, fun b h => h.elim, hh2, Nat.le_refl _, OwnE.nil _ _ _ _ _, fun h => h, (fun b e => by cases e), RowsAt.nil _ _ _, fun i hi => absurd hi (Nat.not_lt_zero _)⟩, rfl, hb2⟩)
  obtain ⟨gg, hge⟩ : ∃ gg, gg = w.heap.size := ⟨_, rfl⟩
  have HGG := Lib.hid hge
  rw [← hge] at HI0
  clear hc hv hn hn0 hb2 hh2 hall hz0 hb0 hge
  go_enter Tryd.func19, Tryd.ntmps19
  go_wp2
  rw [← HGG.out]
  clear z0 hhz hhd hhdn
  go_loopw [27] (fun i wr => ∃ k : Nat, k ≤ n ∧ i = .int .i64 k ∧ Go.RowKit.Hid (∀ j, j < k → codeAt (firstN Ls) (Ls.getD j zl) = 0) ∧ OfInv w gg n0 Ls k wr) (fun i _ => n - (intOf i).toNat)
  case atStart => exact ⟨0, Nat.zero_le _, rfl, Lib.hid (fun j hj => absurd hj (Nat.not_lt_zero _)), HI0.out⟩
  case round =>
    obtain ⟨k, hk, rfl, HOK, hinv⟩ := hrel
    obtain ⟨pv, Rs, hRl, hp, hRm, hbw⟩ := hinv
    have HP := Lib.hid hp
    have HRL := Lib.hid hRl
    have HRM := Lib.hid hRm
    have HBW := Lib.hid hbw
    clear hp hRl hRm hbw
    by_cases hlt : k < n
    · obtain ⟨b, off, cv, e0, hb, _, c0, c1, hh⟩ := HC.out k hlt
      cases e0
      have hcc := code_cases (firstN Ls) (Ls.getD k zl)
      have HKL := Lib.hid (show k < Ls.length by rw [← HN.out]; exact hlt)
      obtain ⟨⟨X, wrap⟩, hX⟩ : ∃ y, y = Ls.getD k zl := ⟨_, rfl⟩
      have HXE := Lib.hid hX
      rw [← hX] at c1 hh hcc
      simp only at c1 hh hcc
      have hxm := hh.max
      have HX := Lib.hid hh
      obtain ⟨a1, x1, rfl⟩ := hh.len
      have c0 := (HBW.out.cell (p := ⟨b0, off0 + k * 2, none⟩) hb).trans c0
      have c1 := (HBW.out.cell (p := ⟨b0, off0 + k * 2 + 1, none⟩) hb).trans c1
      have HHX := Lib.hid (show codeAt (firstN Ls) (X, wrap) = codeAt (firstN Ls) (Ls.getD k zl) by rw [hX])
      obtain ⟨W1, hW1⟩ : ∃ W1, W1 = wr.alloc (.cells #[.slice a1 X.length x1, .bool wrap] 59) := ⟨_, rfl⟩
      have hb1 : Below wr.heap.size wr W1 := by rw [hW1]; exact (Below.refl _ _).alloc (Nat.le_refl _) _
      have HH := Lib.hid (show Has W1 wr.heap.size [.slice a1 X.length x1, .bool wrap] 59 by rw [hW1]; exact Has.new wr _ _)
      have HB1 := Lib.hid (HBW.out.trans (hb1.mono HBW.out.size))
      have HP1 := Lib.hid (HP.out.below hb1)
      have HX1 := Lib.hid (HX.out.below HB1.out)
      obtain ⟨gb, hgb⟩ : ∃ gb, gb = wr.heap.size := ⟨_, rfl⟩
      rw [← hgb] at HH
      have HGB := Lib.hid hgb
      have hgl : gg < gb ∧ (∀ b, pv.ownBlock = some b → b < gb) := ⟨by rw [hgb]; exact HP.out.lt.2.1, fun b e => by rw [hgb]; exact (HP.out.lt.2.2 b e).2⟩
      have HGL := Lib.hid hgl
      clear hh hX hb hb1 hgb hgl
      go_upto_region 7 with (fail)
      rw [← HGB.out, ← hW1]
      clear hW1 c0 c1
      have d0 := HH.out.cell 0 _ rfl
      rcases hcc with ⟨hcd, hbad⟩ | ⟨hx0, hx1, ⟨hcd, hsd⟩ | ⟨hsd, hrest⟩⟩
      · exact absurd ((HALL.out k HKL.out).symm.trans (HHX.out.symm.trans hcd)) (by decide)
      · exact absurd ((HALL.out k HKL.out).symm.trans (HHX.out.symm.trans hcd)) (by decide)
      · have HSD := Lib.hid hsd
        have HRE := Lib.hid hrest
        clear hsd hrest
        have hq := rof_ok _ X _ W1 HX1.out hx0 hx1 HSD.out
        go_wp2_with fail
        clear d0
        refine hq.mono ?_
        rintro e w2 ⟨g, gc, rfl, hr2, b2⟩
        have HR2 := Lib.hid hr2
        have HB2 := Lib.hid (HB1.out.trans (b2.mono HB1.out.size))
        have HBX := Lib.hid b2
        clear hr2 b2 hq
        have e0 := ext_cell ((by obtain ⟨Z9, k1, k2, _⟩ := HP1.out.below HBX.out; exact k2.cell 0 _ rfl) : w2.cell? ⟨gg, 0, none⟩ = some (.int .i64 n0))
        rcases HRE.out with ⟨hcd, hne⟩ | ⟨hcd, heq⟩
        · exact absurd ((HALL.out k HKL.out).symm.trans (HHX.out.symm.trans hcd)) (by decide)
        · have hnn : ((X.length : Int) != (n0 : Int)) = false := by rw [← HN0.out] at heq; simp; omega
          have HEQ := Lib.hid (show X.length = n0 by rw [HN0.out]; exact heq)
          have HCD := Lib.hid (HHX.out.symm.trans hcd)
          clear hcd heq
          go_wp2
          refine wp_region_ext (by kernel_rfl) (by kernel_rfl) ?_
          repeat (go_big_quiet_step (((go_at_call 61; exact callx_same (rwide_any _ _ g gc X false (ext w2 _) (HR2.out.below (Growth.ok _)))))))
          refine wpQuiet_nil ?_
          intro _ hw'
          obtain ⟨u, hw''⟩ := hw'
          subst hw''
          obtain ⟨w3, hw3⟩ : ∃ w3, w3 = ext w2 u := ⟨_, rfl⟩
          have b3 : Below w2.heap.size w2 w3 := by rw [hw3]; exact u.ok
          rw [← hw3]
          have HR3 := Lib.hid (HR2.out.below b3)
          have HBY := Lib.hid (HBX.out.trans (b3.mono HBX.out.size))
          clear hw3 e0 b3 hnn
          have HH3 := Lib.hid (HH.out.below HBY.out HH.out.lt)
          have d1 := HH3.out.cell 1 _ rfl
          have hg := rgoon_any _ _ g gc X false wrap w3 HR3.out
          go_wp2_with fail
          refine hg.mono ?_
          rintro e w4 ⟨rfl, hr4, u4⟩
          have hrl := HR3.out.lt
          have hb4 : Below W1.heap.size W1 w4 := HBY.out.upd u4 HBY.out.size (fun x e => by rcases e with e | e <;> omega)
          have hp4 := HP1.out.next hr4 HEQ.out hb4
          have hb4' : Below w.heap.size w w4 := HB1.out.trans (hb4.mono HB1.out.size)
          have HB4 := Lib.hid hb4'
          have HP4 := Lib.hid hp4
          have HV := Lib.hid (show (∃ Z9, Z9 = gg) ∧ OwnE ptrE (fun _ => True) w4 w.heap.size 86 pv (ptrs Rs) ∧ w4.cell? ⟨gg, 1, none⟩ = some pv by
            obtain ⟨Z9, k1, k2, k3, k4, _⟩ := hp4
            exact ⟨⟨gg, rfl⟩, k4, k2.cell 1 _ rfl⟩)
          clear hr4 u4 hg d1 hb4 hb4' hp4 hrl
          have f1 := HV.out.2.2
          have hlen : (ptrs Rs).length ≤ 1024 := by rw [ptrs_len, HRL.out]; omega
          have b5 := (Below.refl w4.heap.size w4).alloc (Nat.le_refl _) (.cells [ptrV (some g)].toArray 86)
          have hlo := HV.out.2.1.lt
          have HU := Lib.hid (show HeldE ptrE (fun b => True ∧ pv.ownBlock ≠ some b) (w4.alloc (.cells [ptrV (some g)].toArray 86)) (.slice (some ⟨w4.heap.size, 0, none⟩) 1 1) [some g] from heldE_one (Y := fun _ => False) [ptrV (some g)] (some g) rfl (fun _ _ h => h.elim) ⟨trivial, fun e => by have := (hlo _ e).2; omega⟩)
          have HO := Lib.hid (HV.out.2.1.below b5)
          have HB5 := Lib.hid (HB4.out.trans (b5.mono HB4.out.size))
          have HP5 := Lib.hid (HP4.out.below b5)
          clear b5 hlo
          go_wp2_with (at_builtin; refine wpList_append_e (E := ptrE) (Z := fun _ => True) rfl (.tmp 61) (.tmp 63) 100 rfl (.pointer none) 8 Tryd.underlying100 info_rowp rfl (by decide) rfl rfl HO.out HU.out (by simp only [List.length_singleton]; omega) (by simp only [List.length_singleton]; omega) HB5.out.size ?_)
          intro v6 w6 ho6 b6 hk6 hd6
          obtain ⟨hp6, k0, k1⟩ := HP5.out.grow ho6 b6 hk6 (fun b hb hn => hd6 b (by simpa using hb) hn)
          obtain ⟨a6, c6, he6⟩ := (ho6.held (Z := fun _ => True) (fun _ _ _ => trivial)).len
          rw [List.length_append, List.length_singleton] at he6
          have hnx : ptrs Rs ++ [some g] = ptrs (Rs ++ [⟨g, gc, X, wrap⟩]) := by simp [ptrs]
          rw [hnx] at hp6
          have hgB := HP5.out.lt
          have hb7 : Below w.heap.size w (w6.setCell ⟨gg, 1, none⟩ v6) := (HB5.out.trans b6).setCell (p := ⟨gg, 1, none⟩) hgB.1 v6
          have HF := Lib.hid (And.intro hp6 hb7)
          subst he6
          have k0 := k0
          clear ho6 b6 hk6 hd6 hp6 hnx hgB hb7 f1
          go_wp2
          have HI := Lib.hid (show OfInv w gg n0 Ls (k + 1) _ from ⟨_, Rs ++ [⟨g, gc, X, wrap⟩], by simp [HRL.out], HF.out.1, by
            rw [List.map_append, HRM.out, List.take_succ_eq_append_getElem HKL.out]
            have : Ls[k]'HKL.out = (X, wrap) := by rw [HXE.out]; simp [List.getD, List.getElem?_eq_getElem HKL.out]
            rw [this]
            rfl, HF.out.2⟩)
          have HOK2 := Lib.hid (show ∀ j, j < k + 1 → codeAt (firstN Ls) (Ls.getD j zl) = 0 from fun j hj => by
            by_cases e : j = k
            · subst e; exact HCD.out
            · exact HOK.out j (by omega))
          go_roundw
          case rel => exact ⟨k + 1, by omega, by go_num, HOK2, HI.out⟩
          case measure => simp [intOf] <;> omega
    · obtain rfl : k = n := by omega
      have hRm := HRM.out
      rw [HN.out, List.take_of_length_le (Nat.le_refl _)] at hRm
      obtain ⟨gr, hg⟩ := HP.out.full (by rw [HRL.out]; exact h0) (by rw [HRL.out]; exact h1)
      have hok := HOK.out
      rw [HN.out] at hok
      have HF := Lib.hid (show OfGood w Ls (.returned (.tuple #[.pointer (some ⟨gg, 0, none⟩), .nilIface])) wr from ⟨gg, gr, Rs, rfl, by rw [← HN0.out]; exact hg, hRm, HBW.out⟩)
      clear hRm hg hok
      go_wp2
      go_ret2
      exact HF.out
end Go.Proofs.YteinppjklhomnaaDoor
