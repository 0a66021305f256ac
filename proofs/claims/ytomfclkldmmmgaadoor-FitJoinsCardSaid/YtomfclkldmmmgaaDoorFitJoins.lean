/- FitJoins (28.3) answers true at every sound row and every number, and turns nothing. Condition: ErrRange reads as its initialiser lays it (tied to the program's text by the card). -/
import Derived.Test.YtomfclkldmmmgaaDoorFitW
import Derived.Test.YtomfclkldmmmgaaDoorCellU
import Derived.Test.YtomfclkldmmmgaaDoorCellS
import Derived.Test.YtomfclkldmmmgaaDoorErrS
import Derived.Test.YtomfclkldmmmgaaDoorCards
import Derived.Test.YtomfclkldmmmgaaDoorTie
import Derived.ProofKit
import Derived.Lib.MinMax
namespace Go.Proofs.YtomfclkldmmmgaaDoor.lawFitJoins
open Go.ChangeShapes Go.WideShapes Go.ChangeAt Go.RowKit
theorem info_ptr : (Tryd.prog.info? 28).map (fun i => (i.zero, i.size, i.bytes)) = some (some (.pointer none), rowE.size, 8) := by kernel_rfl
def repC (L : List Cl) (k : Nat) : List Cl := (List.replicate k L).flatten
theorem repC_succ (L : List Cl) (k : Nat) : repC L (k + 1) = repC L k ++ L := by
  unfold repC
  rw [List.replicate_succ', List.flatten_append]
  simp
theorem repC_len (L : List Cl) (k : Nat) : (repC L k).length = k * L.length := by
  induction k with
  | zero => simp [repC]
  | succ k ih => rw [repC_succ, List.length_append, ih, Nat.succ_mul]
theorem cat_rep (L : List Cl) (k : Nat) : catL (List.replicate k (some L)) (List.replicate k (some L)).length = repC L k := by
  unfold catL flatG repC
  rw [List.map_replicate, List.length_replicate, List.take_of_length_le (by simp)]
  rfl
theorem row_one {Z Y : Zone} {w : World} {g gc : Nat} {L : List Cl} {wrap : Bool} {BB : Nat} (hr : RowAt Z w BB g gc L wrap) (hg : Z g) (hgc : Z gc) (hy : ∀ b, b < w.heap.size → Z b → Y b) (hz : Y w.heap.size) : HeldE rowE Y (w.alloc (.cells #[.pointer (some ⟨g, 0, none⟩)] 28)) (.slice (some ⟨w.heap.size, 0, none⟩) 1 1) [some L] :=
  heldE_one (Y := Z) [.pointer (some ⟨g, 0, none⟩)] (some L) ⟨g, gc, BB, wrap, rfl, hr, hg, hgc⟩ hy hz
set_option maxRecDepth 100000 in
set_option maxHeartbeats 3000000 in
theorem walkH (W : World) (va : Value) (L : List Cl) (Z : Zone) (ha : HeldE cellE Z W va L) (cn : Int) (hre : RangeErr W) : Calls Tryd.prog 12 #[va, .int .i64 cn] W (Yes W) := by
  have hla := ha.max
  have ha := ha.lower
  obtain ⟨ao, ca, rfl⟩ := ha.len
  obtain ⟨_, hca, hca2, hao, _⟩ := id ha
  have HA := Lib.hid ha
  have HRE := Lib.hid hre
  clear ha hre
  by_cases h1 : 100 < L.length
  · go_enter Tryd.func12, Tryd.ntmps12
    go_wp2_with fail
    refine (works28_any _ HRE.out).mono ?_
    rintro e w1 ⟨rfl, b1⟩
    go_wp2_with fail
    refine (works28_any _ (HRE.out.below b1)).mono ?_
    rintro e w2 ⟨rfl, b2⟩
    have b2 := b1.trans (b2.mono b1.size)
    go_wp2
    go_ret
    exact ⟨(ret_eq (by first | rfl | (simp <;> omega))), b2⟩
  have hd60 : decide ((100 : Int) < L.length) = false := by simp; omega
  by_cases h0 : L.length = 0
  · have hz : ((L.length : Int) == 0) = true := by rw [beq_iff_eq]; omega
    go_enter Tryd.func12, Tryd.ntmps12
    go_wp2_with fail
    refine (works28_any _ HRE.out).mono ?_
    rintro e w1 ⟨rfl, b1⟩
    go_wp2_with fail
    refine (works28_any _ (HRE.out.below b1)).mono ?_
    rintro e w2 ⟨rfl, b2⟩
    have b2 := b1.trans (b2.mono b1.size)
    go_wp2
    go_ret
    exact ⟨(ret_eq (by first | rfl | (simp <;> omega))), b2⟩
  have hz : ((L.length : Int) == 0) = false := by rw [beq_eq_false_iff_ne]; omega
  by_cases hs : soundB L = false
  · go_enter Tryd.func12, Tryd.ntmps12
    go_wp2_with fail
    refine (works28_any _ HRE.out).mono ?_
    rintro e w1 ⟨rfl, b1⟩
    have hse := rsound_any _ _ _ _ (HA.out.below b1)
    rw [← sound_iff, hs] at hse
    go_wp2_with fail
    refine hse.mono ?_
    rintro e w2 ⟨rfl, b2⟩
    have b2 := b1.trans (b2.mono b1.size)
    go_wp2_with fail
    refine (works28_any _ (HRE.out.below b2)).mono ?_
    rintro e w3 ⟨rfl, b3⟩
    have b3 := b2.trans (b3.mono b2.size)
    go_wp2
    go_ret
    exact ⟨(ret_eq (by first | rfl | (simp <;> omega))), b3⟩
  have hs : soundB L = true := by simpa using hs
  obtain ⟨y, hy⟩ : ∃ y, y = IntKind.u64.wrap cn := ⟨_, rfl⟩
  have hy0 : 0 ≤ y ∧ y ≤ 18446744073709551615 := by rw [hy, IntKind.wrap_u64]; omega
  obtain ⟨n, hn⟩ : ∃ n : Nat, y % 40 = n := ⟨(y % 40).toNat, by omega⟩
  have hn40 : n < 40 := by omega
  have hy' : IntKind.u64.wrap cn = y := hy.symm
  obtain ⟨hy1, hy2⟩ := hy0
  clear hy
  have HS := Lib.hid hs
  have HLL := Lib.hid (show 0 < L.length ∧ L.length ≤ 100 by omega)
  go_enter Tryd.func12, Tryd.ntmps12
  go_wp2_with fail
  refine (works28_any _ HRE.out).mono ?_
  rintro e w1 ⟨rfl, b1⟩
  have hse := rsound_any _ _ _ _ (HA.out.below b1)
  rw [← sound_iff, hs] at hse
  clear hs
  go_wp2_with fail
  refine hse.mono ?_
  rintro e w2 ⟨rfl, b2⟩
  have B := Lib.hid (b1.trans (b2.mono b1.size))
  clear b1 b2 hse
  have HP := Lib.hid (rof_ok _ _ _ _ (HA.out.below B.out) HLL.out.1 (by have := HLL.out; omega) HS.out)
  go_wp2_with fail
  clear hd60 hz h1 h0 hn hy' hy1 hy2
  refine HP.out.mono ?_
  rintro e w3 ⟨g, gc, rfl, hr3, b3⟩
  have hr3 := hr3.any
  have hlt := hr3.lt
  have HLT := Lib.hid (show W.heap.size ≤ g ∧ W.heap.size ≤ gc ∧ g < w3.heap.size ∧ gc < w3.heap.size from by have := B.out.size; omega)
  replace B := Lib.hid (B.out.trans (b3.mono B.out.size))
  clear b3
  have R := Lib.hid hr3
  clear hr3 hlt HP
  obtain ⟨w4, hw4⟩ : ∃ w4, w4 = w3 := ⟨_, rfl⟩
  have HRL := Lib.hid (R.out.lower)
  have HB0 := Lib.hid B.out.size
  clear hw4
  go_wp2
  go_loopw [7, 8, 9] (fun av wv i wr => ∃ k : Nat, k ≤ n ∧ i = .int .i64 k ∧ OwnE rowE (fun b => wv.ownBlock ≠ some b) wr w3.heap.size 28 av (List.replicate k (some L)) ∧ OwnE cellE (fun b => av.ownBlock ≠ some b) wr w3.heap.size 27 wv (repC L k) ∧ Go.RowKit.Hid (∀ b, av.ownBlock = some b → wv.ownBlock ≠ some b) ∧ Below w3.heap.size w3 wr) (fun _ _ i _ => n - (intOf i).toNat)
  case atStart => exact ⟨0, Nat.zero_le _, rfl, OwnE.nil _ _ _ _ _, OwnE.nil _ _ _ _ _, Lib.hid (fun b h => by cases h), Below.refl _ _⟩
  case round =>
    obtain ⟨k, hk, rfl, ho1, ho2, HDJ, hbw⟩ := hrel
    have HO1 := Lib.hid ho1
    have HO2 := Lib.hid ho2
    have HBW := Lib.hid hbw
    clear ho1 ho2 hbw
    by_cases hlt : k < n
    · have hl1 := HO1.out.lt
      have hl2 := HO2.out.lt
      have HL1 := Lib.hid hl1
      have HL2 := Lib.hid hl2
      have HRL2 := Lib.hid (show (List.replicate k (some L)).length = k by simp)
      have HRC := Lib.hid (show (repC L k).length ≤ 4000 by rw [repC_len]; have := HLL.out.2; have := Nat.mul_le_mul (show k ≤ 40 by omega) this; omega)
      have hrow := (HRL.out.keep (w' := wr) (Y := fun b => b < w3.heap.size) ((KeepZ.below HBW.out).mono (fun b hb hz => by have := HLT.out; rcases hz with hz | rfl | rfl <;> omega)) (fun _ _ h => h))
      have HU1 := Lib.hid (row_one (Y := fun b => u8.ownBlock ≠ some b ∧ u7.ownBlock ≠ some b) hrow (by have := HLT.out; omega) (by have := HLT.out; omega) (fun b hb hz => ⟨fun e => by have := (HL2.out b e).1; omega, fun e => by have := (HL1.out b e).1; omega⟩) ⟨fun e => by have := (HL2.out _ e).2; omega, fun e => by have := (HL1.out _ e).2; omega⟩)
      have b1 := (Below.refl wr.heap.size wr).alloc (Nat.le_refl _) (.cells #[.pointer (some ⟨g, 0, none⟩)] 28)
      have HOA := Lib.hid (HO1.out.below b1)
      have HOB := Lib.hid (HO2.out.below b1)
      have HBA := Lib.hid (HBW.out.trans (b1.mono HBW.out.size))
      clear hl1 hl2 hrow b1
      go_wp2_with (at_builtin; refine wpList_append_e (E := rowE) (Z := fun b => u8.ownBlock ≠ some b) rfl (.tmp 45) (.tmp 47) 80 rfl (.pointer none) 8 Tryd.underlying80 info_ptr rfl (by decide) rfl rfl HOA.out HU1.out (by simp only [List.length_replicate, List.length_cons, List.length_nil]; omega) (by simp only [List.length_replicate, List.length_cons, List.length_nil]; omega) HBA.out.size ?_)
      intro v2 w2x ho2 b2 hk2 hd2
      have HDJ2 := Lib.hid (show ∀ b, v2.ownBlock = some b → u8.ownBlock ≠ some b from fun b e e2 => hd2 b (by have := (HOB.out.lt b e2).2; simpa using this) (fun e3 => HDJ.out b e3 e2) e)
      have HO1B := Lib.hid (show OwnE rowE (fun b => u8.ownBlock ≠ some b) w2x w3.heap.size 28 v2 (List.replicate (k + 1) (some L)) from by rw [List.replicate_succ']; exact ho2)
      have HO2B := Lib.hid (show OwnE cellE (fun b => v2.ownBlock ≠ some b) w2x w3.heap.size 27 u8 (repC L k) from HOB.out.keep (hk2.mono (fun b hb hz => by
        rcases hz with hz | hz
        · exact hz
        · exact fun e => HDJ.out b e hz)) (fun b hb hz => hd2 b (by simpa using hb) hz))
      have HB2 := Lib.hid (HBA.out.trans b2)
      clear ho2 b2 hk2 hd2 HOA HOB HU1
      have HU2 := Lib.hid (show HeldE cellE (fun b => v2.ownBlock ≠ some b ∧ u8.ownBlock ≠ some b) w2x (.slice ao L.length ca) L from (HA.out.below (B.out.trans (HB2.out.mono HB0.out))).zone (fun b _ hb => ⟨fun e => by have := (HO1B.out.lt b e).1; have := HB0.out; omega, fun e => by have := (HO2B.out.lt b e).1; have := HB0.out; omega⟩))
      go_wp2_with (at_builtin; refine wpList_append_e (E := cellE) (Z := fun b => v2.ownBlock ≠ some b) rfl (.tmp 49) (.tmp 50) 22 rfl (.agg #[.int .i64 0, .slice none 0 0]) 32 Tryd.underlying22 info_cell rfl (by decide) rfl rfl HO2B.out HU2.out (by have := HRC.out; have := HLL.out; omega) (by have := HRC.out; have := HLL.out; omega) HB2.out.size ?_)
      intro v5 w5x ho5 b5 hk5 hd5
      have HDJ5 := Lib.hid (show ∀ b, v2.ownBlock = some b → v5.ownBlock ≠ some b from fun b e => hd5 b (HO1B.out.lt b e).2 (HDJ2.out b e))
      have HO2C := Lib.hid (show OwnE cellE (fun b => v2.ownBlock ≠ some b) w5x w3.heap.size 27 v5 (repC L (k + 1)) from by rw [repC_succ]; exact ho5)
      have HO1C := Lib.hid (show OwnE rowE (fun b => v5.ownBlock ≠ some b) w5x w3.heap.size 28 v2 (List.replicate (k + 1) (some L)) from HO1B.out.keep (hk5.mono (fun b hb hz => by
        rcases hz with hz | hz
        · exact hz
        · exact HDJ2.out b hz)) (fun b hb hz => hd5 b hb hz))
      have HB5 := Lib.hid (HB2.out.trans b5)
      clear ho5 b5 hk5 hd5
      go_wp2
      go_roundw
      case rel => exact ⟨k + 1, by omega, by go_num, HO1C.out, HO2C.out, HDJ5, HB5.out⟩
      case measure => simp [intOf] <;> omega
    · obtain rfl : k = n := by omega
      have HH1 := Lib.hid ((HO1.out.zone (Y := fun _ => True) (fun _ _ _ => trivial)).held (fun _ _ _ => trivial))
      have HH2 := Lib.hid ((HO2.out.zone (Y := fun _ => True) (fun _ _ _ => trivial)).held (fun _ _ _ => trivial))
      have HJ := Lib.hid (fjoin_any (fun _ => True) _ (List.replicate k (some L)) wr (HRE.out.below (B.out.trans (HBW.out.mono HB0.out))) HH1.out)
      replace B := Lib.hid (B.out.trans (HBW.out.mono HB0.out))
      have HCR := Lib.hid (cat_rep L k)
      obtain ⟨M, hM⟩ : ∃ M, M = repC L k := ⟨_, rfl⟩
      rw [← hM] at HH2 HCR
      have hgood : JoinGood (List.replicate k (some L)) ↔ 0 < M.length ∧ M.length ≤ 1024 := by
        unfold JoinGood
        rw [HCR.out]
        constructor
        · exact fun h => h.2
        · intro h
          refine ⟨fun j hj => ?_, h⟩
          rw [List.length_replicate] at hj
          simp [List.getD, List.getElem?_replicate, hj]
      obtain ⟨Ls, hLs⟩ : ∃ Ls, Ls = List.replicate k (some L) := ⟨_, rfl⟩
      rw [← hLs] at HH1 HJ HCR hgood
      clear hLs
      obtain ⟨wo, wc, hwe⟩ := HH2.out.len
      obtain ⟨jo, jc, hje⟩ := HH1.out.len
      subst hwe
      subst hje
      clear hM HO1 HO2 HDJ
      by_cases hbad : M.length = 0 ∨ 1024 < M.length
      · have HNG := Lib.hid (show ¬ JoinGood Ls from fun h => by have := hgood.1 h; omega)
        have hq : ∃ q0 q1, ((M.length : Int) == 0) = q0 ∧ decide ((1024 : Int) < M.length) = q1 ∧ (q0 = true ∨ q0 = false ∧ q1 = true) := by
          refine ⟨_, _, rfl, rfl, ?_⟩
          rcases hbad with h | h
          · left; rw [beq_iff_eq]; omega
          · right; exact ⟨by rw [beq_eq_false_iff_ne]; omega, by simp; omega⟩
        obtain ⟨q0, q1, hq0, hq1, hq⟩ := hq
        clear hbad hgood
        rcases hq with rfl | ⟨rfl, rfl⟩
        all_goals
          go_wp2_with fail
          refine HJ.out.mono ?_
          rintro e wj ⟨_, hj⟩
          obtain ⟨rfl, bj⟩ := hj HNG.out
          have HBJ := Lib.hid (B.out.trans (bj.mono B.out.size))
          clear hj bj
          go_wp2
          go_ret
          exact ⟨(ret_eq (by first | rfl | (simp <;> omega))), HBJ.out⟩
      · have HNG := Lib.hid (show JoinGood Ls from hgood.2 (by omega))
        have hd0 : ((M.length : Int) == 0) = false := by rw [beq_eq_false_iff_ne]; omega
        have hd1 : decide ((1024 : Int) < M.length) = false := by simp; omega
        have hd1n : decide (1024 < M.length) = false := by simp; omega
        clear hbad hgood
        go_wp2_with fail
        refine HJ.out.mono ?_
        rintro e wj ⟨hj, _⟩
        obtain ⟨g5, gc5, rfl, hr5, b5⟩ := hj HNG.out
        rw [HCR.out] at hr5
        have R5 := Lib.hid hr5
        replace B := Lib.hid (B.out.trans (b5.mono B.out.size))
        replace HH2 := Lib.hid (HH2.out.below b5)
        clear b5
        clear hr5 hj HJ
        go_wp2_with fail
        clear hd0 hd1 hd1n
        refine (rwrap_any _ _ g5 gc5 _ _ _ R5.out).mono ?_
        rintro e wk ⟨rfl, rfl⟩
        go_wp2_with fail
        refine (rcells_any _ _ g5 gc5 _ _ _ R5.out).mono ?_
        rintro e wl ⟨vl, rfl, hol, bl⟩
        have HLL5 := Lib.hid (hol.held (fun b hb _ => hb))
        replace B := Lib.hid (B.out.trans (bl.mono B.out.size))
        replace HH2 := Lib.hid (HH2.out.below bl)
        clear bl
        clear hol
        go_wp2_with fail
        refine (rcsame_any _ _ _ _ _ _ _ HLL5.out HH2.out).mono ?_
        rintro e wm ⟨rfl, bm⟩
        rw [sameC_self]
        replace B := Lib.hid (B.out.trans (bm.mono B.out.size))
        clear bm
        go_wp2
        go_ret
        exact ⟨(ret_eq (by first | rfl | (simp <;> omega))), B.out⟩
set_option maxRecDepth 100000 in
theorem walk {H : Type} {enc : TypeId × Value → H} (W : World) (u : Value) {base : Nat} {d : DataW H} {p : List MemPlace} (hv : Value.okWide Tryd.prog W .any base 22 u) (h : DataW.Trod enc Tryd.prog W 0 (fun _ => true) true 22 u d p) (n : Int) (_ : (Lit.int .i64 n).wf = true) (hl : laidMetH Tryd.prog Rows.fitJoinsRow.laid W) : Calls Tryd.prog 12 #[u, .int .i64 n] W (Yes W) := by
  obtain ⟨L, hL, _⟩ := cells_arg hv h
  exact walkH W u L _ hL n (range_of_row hl)

theorem door_met (os : Os) : laidMetH Tryd.prog Rows.fitJoinsRow.laid ((World.doorLaid Tryd.prog 400 os).forCall (fun _ _ => 0) ⟨#[], #[.slice none 0 0, .int .i64 0], []⟩).memory :=
  laidMetH_of_parts3 (fuel := 8) (laidMet_of_run' 8 (by kernel_rfl) (by kernel_rfl)) (by kernel_rfl) (by kernel_rfl)

set_option maxRecDepth 100000 in
theorem lifted (os : Os) (started : os.Started) (H : Type) (enc : TypeId × Value → H) :
    ReturnsInHanded {} Tryd.checked os 12 .any (fun w args => (Rows.fitJoinsSpec.pre enc Tryd.prog Tryd.f12 [] false w args ∧ laidMetH Tryd.prog Rows.fitJoinsRow.laid w) ∧ sizedMet enc Tryd.prog Tryd.f12 (OpenSpec.ofChange Rows.fitJoinsSpec) false w args)
      (Rows.fitJoinsSpec.post enc Tryd.prog Tryd.f12 false true false false) := by
  refine law_frame (C := Tryd.checked) (tb := 4) (by kernel_rfl) started (by kernel_rfl) Tryd.func12 (by kernel_rfl) (by kernel_rfl) Tryd.underlying4 rfl
    (by rw [Tryd.params12]; intro t ht; simp at ht; rcases ht with rfl | rfl <;> exact ⟨by kernel_rfl, of_decide_eq_true (by kernel_rfl)⟩)
    (by rw [Tryd.params12]; intro ds hd; match ds, hd with | [_, _], _ => rfl)
    (ChangeSpec.witness_shaped (enc := enc) (C := Tryd.checked) (os := os) (X := fun w _ => laidMetH Tryd.prog Rows.fitJoinsRow.laid w) false (World.doorLaid Tryd.prog 400 os) #[.slice none 0 0, .int .i64 0] 8 rfl (World.shaped_of_RefB (by kernel_rfl) (by kernel_rfl)) (by kernel_rfl) (by kernel_rfl) (by kernel_rfl) (door_met os)) ?_
  intro W base args ds before hval hA hsz hL
  rw [Tryd.params12] at hA hval
  obtain ⟨v0, vs0, d0, ds0, p0, q0, hargs, rfl, rfl, h0, r0⟩ := trodAll_cons hA
  obtain ⟨v1, vs1, d1, ds1, p1, q1, rfl, rfl, rfl, h1, r1⟩ := trodAll_cons r0
  obtain ⟨rfl, rfl, rfl⟩ := trodAll_nil r1
  obtain rfl : args = #[v0, v1] := by cases args; simp_all
  obtain ⟨x1, rfl, rfl, rfl, wx1⟩ := open_int Tryd.underlying3 (hval 1 3 v1 rfl rfl) h1
  exact walk W v0 (hval 0 22 v0 rfl rfl) h0 x1 wx1 hL

theorem said : Rows.FitJoinsSaid :=
  OpenClaim.holds_of_wide 12 Tryd.f12 rfl rfl rfl rfl rfl rfl rfl ⟨rfl, rfl, rfl, rfl, rfl⟩ rfl rfl rfl rfl rfl (by kernel_rfl) Tryd.func12 (by kernel_rfl)
    (of_decide_eq_true (by kernel_rfl)) (by unfold Func.isWrapper; first | (rw [if_pos (by decide +kernel)]; kernel_rfl) | (rw [if_neg (by decide +kernel)]; exact ⟨rfl, rfl⟩))
    (fun os started H enc _ => lifted os started H enc)

theorem plain (f : FuncId) (fn : Func) (hf : Tryd.pinned.checked.prog.funcNamed "linotype/linotypelaw28.FitJoins" = some f) (hfn : Tryd.pinned.checked.prog.funcs[f]? = some fn) :
    true = Tryd.pinned.checked.prog.looks [] ∧ ∀ (j : Nat) t, fn.params[j]? = some t → Tryd.pinned.checked.prog.wantsStandIn t = false := by
  obtain rfl : f = 12 := Option.some.inj ((show Tryd.prog.funcNamed "linotype/linotypelaw28.FitJoins" = some 12 by kernel_rfl).symm.trans hf) |>.symm
  obtain rfl : fn = Tryd.f12 := (Option.some.inj (Tryd.func12.symm.trans hfn)).symm
  refine ⟨by kernel_rfl, fun j t ht => ?_⟩
  rw [Tryd.params12] at ht
  have hm : t ∈ [22, 3] := by simpa using Array.mem_of_getElem? ht
  have hall : ([22, 3].all fun u => !Tryd.prog.wantsStandIn u) = true := by kernel_rfl
  exact (show Tryd.prog.wantsStandIn t = false by simpa using List.all_eq_true.1 hall t hm)

/-- THE CARD. -/
theorem card : Rows.FitJoinsCardSaid :=
  Claim7.holds_tied_plain_at .later [] _ _ _ _ said (fun _ h => by cases h) (by kernel_rfl) (fun _ h => by cases h) fitJoins_row_tie rfl ⟨rfl, rfl⟩ (by kernel_rfl) rfl plain (by kernel_rfl)
#print axioms card

end Go.Proofs.YtomfclkldmmmgaaDoor.lawFitJoins
