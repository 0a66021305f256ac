/- grapheme.All: its iterator's contract. -/
import Derived.Test.YtkpmmkokfllafaaMg2
import Derived.Test.YtkpmmkokfllafaaMg1
import Derived.Test.YtkpmmkokfllafaaMg5
import Derived.Sort.CutIn
namespace Go.Proofs.Ytkpmmkokfllafaa
open Go.RowKit Go.ChangeShapes Go.WideShapes
attribute [local go_sem] Oper.semAt_some
theorem jR_zero (xs : List Pr) : jR xs 0 = false := by
  rw [jR_st]
  simp [joinsB]
/-- A cluster that is handed out: from where to where, as which slice. -/
structure Cu where
  p : Nat × Nat
  v : Value
def encCu (x : Cu) : Array Value := #[.int .i64 (x.p.1 : Int), x.v]
def XCu (xs : List Int) (lo hi : Nat) (x : Cu) (W : World) : Prop := ∃ g, x.v = .slice (some ⟨g, x.p.1, none⟩) (x.p.2 - x.p.1) (x.p.2 - x.p.1) ∧ lo ≤ g ∧ g < hi ∧ g < W.heap.size ∧ x.p.1 < x.p.2 ∧ x.p.2 ≤ xs.length ∧ ∀ i, i < xs.length → W.cell? ⟨g, i, none⟩ = some (.int .i32 (xs.getD i 0))
def clS (xs : List Int) : List (Nat × Nat) := spansB (jR (knownL xs)) xs.length
theorem own_cells {w : World} {B g n cap : Nat} {t : TypeId} {xs : List Int} (h : w.ownsRow B t 1 (.slice (some ⟨g, 0, none⟩) n cap) n (xs.map (Value.int .i32))) : B ≤ g ∧ g < w.heap.size ∧ n = xs.length ∧ n ≤ cap ∧ ∀ i, i < xs.length → w.cell? ⟨g, i, none⟩ = some (.int .i32 (xs.getD i 0)) := by
  have h1 := h.lt g rfl
  have hl : xs.length = n := by have := h.1; simpa using this
  have hc : n ≤ cap := by
    rcases h.2 with ⟨e, _⟩ | ⟨g', cap', cur, e, _, _, hn, _⟩
    · cases e
    · simp only [Value.slice.injEq] at e
      obtain ⟨_, _, rfl⟩ := e
      exact hn
  refine ⟨h1.1, h1.2, hl.symm, hc, fun i hi => ?_⟩
  rw [h.cellAt i (by omega)]
  simp [List.getD, List.getElem?_eq_getElem hi]
set_option maxRecDepth 100000 in
set_option maxHeartbeats 6000000 in
theorem gall1_in (B : Nat) (v : Value) (xs : List Int) (w : World) (hB : w.cell? ⟨B, 0, none⟩ = some v) (hx : Held .i32 w v xs) (hn : xs.length ≤ 1000000) (n : Nat) (C : Zone) :
    SeqO Fence.wide n Try.prog 32 #[.pointer (some ⟨B, 0, none⟩)] encCu (XCu xs) C (fun ps => ps.map Cu.p = clS xs) (fun _ => True) (fun pre x => (pre ++ [x]).map Cu.p <+: clS xs) w := by
  intro l J Jx W hW hC hJ hJx hY h0
  have hB2 := (hW.cell (p := ⟨B, 0, none⟩) (World.block_lt_of_cell? _ _ hB)).trans hB
  have HCL := Lib.hid (rclone_any v xs W (hx.below hW) (by omega))
  have HC := Lib.hid hC
  have HJ := Lib.hid hJ
  have HY := Lib.hid hY
  have H0 := Lib.hid h0
  clear hB hx hC hJ hJx hY h0
  refine callsIn_of_wp Try.func32 rfl trivial ?_ rfl
  simp only [Try.ntmps32, List.size_toArray, List.length_cons, List.length_nil, Nat.reduceAdd, Nat.reduceSub, Array.replicate_succ, Array.replicate_zero, List.push_toArray, List.append_toArray, List.nil_append, List.cons_append]
  gi_wp2_with fail
  first | refine ⟨trivial, (fun h => absurd h (by decide)), (callsIn_wide.2 (HCL.out)).mono ?_⟩ | refine ⟨trivial, (callsIn_wide.2 (HCL.out)).mono ?_⟩
  rintro e w1 ⟨v1, rfl, ho1, b1⟩
  rcases ho1.2 with ⟨rfl, hz⟩ | ⟨g, cap, cur, hv1, _⟩
  · have hh := H0.out (w1.heap.size + 1) (w1.alloc (.cells #[.bool false, .int .i64 0, .int .u8 0, .int .u8 0, .bool false] 58)) (b1.alloc b1.size _) (by have := b1.size; omega) (by simp)
    have HH := Lib.hid hh
    have HX := Lib.hid (show clS xs = [] from by unfold clS; rw [hz]; rfl)
    clear hh ho1 b1
    gi_wp2
    gi_loopw [13] (fun i wr => i = .int .i64 0 ∧ J (w1.heap.size + 1) [] wr) (fun _ _ => 0)
    case atStart => exact ⟨rfl, HH.out⟩
    case round =>
      obtain ⟨rfl, hJs⟩ := hrel
      have HJS := Lib.hid hJs
      clear hJs
      gi_wp2
      go_end0
      exact ⟨⟨_, rfl⟩, .inl ⟨_, [], by rw [HX.out]; rfl, HJS.out⟩⟩
  · subst hv1
    obtain ⟨hg1, hg2, _, hcap, hcs⟩ := own_cells ho1
    obtain ⟨m, hm⟩ : ∃ m, m = xs.length := ⟨_, rfl⟩
    rw [← hm] at hcs hcap ho1 ⊢
    have hmn : m ≤ 1000000 := by rw [hm]; exact hn
    obtain ⟨W2, hW2⟩ : ∃ W2, W2 = w1.alloc (.cells #[.bool false, .int .i64 0, .int .u8 0, .int .u8 0, .bool false] 58) := ⟨_, rfl⟩
    have b2 : Below w1.heap.size w1 W2 := by rw [hW2]; exact (Below.refl _ _).alloc (Nat.le_refl _) _
    have hat : At W2 w1.heap.size (knownL xs) 0 := by rw [hW2]; exact Has.new w1 _ _
    obtain ⟨sb, hsb⟩ : ∃ sb, sb = w1.heap.size := ⟨_, rfl⟩
    rw [← hsb] at hat
    have hs2 : W2.heap.size = sb + 1 := by rw [hW2, hsb]; simp
    have HAT := Lib.hid hat
    have HTX := Lib.hid (show g < W2.heap.size ∧ ∀ i, i < m → W2.cell? ⟨g, i, none⟩ = some (.int .i32 (xs.getD i 0)) from ⟨by have := b2.size; omega, fun i hi => (b2.cell (p := ⟨g, i, none⟩) hg2).trans (hcs i hi)⟩)
    have HG := Lib.hid (show W.heap.size ≤ g ∧ g < sb ∧ W.heap.size ≤ sb from ⟨hg1, by rw [hsb]; exact hg2, by rw [hsb]; exact b1.size⟩)
    have HJ0 := Lib.hid (H0.out (sb + 1) W2 (b1.trans (b2.mono b1.size)) (by rw [hsb]; have := b1.size; omega) (by rw [hs2]; exact Nat.le_refl _))
    have HS2 := Lib.hid hs2
    have HM := Lib.hid hm
    have HSB := Lib.hid hsb
    have HCLS := Lib.hid (show clS xs = spansB (jR (knownL xs)) m from by rw [hm]; rfl)
    clear hcs ho1 b1 b2 hat hm hg1 hg2 hs2 HCL hB2 hsb
    gi_upto_region 3 with (fail)
    rw [← HSB.out, ← hW2]
    clear hW2
    gi_wp2
    gi_loopw [4, 13] (fun fv i wr => ∃ (k : Nat) (pre : List Cu), k ≤ m ∧ i = .int .i64 k ∧ fv = .int .i64 (lastS (jR (knownL xs)) k : Int) ∧ Go.RowKit.Hid (pre.map Cu.p = doneS (jR (knownL xs)) k) ∧ Go.RowKit.Hid (J (sb + 1) pre wr) ∧ Go.RowKit.Hid (At wr sb (knownL xs) k) ∧ Go.RowKit.Hid (g < wr.heap.size ∧ ∀ i, i < m → wr.cell? ⟨g, i, none⟩ = some (.int .i32 (xs.getD i 0))) ∧ Go.RowKit.Hid (sb + 1 ≤ wr.heap.size)) (fun _ i _ => m - (intOf i).toNat)
    case atStart => exact ⟨0, [], Nat.zero_le _, rfl, rfl, Lib.hid rfl, HJ0, HAT, HTX, Lib.hid (by rw [HS2.out]; exact Nat.le_refl _)⟩
    case round =>
      obtain ⟨k, pre, hk, rfl, rfl, HP, HJJ, HAT, HTX, HSZ⟩ := hrel
      by_cases hlt : k < m
      · have c0 := HTX.out.2 k hlt
        have hst := fun w' h => step_at w' sb (knownL xs) k h
        rw [knownL_at (show k < xs.length by rw [← HM.out]; exact hlt)] at hst
        obtain ⟨r, hr⟩ : ∃ r, r = xs.getD k 0 := ⟨_, rfl⟩
        rw [← hr] at c0 hst
        have HST := Lib.hid hst
        have hl1 := lastS_le (jR (knownL xs)) k
        have HL1 := Lib.hid (fun h => lastS_lt (jR (knownL xs)) k h)
        have HSL := Lib.hid (lastS_succ (jR (knownL xs)) k)
        have HSD := Lib.hid (doneS_succ (jR (knownL xs)) k)
        obtain ⟨f, hf⟩ : ∃ f, f = lastS (jR (knownL xs)) k := ⟨_, rfl⟩
        rw [← hf] at hl1 HL1 HSL HSD ⊢
        clear hr hst hf
        gi_wp2_with fail
        first | refine ⟨trivial, (fun h => absurd h (by decide)), (callsIn_wide.2 (ucdof_any r _)).mono ?_⟩ | refine ⟨trivial, (callsIn_wide.2 (ucdof_any r _)).mono ?_⟩
        rintro e w3 ⟨rfl, b3⟩
        rw [known_agg r]
        have HJ3 := Lib.hid (HJ.out _ _ _ _ HJJ.out (.ofBelow b3))
        have HA3 := Lib.hid (show At w3 sb (knownL xs) k from Has.below HAT.out b3 HAT.out.lt)
        have HT3 := Lib.hid (show g < w3.heap.size ∧ ∀ i, i < m → w3.cell? ⟨g, i, none⟩ = some (.int .i32 (xs.getD i 0)) from ⟨Nat.lt_of_lt_of_le HTX.out.1 b3.size, fun i hi => (b3.cell (p := ⟨g, i, none⟩) HTX.out.1).trans (HTX.out.2 i hi)⟩)
        have HS3 := Lib.hid (Nat.le_trans HSZ.out b3.size)
        clear b3 c0
        gi_wp2_with fail
        first | refine ⟨trivial, (fun h => absurd h (by decide)), (callsIn_wide.2 (HST.out _ HA3.out)).mono ?_⟩ | refine ⟨trivial, (callsIn_wide.2 (HST.out _ HA3.out)).mono ?_⟩
        rintro e w4 ⟨rfl, hat4, hb4⟩
        have u4 : Upd (fun b => b = sb) w3 w4 := .ofBut hb4
        have HJ4 := Lib.hid (HJ.out _ _ _ _ HJ3.out (u4.mono (fun b _ e => by have := HG.out; omega)))
        have HA4 := Lib.hid hat4
        have HT4 := Lib.hid (show g < w4.heap.size ∧ ∀ i, i < m → w4.cell? ⟨g, i, none⟩ = some (.int .i32 (xs.getD i 0)) from ⟨Nat.lt_of_lt_of_le HT3.out.1 u4.size, fun i hi => (u4.keep.cell HT3.out.1 (by have := HG.out; omega)).trans (HT3.out.2 i hi)⟩)
        have HS4 := Lib.hid (Nat.le_trans HS3.out u4.size)
        clear hb4 u4 hat4
        by_cases hgo : jR (knownL xs) k = true ∨ k = 0
        · have HF := Lib.hid (show lastS (jR (knownL xs)) (k + 1) = f from by rw [HSL.out, if_pos hgo])
          have HD := Lib.hid (show doneS (jR (knownL xs)) (k + 1) = doneS (jR (knownL xs)) k from by rw [HSD.out, if_pos hgo])
          have hway : jR (knownL xs) k = true ∨ (jR (knownL xs) k = false ∧ ((k : Int) == 0) = true) := by
            rcases hgo with h | h
            · exact .inl h
            · subst h; exact .inr ⟨jR_zero _, rfl⟩
          clear hgo
          rcases hway with h | ⟨h, h2⟩
          all_goals
            rw [h]
            gi_wp2
            go_roundw
            case rel => exact ⟨k + 1, pre, by omega, by go_num, by rw [HF.out], Lib.hid (by rw [HD.out]; exact HP.out), HJ4, HA4, HT4, HS4⟩
            case measure => simp [intOf] <;> omega
        · have hj : jR (knownL xs) k = false := by simpa using fun h => hgo (.inl h)
          have hk0 : ((k : Int) == 0) = false := by rw [beq_eq_false_iff_ne]; intro h; exact hgo (.inr (by omega))
          have hfk := HL1.out (by omega)
          obtain ⟨fn, tmps, assign, body, hy, hR⟩ := HY.out (sb + 1) pre ⟨(f, k), .slice (some ⟨g, f, none⟩) (k - f) (k - f)⟩ w4 (by have := HG.out; omega) HS4.out HJ4.out ⟨g, rfl, HG.out.1, by have := HG.out; omega, HT4.out.1, hfk, by rw [← HM.out]; exact hk, by rw [← HM.out]; exact HT4.out.2⟩ (by
            rw [List.map_append, HP.out, HCLS.out]
            have h2 := doneS_in (jR (knownL xs)) (k + 1) m (by omega) (by omega)
            rw [HSD.out, if_neg hgo] at h2
            exact h2)
          have HF := Lib.hid (show lastS (jR (knownL xs)) (k + 1) = k from by rw [HSL.out, if_neg hgo])
          have HD := Lib.hid (show doneS (jR (knownL xs)) (k + 1) = doneS (jR (knownL xs)) k ++ [(f, k)] from by rw [HSD.out, if_neg hgo])
          dsimp only [encCu] at hy
          rw [hj]
          clear hgo hj
          have HNS := Lib.hid (show ∀ b, W.heap.size ≤ b → b < sb + 1 → ¬ (C b ∨ (w.heap.size ≤ b ∧ b < W.heap.size) ∨ sb + 1 ≤ b) from fun b h1 h2 h3 => by
            rcases h3 with h3 | h3 | h3
            · have := HC.out b h3; omega
            · omega
            · omega)
          gi_wp2
          refine ⟨(fun h => absurd h (by decide)), hR.mono ?_⟩
          rintro e w5 (⟨rfl, hJ5, hu5⟩ | ⟨rfl, hJx5⟩)
          · have HJ5 := Lib.hid hJ5
            have HA5 := Lib.hid (show At w5 sb (knownL xs) (k + 1) from hu5.keep.has HA4.out (HNS.out sb HG.out.2.2 (by omega)))
            have HT5 := Lib.hid (show g < w5.heap.size ∧ ∀ i, i < m → w5.cell? ⟨g, i, none⟩ = some (.int .i32 (xs.getD i 0)) from ⟨Nat.lt_of_lt_of_le HT4.out.1 hu5.size, fun i hi => (hu5.keep.cell HT4.out.1 (HNS.out g HG.out.1 (by have := HG.out; omega))).trans (HT4.out.2 i hi)⟩)
            have HS5 := Lib.hid (Nat.le_trans HS4.out hu5.size)
            clear hJ5 hu5
            gi_wp2
            go_roundw
            case rel => exact ⟨k + 1, _, by omega, by go_num, by rw [HF.out], Lib.hid (by rw [HD.out, List.map_append, HP.out]; rfl), HJ5, HA5, HT5, HS5⟩
            case measure => simp [intOf] <;> omega
          · have HJX := Lib.hid hJx5
            clear hJx5
            gi_wp2
            refine bodyPost_ret (results_none rfl _ _ _) rfl ?_
            exact ⟨⟨_, rfl⟩, .inr ⟨_, _, trivial, HJX.out⟩⟩
      · obtain rfl : k = m := by omega
        have hl1 := lastS_le (jR (knownL xs)) k
        have HL1 := Lib.hid (fun h => lastS_lt (jR (knownL xs)) k h)
        have HFN := Lib.hid (show clS xs = if k = 0 then [] else doneS (jR (knownL xs)) k ++ [(lastS (jR (knownL xs)) k, k)] from HCLS.out)
        obtain ⟨f, hf⟩ : ∃ f, f = lastS (jR (knownL xs)) k := ⟨_, rfl⟩
        rw [← hf] at hl1 HL1 HFN ⊢
        clear hf
        by_cases hk0 : k = 0
        · have HZ := Lib.hid (show pre.map Cu.p = clS xs from by rw [HP.out, HFN.out, if_pos hk0, hk0]; rfl)
          have hd : decide ((0 : Int) < k) = false := by rw [decide_eq_false_iff_not]; omega
          have hdn : decide (0 < k) = false := by rw [decide_eq_false_iff_not]; omega
          clear hk0
          gi_wp2
          go_end0
          exact ⟨⟨_, rfl⟩, .inl ⟨_, pre, HZ.out, HJJ.out⟩⟩
        · have hfk := HL1.out (by omega)
          have hd : decide ((0 : Int) < k) = true := by rw [decide_eq_true_eq]; omega
          have HALL := Lib.hid (show (pre ++ [(⟨(f, k), .slice (some ⟨g, f, none⟩) (k - f) (k - f)⟩ : Cu)]).map Cu.p = clS xs from by rw [List.map_append, HP.out, HFN.out, if_neg hk0]; rfl)
          obtain ⟨fn, tmps, assign, body, hy, hR⟩ := HY.out (sb + 1) pre ⟨(f, k), .slice (some ⟨g, f, none⟩) (k - f) (k - f)⟩ wr (by have := HG.out; omega) HSZ.out HJJ.out ⟨g, rfl, HG.out.1, by have := HG.out; omega, HTX.out.1, hfk, by rw [← HM.out]; exact Nat.le_refl _, by rw [← HM.out]; exact HTX.out.2⟩ (by rw [HALL.out]; exact List.prefix_refl _)
          dsimp only [encCu] at hy
          clear hk0
          gi_wp2
          refine ⟨(fun h => absurd h (by decide)), hR.mono ?_⟩
          rintro e w5 (⟨rfl, hJ5, hu5⟩ | ⟨rfl, hJx5⟩)
          · have HJ5 := Lib.hid hJ5
            clear hJ5 hu5
            gi_wp2
            go_end0
            exact ⟨⟨_, rfl⟩, .inl ⟨_, _, HALL.out, HJ5.out⟩⟩
          · have HJX := Lib.hid hJx5
            clear hJx5
            gi_wp2
            go_end0
            exact ⟨⟨_, rfl⟩, .inr ⟨_, _, trivial, HJX.out⟩⟩
end Go.Proofs.Ytkpmmkokfllafaa
