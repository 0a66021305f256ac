/- cell.Text, cell.Of, the reference's Of. -/
import Derived.Test.YtoeggiplcaegoaaGreatDoorMg1
import Derived.Test.YtoeggiplcaegoaaGreatDoorMg2
namespace Go.Proofs.YtoeggiplcaegoaaGreatDoor
open Go.RowKit Go.ChangeShapes Go.WideShapes
theorem strip2_own (Z : Zone) (w : World) {B : Nat} (K K' : Int) (tv : Value) (t : List Int) (ht : HeldE (intE .i32) Z w tv t) (hB : B ≤ w.heap.size) : OwnE cellE Z (w.alloc (.cells #[.int .i64 K, tv, .int .i64 K', .slice none 0 0] 147)) B 147 (.slice (some ⟨w.heap.size, 0, none⟩) 2 2) [(K, t), (K', [])] := by
  refine OwnE.lit w cellE [[.int .i64 K, tv], [.int .i64 K', .slice none 0 0]] _ 2 rfl rfl hB (by decide) (fun i hi => ?_) _ rfl
  match i, hi with
  | 0, _ => exact cell_rep.2 ⟨_, rfl, ht⟩
  | 1, _ => exact cell_rep.2 ⟨_, rfl, HeldE.nil _ _ _⟩
theorem strip1_own (Z : Zone) (w : World) {B : Nat} (K : Int) (tv : Value) (t : List Int) (ht : HeldE (intE .i32) Z w tv t) (hB : B ≤ w.heap.size) : OwnE cellE Z (w.alloc (.cells #[.int .i64 K, tv] 147)) B 147 (.slice (some ⟨w.heap.size, 0, none⟩) 1 1) [(K, t)] := by
  refine OwnE.lit w cellE [[.int .i64 K, tv]] _ 1 rfl rfl hB (by decide) (fun i hi => ?_) _ rfl
  match i, hi with
  | 0, _ => exact cell_rep.2 ⟨_, rfl, ht⟩
theorem blank2_own (Z : Zone) (w : World) {B : Nat} (hB : B ≤ w.heap.size) : OwnE cellE Z (w.alloc (.cells #[.int .i64 0, .slice none 0 0, .int .i64 0, .slice none 0 0] 147)) B 147 (.slice (some ⟨w.heap.size, 0, none⟩) 2 2) [zc, zc] :=
  strip2_own Z w 0 0 _ [] (HeldE.nil _ _ _) hB
theorem ofC_cases (wide : Int) (xs : List Int) (t : List Int) (ht : t = (xs.take 16).map repl) : (t = [] → 2 ≤ wide → ofC wide xs = [zc, zc]) ∧ (t = [] → ¬ 2 ≤ wide → ofC wide xs = [zc]) ∧ (t ≠ [] → 2 ≤ wide → ofC wide xs = [(2, t), (3, [])]) ∧ (t ≠ [] → ¬ 2 ≤ wide → ofC wide xs = [(1, t)]) := by
  subst ht
  unfold ofC
  refine ⟨fun h1 h2 => ?_, fun h1 h2 => ?_, fun h1 h2 => ?_, fun h1 h2 => ?_⟩
  · simp only [h1, List.length_nil, if_true, if_pos h2]
  · simp only [h1, List.length_nil, if_true, if_neg h2]
  · simp only [if_neg (fun h => h1 (List.eq_nil_of_length_eq_zero h)), if_pos h2]
  · simp only [if_neg (fun h => h1 (List.eq_nil_of_length_eq_zero h)), if_neg h2]
set_option maxRecDepth 100000 in
set_option maxHeartbeats 800000 in
theorem cof_new (Z Y : Zone) (wide : Int) (v : Value) (xs : List Int) (w : World) (hZ : ∀ b, w.heap.size ≤ b → Z b) (hv : HeldE (intE .i32) Y w v xs) : Calls Tryz.prog 190 #[.int .i64 wide, v] w (MadeE cellE Z 147 w (ofC wide xs)) := by
  have hl := hv.max
  obtain ⟨ao, cap, rfl, hcap, hcm, hnn, hcc⟩ := id hv
  obtain ⟨m, hm⟩ : ∃ m, m = min xs.length 16 := ⟨_, rfl⟩
  have hm1 : min (xs.length : Int) 16 = (m : Int) := by omega
  have hm2 : m ≤ xs.length := by omega
  have hm3 : (m : Int) ≤ (cap : Int) := by omega
  have ht16 : (xs.take 16) = xs.take m := by
    rw [hm]
    by_cases h : xs.length ≤ 16
    · rw [Nat.min_eq_left h, List.take_length, List.take_of_length_le h]
    · rw [Nat.min_eq_right (by omega)]
  have hpart : HeldE (intE .i32) Y w (.slice ao m cap) (xs.take m) := by
    have := hv.part 0 m (Nat.zero_le _) hm2 ao cap (fun h => ⟨h, (hnn h).2⟩) (fun b off e _ => by simp [e]) (fun a e => by rw [e]; simp) (by omega) hcm
    simpa using this
  obtain ⟨t, ht⟩ : ∃ t, t = (xs.take 16).map repl := ⟨_, rfl⟩
  have HOC := Lib.hid (ofC_cases wide xs t ht)
  have hR := replace_own _ _ w hpart.ints (by simp; omega)
  rw [← ht16, ← ht] at hR
  have HR := Lib.hid hR
  have HT := Lib.hid ht
  clear hR ht hpart ht16 hm hcc hnn hcap hcm hv
  by_cases h2 : 2 ≤ wide
  all_goals
    go_enter Tryz.func190, Tryz.ntmps190
    go_wp2_with fail
    refine HR.out.mono ?_
    rintro e w1 ⟨v1, rfl, ho1, hb1⟩
    have hh := (ownE_ints (Z := Z) ho1).held (fun b hb _ => hZ b hb)
    obtain ⟨a1, c1, rfl⟩ := hh.len
    have HH := Lib.hid hh
    have HB1 := Lib.hid hb1
    clear ho1 hh hb1
    cases t with
    | nil =>
      go_wp2_with fail
      refine (blanks_any Z _ _).mono ?_
      rintro e w2 ⟨v2, rfl, ho2, hb2⟩
      have HO := Lib.hid (ho2.base (HB1.out.size))
      have HB := Lib.hid (HB1.out.trans (hb2.mono HB1.out.size))
      clear ho2 hb2
      go_wp2
      go_ret
      refine ⟨_, rfl, ?_, HB.out⟩
      first
        | (rw [HOC.out.1 (by simp) h2]; exact HO.out)
        | (rw [HOC.out.2.1 (by simp) h2]; exact HO.out)
    | cons x t =>
      have hpos : 0 < (x :: t).length := by simp
      obtain ⟨t0, ht0⟩ : ∃ t0, t0 = x :: t := ⟨_, rfl⟩
      have hne : t0 ≠ [] := by rw [ht0]; simp
      rw [← ht0] at HH HOC hpos ⊢
      have HNE := Lib.hid hne
      clear ht0 hne HT HR
      have hz : ((t0.length : Int) == 0) = false := by rw [beq_eq_false_iff_ne]; omega
      have HP2 := Lib.hid (strip2_own Z w1 (B := w.heap.size) 2 3 _ t0 HH.out HB1.out.size)
      have HP1 := Lib.hid (strip1_own Z w1 (B := w.heap.size) 1 _ t0 HH.out HB1.out.size)
      go_wp2
      go_ret
      refine ⟨_, rfl, ?_, HB1.out.alloc HB1.out.size _⟩
      first
        | (rw [HOC.out.2.2.1 HNE.out h2]; exact HP2.out)
        | (rw [HOC.out.2.2.2 HNE.out h2]; exact HP1.out)
theorem takerepl_succ (xs : List Int) (k : Nat) (h : k < xs.length) : (xs.take (k + 1)).map repl = (xs.take k).map repl ++ [repl (xs.getD k 0)] := by
  rw [List.take_succ_eq_append_getElem h, List.map_append]
  simp [List.getD, List.getElem?_eq_getElem h]
set_option maxRecDepth 100000 in
set_option maxHeartbeats 1600000 in
theorem rcof_new (Z Y : Zone) (wide : Int) (v : Value) (xs : List Int) (w : World) (hZ : ∀ b, w.heap.size ≤ b → Z b) (hv : HeldE (intE .i32) Y w v xs) : Calls Tryz.prog 144 #[.int .i64 wide, v] w (MadeE cellE Z 147 w (ofC wide xs)) := by
  have hl := hv.max
  obtain ⟨ao, cap, rfl, hc⟩ := hv.ints.view
  have HC := Lib.hid hc
  have HOC := Lib.hid (fun t (ht : t = (xs.take 16).map repl) => ofC_cases wide xs t ht)
  clear hc hv
  go_enter Tryz.func144, Tryz.ntmps144
  go_wp2
  go_loopw [5, 6] (fun t i wr => ∃ k : Nat, k ≤ xs.length ∧ k ≤ 16 ∧ i = .int .i64 k ∧ OwnE (intE .i32) (fun _ => True) wr w.heap.size 21 t ((xs.take k).map repl) ∧ Below w.heap.size w wr) (fun _ i _ => 16 - (intOf i).toNat)
  case atStart => exact ⟨0, Nat.zero_le _, Nat.zero_le _, rfl, OwnE.nil _ _ _ _ _, Below.refl _ _⟩
  case round =>
    obtain ⟨k, hk, hk16, rfl, hown, hbw⟩ := hrel
    have HBW := Lib.hid hbw
    clear hbw
    by_cases hlt : k < xs.length ∧ k < 16
    · obtain ⟨hlt, hlt16⟩ := hlt
      obtain ⟨b, off, rfl, hb, hcx⟩ := HC.out k hlt
      have hcx := (HBW.out.cell (p := ⟨b, off + k, none⟩) hb).trans hcx
      have hs := takerepl_succ xs k hlt
      have hlen : ((xs.take k).map repl).length ≤ 16 := by simp; omega
      obtain ⟨x, hx⟩ : ∃ x, x = xs.getD k 0 := ⟨_, rfl⟩
      rw [← hx] at hcx hs
      obtain ⟨P0, hP⟩ : ∃ P0, P0 = (xs.take k).map repl := ⟨_, rfl⟩
      rw [← hP] at hown hs hlen
      have HS := Lib.hid hs
      clear hs hP hx
      have hlo := hown.lt
      have HX := Lib.hid (fun y : Int => show HeldE (intE .i32) (fun b => True ∧ _ ≠ some b) (wr.alloc (.cells [Value.int .i32 y].toArray 21)) (.slice (some ⟨wr.heap.size, 0, none⟩) 1 1) [y] from heldE_one (Y := fun _ => False) [.int .i32 y] y rfl (fun _ _ h => h.elim) ⟨trivial, fun e => by have := (hlo _ e).2; omega⟩)
      have HO := Lib.hid (fun y : Int => hown.below ((Below.refl wr.heap.size wr).alloc (Nat.le_refl _) (.cells [Value.int .i32 y].toArray 21)))
      have HB1 := Lib.hid (fun y : Int => HBW.out.alloc HBW.out.size (.cells [Value.int .i32 y].toArray 21))
      clear hown hlo
      cases hvx : validB x with
      | true =>
        have HV := Lib.hid hvx
        clear hvx
        go_wp2_with fail
        refine (refvalid_any _ _).mono ?_
        rintro e w' ⟨rfl, rfl⟩
        rw [HV.out]
        go_wp2_with (at_builtin; refine wpList_append_e (E := intE .i32) (Z := fun _ => True) rfl (.tmp 23) (.tmp 28) 27 rfl (.int .i32 0) 4 Tryz.underlying27 info_rune rfl (Nat.lt_succ_self 0) rfl rfl (HO.out x) (HX.out x) (by simp; omega) (by simp; omega) (HB1.out x).size ?_)
        intro v2 w2 ho2 hb2 _ _
        have hb3 := (HB1.out x).trans hb2
        have e : repl x = x := by unfold repl; rw [if_pos HV.out]
        rw [e] at HS
        rw [← HS.out] at ho2
        have H2 := Lib.hid ho2
        have H3 := Lib.hid hb3
        clear ho2 hb2 hb3 e
        go_wp2
        go_roundw
        case rel => exact ⟨k + 1, by omega, by omega, by go_num, H2.out, H3.out⟩
        case measure => simp [intOf] <;> omega
      | false =>
        have HV := Lib.hid hvx
        clear hvx
        go_wp2_with fail
        refine (refvalid_any _ _).mono ?_
        rintro e w' ⟨rfl, rfl⟩
        rw [HV.out]
        go_wp2_with (at_builtin; refine wpList_append_e (E := intE .i32) (Z := fun _ => True) rfl (.tmp 30) (.tmp 31) 27 rfl (.int .i32 0) 4 Tryz.underlying27 info_rune rfl (Nat.lt_succ_self 0) rfl rfl (HO.out 65533) (HX.out 65533) (by simp; omega) (by simp; omega) (HB1.out 65533).size ?_)
        intro v2 w2 ho2 hb2 _ _
        have hb3 := (HB1.out 65533).trans hb2
        have e : repl x = 65533 := by unfold repl; rw [if_neg (by rw [HV.out]; decide)]
        rw [e] at HS
        rw [← HS.out] at ho2
        have H2 := Lib.hid ho2
        have H3 := Lib.hid hb3
        clear ho2 hb2 hb3 e
        go_wp2
        go_roundw
        case rel => exact ⟨k + 1, by omega, by omega, by go_num, H2.out, H3.out⟩
        case measure => simp [intOf] <;> omega
    · have ht : (xs.take k).map repl = (xs.take 16).map repl := by
        rcases Nat.lt_or_ge k 16 with h | h
        · rw [List.take_of_length_le (show xs.length ≤ k by omega), List.take_of_length_le (show xs.length ≤ 16 by omega)]
        · rw [show k = 16 by omega]
      obtain ⟨t, htt⟩ : ∃ t, t = (xs.take k).map repl := ⟨_, rfl⟩
      rw [← htt] at ht hown
      have HOC := Lib.hid (HOC.out t ht)
      have hh := (ownE_ints (Z := Z) hown.ints).held (fun b hb _ => hZ b hb)
      obtain ⟨a1, c1, rfl⟩ := hh.len
      have HH := Lib.hid hh
      have hcase : (xs.length ≤ k) ∨ (k < xs.length ∧ k = 16) := by omega
      clear hlt ht hown hh htt
      have HZ2 := Lib.hid (blank2_own Z wr HBW.out.size)
      have HZ1 := Lib.hid (strip1_own Z wr 0 _ [] (HeldE.nil _ _ _) HBW.out.size)
      by_cases h2 : 2 ≤ wide <;> cases t with
      | nil =>
        rcases hcase with hc | ⟨hc, rfl⟩
        all_goals
          go_wp2
          go_ret
          refine ⟨_, rfl, ?_, HBW.out.alloc HBW.out.size _⟩
          first
            | (rw [HOC.out.1 (by simp) h2]; exact HZ2.out)
            | (rw [HOC.out.2.1 (by simp) h2]; exact HZ1.out)
      | cons x t =>
        obtain ⟨t0, ht0⟩ : ∃ t0, t0 = x :: t := ⟨_, rfl⟩
        have hne : t0 ≠ [] := by rw [ht0]; simp
        have hpos : 0 < t0.length := by rw [ht0]; simp
        rw [← ht0] at HH HOC ⊢
        have HNE := Lib.hid hne
        clear ht0 hne
        have hz : ((t0.length : Int) == 0) = false := by rw [beq_eq_false_iff_ne]; omega
        have HP2 := Lib.hid (strip2_own Z wr (B := w.heap.size) 2 3 _ t0 HH.out HBW.out.size)
        have HP1 := Lib.hid (strip1_own Z wr (B := w.heap.size) 1 _ t0 HH.out HBW.out.size)
        rcases hcase with hc | ⟨hc, rfl⟩
        all_goals
          go_wp2
          go_ret
          refine ⟨_, rfl, ?_, HBW.out.alloc HBW.out.size _⟩
          first
            | (rw [HOC.out.2.2.1 HNE.out h2]; exact HP2.out)
            | (rw [HOC.out.2.2.2 HNE.out h2]; exact HP1.out)
end Go.Proofs.YtoeggiplcaegoaaGreatDoor
