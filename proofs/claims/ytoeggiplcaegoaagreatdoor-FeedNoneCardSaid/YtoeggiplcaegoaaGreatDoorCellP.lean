/- cell.Text, cell.Of, the reference's Of. -/
import Derived.Test.YtoeggiplcaegoaaGreatDoorMg1
import Derived.Test.YtoeggiplcaegoaaGreatDoorMg3
namespace Go.Proofs.YtoeggiplcaegoaaGreatDoor
open Go.RowKit Go.ChangeShapes Go.WideShapes
theorem strip2_own (Z : Zone) (w : World) {B : Nat} (K K' : Int) (tv : Value) (t : List Int) (ht : HeldE (intE .i32) Z w tv t) (hB : B ≤ w.heap.size) : OwnE cellE Z (w.alloc (.cells #[.int .i64 K, tv, .int .i64 K', .slice none 0 0] 147)) B 147 (.slice (some ⟨w.heap.size, 0, none⟩) 2 2) [(K, t), (K', [])] := by
  refine OwnE.lit w cellE [[.int .i64 K, tv], [.int .i64 K', .slice none 0 0]] _ 2 rfl rfl hB (by decide) (fun i hi => ?_) _ rfl
  match i, hi with
  | 0, _ => exact cell_rep.2 ⟨_, rfl, ht⟩
  | 1, _ => exact cell_rep.2 ⟨_, rfl, HeldE.nil _ _ _⟩
theorem strip1_own (Z : Zone) (w : World) {B : Nat} (K : Int) (tv : Value) (t : List Int) (ht : HeldE (intE .i32) Z w tv t) (hB : B ≤ w.heap.size) : OwnE cellE Z (w.alloc (.cells #[.int .i64 K, tv] 147)) B 147 (.slice (some ⟨w.heap.size, 0, none⟩) 1 1) [(K, t)] := by
  refine OwnE.lit w cellE [[.int .i64 K, tv]] _ 1 rfl rfl hB (by decide) (fun i hi => ?_) _ rfl
  match i, hi with
  | 0, _ => exact cell_rep.2 ⟨_, rfl, ht⟩
theorem ofC_cases (wide : Int) (xs : List Int) (t : List Int) (ht : t = (xs.take 16).map repl) : (t = [] → 2 ≤ wide → ofC wide xs = [zc, zc]) ∧ (t = [] → ¬ 2 ≤ wide → ofC wide xs = [zc]) ∧ (t ≠ [] → 2 ≤ wide → ofC wide xs = [(2, t), (3, [])]) ∧ (t ≠ [] → ¬ 2 ≤ wide → ofC wide xs = [(1, t)]) := by
  subst ht
  unfold ofC
  refine ⟨fun h1 h2 => ?_, fun h1 h2 => ?_, fun h1 h2 => ?_, fun h1 h2 => ?_⟩
  · simp only [h1, List.length_nil, if_true, if_pos h2]
  · simp only [h1, List.length_nil, if_true, if_neg h2]
  · simp only [if_neg (fun h => h1 (List.eq_nil_of_length_eq_zero h)), if_pos h2]
  · simp only [if_neg (fun h => h1 (List.eq_nil_of_length_eq_zero h)), if_neg h2]
set_option maxRecDepth 100000 in
set_option maxHeartbeats 800000 in
theorem cof_new (Z Y : Zone) (wide : Int) (v : Value) (xs : List Int) (w : World) (hZ : ∀ b, w.heap.size ≤ b → Z b) (hv : HeldE (intE .i32) Y w v xs) : Calls Tryz.prog 190 #[.int .i64 wide, v] w (MadeE cellE Z 147 w (ofC wide xs)) := by
  have hl := hv.max
  obtain ⟨ao, cap, rfl, hcap, hcm, hnn, hcc⟩ := id hv
  obtain ⟨m, hm⟩ : ∃ m, m = min xs.length 16 := ⟨_, rfl⟩
  have hm1 : min (xs.length : Int) 16 = (m : Int) := by omega
  have hm2 : m ≤ xs.length := by omega
  have hm3 : (m : Int) ≤ (cap : Int) := by omega
  have ht16 : (xs.take 16) = xs.take m := by
    rw [hm]
    by_cases h : xs.length ≤ 16
    · rw [Nat.min_eq_left h, List.take_length, List.take_of_length_le h]
    · rw [Nat.min_eq_right (by omega)]
  have hpart : HeldE (intE .i32) Y w (.slice ao m cap) (xs.take m) := by
    have := hv.part 0 m (Nat.zero_le _) hm2 ao cap (fun h => ⟨h, (hnn h).2⟩) (fun b off e _ => by simp [e]) (fun a e => by rw [e]; simp) (by omega) hcm
    simpa using this
  obtain ⟨t, ht⟩ : ∃ t, t = (xs.take 16).map repl := ⟨_, rfl⟩
  have HOC := Lib.hid (ofC_cases wide xs t ht)
  have hR := replace_own _ _ w hpart.ints (by simp; omega)
  rw [← ht16, ← ht] at hR
  have HR := Lib.hid hR
  have HT := Lib.hid ht
  clear hR ht hpart ht16 hm hcc hnn hcap hcm hv
  by_cases h2 : 2 ≤ wide
  all_goals
    go_enter Tryz.func190, Tryz.ntmps190
    go_wp2_with fail
    refine HR.out.mono ?_
    rintro e w1 ⟨v1, rfl, ho1, hb1⟩
    have hh := (ownE_ints (Z := Z) ho1).held (fun b hb _ => hZ b hb)
    obtain ⟨a1, c1, rfl⟩ := hh.len
    have HH := Lib.hid hh
    have HB1 := Lib.hid hb1
    clear ho1 hh hb1
    cases t with
    | nil =>
      go_wp2_with fail
      refine (blanks_any Z _ _).mono ?_
      rintro e w2 ⟨v2, rfl, ho2, hb2⟩
      have HO := Lib.hid (ho2.base (HB1.out.size))
      have HB := Lib.hid (HB1.out.trans (hb2.mono HB1.out.size))
      clear ho2 hb2
      go_wp2
      go_ret
      refine ⟨_, rfl, ?_, HB.out⟩
      first
        | (rw [HOC.out.1 (by simp) h2]; exact HO.out)
        | (rw [HOC.out.2.1 (by simp) h2]; exact HO.out)
    | cons x t =>
      have hpos : 0 < (x :: t).length := by simp
      obtain ⟨t0, ht0⟩ : ∃ t0, t0 = x :: t := ⟨_, rfl⟩
      have hne : t0 ≠ [] := by rw [ht0]; simp
      rw [← ht0] at HH HOC hpos ⊢
      have HNE := Lib.hid hne
      clear ht0 hne HT HR
      have hz : ((t0.length : Int) == 0) = false := by rw [beq_eq_false_iff_ne]; omega
      have HP2 := Lib.hid (strip2_own Z w1 (B := w.heap.size) 2 3 _ t0 HH.out HB1.out.size)
      have HP1 := Lib.hid (strip1_own Z w1 (B := w.heap.size) 1 _ t0 HH.out HB1.out.size)
      go_wp2
      go_ret
      refine ⟨_, rfl, ?_, HB1.out.alloc HB1.out.size _⟩
      first
        | (rw [HOC.out.2.2.1 HNE.out h2]; exact HP2.out)
        | (rw [HOC.out.2.2.2 HNE.out h2]; exact HP1.out)
theorem takerepl_succ (xs : List Int) (k : Nat) (h : k < xs.length) : (xs.take (k + 1)).map repl = (xs.take k).map repl ++ [repl (xs.getD k 0)] := by
  rw [List.take_succ_eq_append_getElem h, List.map_append]
  simp [List.getD, List.getElem?_eq_getElem h]
end Go.Proofs.YtoeggiplcaegoaaGreatDoor
