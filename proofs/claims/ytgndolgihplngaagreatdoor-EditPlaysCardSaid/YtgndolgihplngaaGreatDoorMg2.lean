/- Texts put together: CellC, CellP, CloneC, CloneD, CursorD, ErfA, ErfB, ErfL, ErfS, RowC, RowO, ShfA, ShfB. -/
import Derived.Test.YtgndolgihplngaaGreatDoorCellB
import Derived.Test.YtgndolgihplngaaGreatDoorMg1
import Derived.Test.YtgndolgihplngaaGreatDoorCursorC
import Derived.Test.YtgndolgihplngaaGreatDoorErfC
import Derived.Test.YtgndolgihplngaaGreatDoorRows
import Derived.LaidMore
import Derived.Test.YtgndolgihplngaaGreatDoorErrS
import Derived.Lib.AppendZeros
import Derived.Lib.MinMax
import Derived.Deep.Cut
/- cell.Sound. -/
namespace Go.Proofs.YtgndolgihplngaaGreatDoor
open Go.RowKit Go.ChangeShapes Go.WideShapes
set_option maxRecDepth 100000 in
set_option maxHeartbeats 800000 in
theorem sound_any (Z : Zone) (v : Value) (L : List Cl) (w : World) (hv : HeldE cellE Z w v L) : Calls Tryz.prog 48 #[v] w (Gives w (.bool (soundB L))) := by
  have hl := hv.max
  obtain ⟨ao, cap, rfl⟩ := hv.len
  obtain ⟨_, _, hc⟩ := cells_at hv
  have HC := Lib.hid hc
  clear hc hv
  go_enter Tryz.func48, Tryz.ntmps48
  go_wp2
  go_loopw [3, 8] (fun ld i wr => ∃ k : Nat, k ≤ L.length ∧ i = .int .i64 k ∧ ld = .bool (leadAt L k) ∧ Go.RowKit.Hid (soundF (leadAt L k) (L.drop k) = soundB L) ∧ Below w.heap.size w wr) (fun _ i _ => L.length - (intOf i).toNat)
  case atStart => exact ⟨0, Nat.zero_le _, rfl, rfl, Lib.hid rfl, Below.refl _ _⟩
  case round =>
    obtain ⟨k, hk, rfl, rfl, HP, hbw⟩ := hrel
    have HBW := Lib.hid hbw
    clear hbw
    by_cases hlt : k < L.length
    · obtain ⟨b, off, tv, rfl, hb, _, c0, c1, hh⟩ := HC.out k hlt
      have htl := hh.max
      have hh := hh.ints.below HBW.out
      have c0 := (HBW.out.cell (p := ⟨b, off + k * 2, none⟩) hb).trans c0
      have c1 := (HBW.out.cell (p := ⟨b, off + k * 2 + 1, none⟩) hb).trans c1
      have hs := leadAt_succ L k
      have hbad := soundB_bad hlt HP.out
      have hnext := soundB_next hlt HP.out
      unfold soundAt at hbad hnext
      obtain ⟨⟨K, T⟩, hKT⟩ : ∃ y, y = L.getD k zc := ⟨_, rfl⟩
      rw [← hKT] at c0 hh htl hs hbad hnext
      simp only at c0 hh htl hs hbad hnext
      have HNX := Lib.hid hnext
      have HBD := Lib.hid hbad
      have HS := Lib.hid hs
      have HHH := Lib.hid hh
      clear hKT hnext hbad hs hh HP
      obtain ⟨tz9, tc, rfl, _⟩ := HHH.out.view
      obtain ⟨wk, hwk⟩ : ∃ wk, wk = wr := ⟨_, rfl⟩
      have HB1 := Lib.hid ((Below.refl wr.heap.size wr).alloc (Nat.le_refl _) (.cells #[.int .i64 K, .slice tz9 T.length tc] 82))
      have HR := Lib.hid (right_any K _ T _ (HHH.out.below HB1.out) htl)
      generalize leadAt L k = ld at *
      cases hr : rightB (K, T) with
      | false =>
        rw [hr] at HR HBD
        clear HNX
        go_wp2_with fail
        refine HR.out.mono ?_
        rintro e w2 ⟨rfl, hb2⟩
        have hb3 := HBW.out.trans ((HB1.out.trans (hb2.mono HB1.out.size)).mono HBW.out.size)
        go_wp2
        go_ret
        exact ⟨ret_eq (by rw [HBD.out (by simp)]; try rfl), hb3⟩
      | true =>
        rw [hr] at HR HBD HNX
        have hkc : (K = 3 ∧ (K == 3) = true ∧ (K == 2) = false) ∨ ((K == 3) = false ∧ K = 2 ∧ (K == 2) = true) ∨ ((K == 3) = false ∧ (K == 2) = false) := by
          by_cases h3 : K = 3
          · exact .inl ⟨h3, by simpa using h3, by simp; omega⟩
          · by_cases h2 : K = 2
            · exact .inr (.inl ⟨by simpa using h3, h2, by simpa using h2⟩)
            · exact .inr (.inr ⟨by simpa using h3, by simpa using h2⟩)
        rcases hkc with ⟨hk0, hk3, hk2⟩ | ⟨hk3, hk0, hk2⟩ | ⟨hk3, hk2⟩ <;> cases ld
        all_goals
          rw [hk3] at HBD HNX
          rw [hk2] at HS
          have HB2 := Lib.hid (show ∀ w2, Below (wr.alloc (.cells #[.int .i64 K, .slice tz9 T.length tc] 82)).heap.size (wr.alloc (.cells #[.int .i64 K, .slice tz9 T.length tc] 82)) w2 → w2.cell? ⟨wr.heap.size, 0, none⟩ = some (.int .i64 K) ∧ Below w.heap.size w w2 from fun w2 h => ⟨(h.cell (p := ⟨wr.heap.size, 0, none⟩) (by simp)).trans (by rw [cell_of_row _ wr.heap.size 0 _ _ (0, 0) (heap_alloc_new wr _)]; rfl), HBW.out.trans ((HB1.out.trans (h.mono HB1.out.size)).mono HBW.out.size)⟩)
          try subst hk0
          go_wp2_with fail
          refine HR.out.mono ?_
          rintro e w2 ⟨rfl, hb2⟩
          obtain ⟨hcc, hb3⟩ := HB2.out w2 hb2
          clear hb2
          go_wp2
        all_goals first
          | (go_ret; exact ⟨ret_eq (by rw [HBD.out (by rfl)]; try rfl), hb3⟩)
          | (go_roundw
             case rel => exact ⟨k + 1, by omega, by go_num, by rw [HS.out], Lib.hid (HNX.out rfl), hb3⟩
             case measure => simp [intOf] <;> omega)
    · obtain rfl : k = L.length := by omega
      have HE := Lib.hid (soundB_end HP.out)
      clear HP
      generalize leadAt L L.length = ld at *
      go_wp2
      go_ret
      exact ⟨ret_eq (by rw [HE.out]; try rfl), HBW.out⟩
end Go.Proofs.YtgndolgihplngaaGreatDoor
/- cell.Text, cell.Of, the reference's Of. -/
namespace Go.Proofs.YtgndolgihplngaaGreatDoor
open Go.RowKit Go.ChangeShapes Go.WideShapes
theorem strip2_own (Z : Zone) (w : World) {B : Nat} (K K' : Int) (tv : Value) (t : List Int) (ht : HeldE (intE .i32) Z w tv t) (hB : B ≤ w.heap.size) : OwnE cellE Z (w.alloc (.cells #[.int .i64 K, tv, .int .i64 K', .slice none 0 0] 82)) B 82 (.slice (some ⟨w.heap.size, 0, none⟩) 2 2) [(K, t), (K', [])] := by
  refine OwnE.lit w cellE [[.int .i64 K, tv], [.int .i64 K', .slice none 0 0]] _ 2 rfl rfl hB (by decide) (fun i hi => ?_) _ rfl
  match i, hi with
  | 0, _ => exact cell_rep.2 ⟨_, rfl, ht⟩
  | 1, _ => exact cell_rep.2 ⟨_, rfl, HeldE.nil _ _ _⟩
theorem strip1_own (Z : Zone) (w : World) {B : Nat} (K : Int) (tv : Value) (t : List Int) (ht : HeldE (intE .i32) Z w tv t) (hB : B ≤ w.heap.size) : OwnE cellE Z (w.alloc (.cells #[.int .i64 K, tv] 82)) B 82 (.slice (some ⟨w.heap.size, 0, none⟩) 1 1) [(K, t)] := by
  refine OwnE.lit w cellE [[.int .i64 K, tv]] _ 1 rfl rfl hB (by decide) (fun i hi => ?_) _ rfl
  match i, hi with
  | 0, _ => exact cell_rep.2 ⟨_, rfl, ht⟩
theorem ofC_cases (wide : Int) (xs : List Int) (t : List Int) (ht : t = (xs.take 16).map repl) : (t = [] → 2 ≤ wide → ofC wide xs = [zc, zc]) ∧ (t = [] → ¬ 2 ≤ wide → ofC wide xs = [zc]) ∧ (t ≠ [] → 2 ≤ wide → ofC wide xs = [(2, t), (3, [])]) ∧ (t ≠ [] → ¬ 2 ≤ wide → ofC wide xs = [(1, t)]) := by
  subst ht
  unfold ofC
  refine ⟨fun h1 h2 => ?_, fun h1 h2 => ?_, fun h1 h2 => ?_, fun h1 h2 => ?_⟩
  · simp only [h1, List.length_nil, if_true, if_pos h2]
  · simp only [h1, List.length_nil, if_true, if_neg h2]
  · simp only [if_neg (fun h => h1 (List.eq_nil_of_length_eq_zero h)), if_pos h2]
  · simp only [if_neg (fun h => h1 (List.eq_nil_of_length_eq_zero h)), if_neg h2]
set_option maxRecDepth 100000 in
set_option maxHeartbeats 800000 in
theorem cof_new (Z Y : Zone) (wide : Int) (v : Value) (xs : List Int) (w : World) (hZ : ∀ b, w.heap.size ≤ b → Z b) (hv : HeldE (intE .i32) Y w v xs) : Calls Tryz.prog 75 #[.int .i64 wide, v] w (MadeE cellE Z 82 w (ofC wide xs)) := by
  have hl := hv.max
  obtain ⟨ao, cap, rfl, hcap, hcm, hnn, hcc⟩ := id hv
  obtain ⟨m, hm⟩ : ∃ m, m = min xs.length 16 := ⟨_, rfl⟩
  have hm1 : min (xs.length : Int) 16 = (m : Int) := by omega
  have hm2 : m ≤ xs.length := by omega
  have hm3 : (m : Int) ≤ (cap : Int) := by omega
  have ht16 : (xs.take 16) = xs.take m := by
    rw [hm]
    by_cases h : xs.length ≤ 16
    · rw [Nat.min_eq_left h, List.take_length, List.take_of_length_le h]
    · rw [Nat.min_eq_right (by omega)]
  have hpart : HeldE (intE .i32) Y w (.slice ao m cap) (xs.take m) := by
    have := hv.part 0 m (Nat.zero_le _) hm2 ao cap (fun h => ⟨h, (hnn h).2⟩) (fun b off e _ => by simp [e]) (fun a e => by rw [e]; simp) (by omega) hcm
    simpa using this
  obtain ⟨t, ht⟩ : ∃ t, t = (xs.take 16).map repl := ⟨_, rfl⟩
  have HOC := Lib.hid (ofC_cases wide xs t ht)
  have hR := replace_own _ _ w hpart.ints (by simp; omega)
  rw [← ht16, ← ht] at hR
  have HR := Lib.hid hR
  have HT := Lib.hid ht
  clear hR ht hpart ht16 hm hcc hnn hcap hcm hv
  by_cases h2 : 2 ≤ wide
  all_goals
    go_enter Tryz.func75, Tryz.ntmps75
    go_wp2_with fail
    refine HR.out.mono ?_
    rintro e w1 ⟨v1, rfl, ho1, hb1⟩
    have hh := (ownE_ints (Z := Z) ho1).held (fun b hb _ => hZ b hb)
    obtain ⟨a1, c1, rfl⟩ := hh.len
    have HH := Lib.hid hh
    have HB1 := Lib.hid hb1
    clear ho1 hh hb1
    cases t with
    | nil =>
      go_wp2_with fail
      refine (blanks_any Z _ _).mono ?_
      rintro e w2 ⟨v2, rfl, ho2, hb2⟩
      have HO := Lib.hid (ho2.base (HB1.out.size))
      have HB := Lib.hid (HB1.out.trans (hb2.mono HB1.out.size))
      clear ho2 hb2
      go_wp2
      go_ret
      refine ⟨_, rfl, ?_, HB.out⟩
      first
        | (rw [HOC.out.1 (by simp) h2]; exact HO.out)
        | (rw [HOC.out.2.1 (by simp) h2]; exact HO.out)
    | cons x t =>
      have hpos : 0 < (x :: t).length := by simp
      obtain ⟨t0, ht0⟩ : ∃ t0, t0 = x :: t := ⟨_, rfl⟩
      have hne : t0 ≠ [] := by rw [ht0]; simp
      rw [← ht0] at HH HOC hpos ⊢
      have HNE := Lib.hid hne
      clear ht0 hne HT HR
      have hz : ((t0.length : Int) == 0) = false := by rw [beq_eq_false_iff_ne]; omega
      have HP2 := Lib.hid (strip2_own Z w1 (B := w.heap.size) 2 3 _ t0 HH.out HB1.out.size)
      have HP1 := Lib.hid (strip1_own Z w1 (B := w.heap.size) 1 _ t0 HH.out HB1.out.size)
      go_wp2
      go_ret
      refine ⟨_, rfl, ?_, HB1.out.alloc HB1.out.size _⟩
      first
        | (rw [HOC.out.2.2.1 HNE.out h2]; exact HP2.out)
        | (rw [HOC.out.2.2.2 HNE.out h2]; exact HP1.out)
end Go.Proofs.YtgndolgihplngaaGreatDoor
/- Package clone: cells with memory of their own. -/
namespace Go.Proofs.YtgndolgihplngaaGreatDoor
open Go.RowKit Go.ChangeShapes Go.WideShapes
theorem HeldE.ownedInts {B : Nat} {w : World} {n : Nat} {v : Value} {ty : TypeId} {xs : List Int} (h : w.ownsRow B ty 1 v n (xs.map (Value.int .i32))) : HeldE (intE .i32) (fun b => B ≤ b) w v xs := (ownE_ints (Z := fun b => B ≤ b) h).held fun _ hb _ => hb
/-- What a copy of a cell leaves. -/
def CloneOk (w : World) (K : Int) (T : List Int) (e : Ending) (w' : World) : Prop := ∃ tv', e = .returned (.agg #[.int .i64 K, tv']) ∧ HeldE (intE .i32) (fun b => w.heap.size ≤ b) w' tv' T ∧ Below w.heap.size w w'
def CloneOwn (w : World) (K : Int) (T : List Int) (e : Ending) (w' : World) : Prop := ∃ tv', e = .returned (.agg #[.int .i64 K, tv']) ∧ OwnE (intE .i32) (fun _ => True) w' w.heap.size 21 tv' T ∧ Below w.heap.size w w'
theorem OwnE.heldInts {B : Nat} {w : World} {Z : Zone} {v : Value} {ty : TypeId} {xs : List Int} (h : OwnE (intE .i32) Z w B ty v xs) : HeldE (intE .i32) (fun b => B ≤ b) w v xs := HeldE.ownedInts h.ints
theorem OwnE.anyInts {B : Nat} {w : World} {Z Y : Zone} {v : Value} {ty : TypeId} {xs : List Int} (h : OwnE (intE .i32) Z w B ty v xs) : OwnE (intE .i32) Y w B ty v xs := ownE_ints h.ints
set_option maxRecDepth 100000 in
set_option maxHeartbeats 800000 in
theorem clonec_own (K : Int) (tv : Value) (T : List Int) (w : World) (ht : Held .i32 w tv T) (hl : T.length ≤ 1000000000) : Calls Tryz.prog 78 #[.agg #[.int .i64 K, tv]] w (CloneOwn w K T) := by
  have HT := Lib.hid ht
  obtain ⟨ao, cap, rfl, _⟩ := ht.view
  clear ht
  obtain ⟨w2, hw2⟩ : ∃ w2, w2 = (w.alloc (.cells #[.int .i64 K, .slice ao T.length cap] 82)).alloc (.cells #[.int .i64 0, .slice none 0 0] 82) := ⟨_, rfl⟩
  have hb2 : Below w.heap.size w w2 := by rw [hw2]; exact ((Below.refl _ _).alloc (Nat.le_refl _) _).alloc (by simp) _
  have hs2 : w2.heap.size = w.heap.size + 2 := by rw [hw2]; simp
  have hg : Has w2 w.heap.size [.int .i64 K, .slice ao T.length cap] 82 := by rw [hw2]; exact (Has.new w _ _).alloc _
  have hr : Has w2 (w.heap.size + 1) [.int .i64 0, .slice none 0 0] 82 := by
    rw [hw2]
    have := Has.new (w.alloc (.cells #[.int .i64 K, .slice ao T.length cap] 82)) [.int .i64 0, .slice none 0 0] 82
    rw [World.size_alloc] at this
    exact this
  have HB2 := Lib.hid hb2
  have HS2 := Lib.hid hs2
  have HG := Lib.hid hg
  have HRR := Lib.hid hr
  have HC := Lib.hid (rclone_any _ T w2 (HT.out.below hb2) hl)
  rw [hw2] at HC
  have HW2 := Lib.hid hw2
  clear hw2 hb2 hs2 hg hr
  go_enter Tryz.func78, Tryz.ntmps78
  go_wp2_with fail
  refine HC.out.mono ?_
  rintro e w3 ⟨v5, rfl, ho5, b5⟩
  rw [← HW2.out] at ho5 b5
  have hs3 : w.heap.size + 2 ≤ w3.heap.size := by rw [← HS2.out]; exact b5.size
  have g3 := HG.out.below b5 HG.out.lt
  have r3 := HRR.out.below b5 HRR.out.lt
  have c0 := g3.cell 0 _ rfl
  have c1 := g3.cell 1 _ rfl
  have f0 := g3.free 0
  have f1 := g3.free 1
  have d0 := r3.cell 0 _ rfl
  have d1 := r3.cell 1 _ rfl
  have e0 := r3.free 0
  have e1 := r3.free 1
  have HO := Lib.hid (ownE_ints (Z := fun _ => False) ho5)
  have HH := Lib.hid (HeldE.ownedInts ho5)
  have HB5 := Lib.hid (HB2.out.trans (b5.mono HB2.out.size))
  have HSZ := Lib.hid hs3
  obtain ⟨a5, c5, e5⟩ := HH.out.len
  clear ho5 b5 g3 r3 hs3
  subst e5
  go_wp2
  refine bodyPost_ret (v := .agg #[.int .i64 K, .slice a5 T.length c5]) (by simp [results, Tryz.results78, go_sem, c0, c1, f0, f1, d0, d1, e0, e1]) rfl ⟨_, rfl, ?_, ?_⟩
  · exact OwnE.anyInts (OwnE.base (OwnE.upd HO.out (((((Upd.refl (fun b => b < w.heap.size + 2) w3).setCell (.inl (by simp)) _).setCell (.inl (by simp)) _).setCell (.inl (by simp)) _)) (fun b h k => by
      rcases h with h | h
      · exact h
      · have := (HO.out.lt b h).1
        rw [HS2.out] at this
        omega)) (by rw [HS2.out]; omega))
  · exact (((HB5.out.setCell (by simp) _).setCell (by simp) _).setCell (by simp) _)
theorem clonec_any (K : Int) (tv : Value) (T : List Int) (w : World) (ht : Held .i32 w tv T) (hl : T.length ≤ 1000000000) : Calls Tryz.prog 78 #[.agg #[.int .i64 K, tv]] w (CloneOk w K T) :=
  (clonec_own K tv T w ht hl).mono fun _ _ ⟨v, e, h, b⟩ => ⟨v, e, h.heldInts, b⟩
end Go.Proofs.YtgndolgihplngaaGreatDoor
/- clone.Cells. -/
namespace Go.Proofs.YtgndolgihplngaaGreatDoor
open Go.RowKit Go.ChangeShapes Go.WideShapes
theorem OwnE.some {α : Type} {E : Elem α} {Z : Zone} {w : World} {B : Nat} {ty : TypeId} {v : Value} {L : List α} (h : OwnE E Z w B ty v L) (hl : 0 < L.length) : ∃ g cap, v = .slice (some ⟨g, 0, none⟩) L.length cap ∧ B ≤ g ∧ g < w.heap.size := by
  obtain ⟨CS, h1, _⟩ := h
  rcases h1.2 with ⟨rfl, h0⟩ | ⟨g, cap, cur, rfl, hB, hg, _⟩
  · omega
  · exact ⟨g, cap, rfl, hB, (Array.getElem?_eq_some_iff.1 hg).1⟩
theorem OwnE.zone {α : Type} {E : Elem α} {Z Y : Zone} {w : World} {B : Nat} {ty : TypeId} {v : Value} {L : List α} (h : OwnE E Z w B ty v L) (hy : ∀ b, b < w.heap.size → Z b → Y b) : OwnE E Y w B ty v L := h.keep (.refl _ _) hy
set_option maxRecDepth 100000 in
theorem scclone_any (v : Value) (L : List Cl) (w : World) (hv : HeldE cellE (fun b => b < w.heap.size) w v L) (hl : L.length ≤ 1000000) : Calls Tryz.prog 77 #[v] w (MadeE cellE (fun b => b < w.heap.size) 82 w L) := by
  obtain ⟨ao, cap, rfl⟩ := hv.len
  cases ao with
  | none =>
    obtain ⟨rfl, _, rfl⟩ := hv.nilL
    clear hv
    have q := fun w => run_eql_slice_nil (P := Tryz.prog) w 51 82 none 0 0 Tryz.underlying51
    go_enter Tryz.func77, Tryz.ntmps77
    go_wp2
    go_ret
    exact ⟨_, rfl, OwnE.nil _ _ _ _ _, Below.refl _ _⟩
  | some a =>
    have hb := (Below.refl w.heap.size w).alloc (Nat.le_refl _) (.cells #[] 82)
    have HE := Lib.hid (OwnE.fresh0 (E := cellE) (Z := fun b => b < w.heap.size) w 82 (Nat.le_refl w.heap.size))
    have hlo := HE.out.lt
    have HU := Lib.hid (show HeldE cellE (fun b => b < w.heap.size ∧ _ ≠ some b) _ _ L from (hv.below hb).zone (fun b _ hz => ⟨hz, fun e => by have := (hlo b e).1; omega⟩))
    have HB := Lib.hid hb
    clear hv hb hlo
    have q := fun w => run_eql_slice_nil (P := Tryz.prog) w 51 82 (some a) L.length cap Tryz.underlying51
    go_enter Tryz.func77, Tryz.ntmps77
    go_wp2_with (at_builtin; refine wpList_append_e (E := cellE) (Z := fun b => b < w.heap.size) rfl (.tmp 5) (.tmp 6) 51 rfl (.agg #[.int .i64 0, .slice none 0 0]) 32 Tryz.underlying51 info_cell rfl (by decide) rfl rfl HE.out HU.out (by simp; omega) (by simp; omega) HB.out.size ?_)
    intro v2 w2 ho2 hb2 _ _
    have H2 := Lib.hid ho2
    have B2 := Lib.hid (HB.out.trans hb2)
    clear ho2 hb2
    go_wp2
    go_ret
    exact ⟨_, rfl, by simpa using H2.out, B2.out⟩
theorem set_same {α : Type} (l : List α) (d : α) (k : Nat) (h : k < l.length) : l.set k (l.getD k d) = l := by
  apply List.ext_getElem?
  intro i
  by_cases e : i = k
  · subst e
    rw [List.getElem?_set_self h]
    simp [List.getD, List.getElem?_eq_getElem h]
  · rw [List.getElem?_set_ne (Ne.symm e)]
set_option maxRecDepth 100000 in
set_option maxHeartbeats 1600000 in
theorem clonecs_any (Z : Zone) (v : Value) (L : List Cl) (w : World) (hv : HeldE cellE Z w v L) (hl : L.length ≤ 1000000) (ht : ∀ k, k < L.length → (L.getD k zc).2.length ≤ 1000000000) :
    Calls Tryz.prog 49 #[v] w (MadeE cellE (fun b => w.heap.size ≤ b) 82 w L) := by
  have HC := Lib.hid (scclone_any v L w hv.lower hl)
  have HT := Lib.hid ht
  obtain ⟨ao, cap, rfl⟩ := hv.len
  clear hv ht
  by_cases h0 : L.length = 0
  · obtain rfl : L = [] := List.eq_nil_of_length_eq_zero h0
    clear h0 hl
    go_enter Tryz.func49, Tryz.ntmps49
    go_wp2_with fail
    refine HC.out.mono ?_
    rintro e w1 ⟨v1, rfl, ho1, b1⟩
    obtain ⟨a1, c1, rfl⟩ := ((ho1.zone (Y := fun _ => True) (fun _ _ _ => trivial)).held (fun _ _ _ => trivial)).len
    have HO := Lib.hid (OwnI.all (Z := fun b => w.heap.size ≤ b) ho1.each (fun i b hi => absurd hi (Nat.not_lt_zero _)))
    have HB := Lib.hid b1
    clear ho1 b1
    simp only [List.length_nil]
    go_wp2
    go_loopw [9] (fun i wr => i = .int .i64 0 ∧ wr = w1) (fun i _ => 0)
    case atStart => exact ⟨rfl, (by first | rfl | trivial)⟩
    case round =>
      obtain ⟨rfl, hww⟩ := hrel
      subst hww
      go_wp2
      go_ret
      exact ⟨_, rfl, HO.out, HB.out⟩
  · have hpos : 0 < L.length := by omega
    clear h0
    go_enter Tryz.func49, Tryz.ntmps49
    go_wp2_with fail
    refine HC.out.mono ?_
    rintro e w1 ⟨v1, rfl, ho1, b1⟩
    obtain ⟨g, c1, rfl, hg1, hg2⟩ := ho1.some hpos
    have HO1 := Lib.hid ho1
    have HB1 := Lib.hid b1
    clear ho1 b1 HC
    go_wp2
    go_loopw [9] (fun i wr => ∃ k : Nat, k ≤ L.length ∧ i = .int .i64 k ∧ OwnI cellE (fun j => if j < k then (fun b => w.heap.size ≤ b) else (fun b => b < w.heap.size)) wr w.heap.size 82 (.slice (some ⟨g, 0, none⟩) L.length c1) L ∧ Below w.heap.size w wr) (fun i _ => L.length - (intOf i).toNat)
    case atStart => exact ⟨0, Nat.zero_le _, rfl, HO1.out.each.keep (.refl _ _) (fun i b _ _ h => h), HB1.out⟩
    case round =>
      obtain ⟨k, hk, rfl, hown, hbw⟩ := hrel
      have HBW := Lib.hid hbw
      clear hbw
      by_cases hlt : k < L.length
      · have htl := HT.out k hlt
        have hs := set_same L zc k hlt
        obtain ⟨C, hC, hr⟩ := hown.at hlt
        obtain ⟨tv, rfl, hh⟩ := cell_rep.1 hr
        have hh : HeldE (intE .i32) _ wr tv (L.getD k zc).2 := hh
        have q0 : wr.cell? ⟨g, k * 2, none⟩ = some (.int .i64 (L.getD k zc).1) := (hC 0 (by decide)).1
        have q1 : wr.cell? ⟨g, k * 2 + 1, none⟩ = some tv := (hC 1 (by decide)).1
        have hglt : g < wr.heap.size := (hown.lt g rfl).2
        obtain ⟨⟨K, T⟩, hKT⟩ : ∃ y, y = L.getD k zc := ⟨_, rfl⟩
        rw [← hKT] at q0 hh hs htl
        simp only at q0 hh htl
        have HH := Lib.hid hh.ints
        have HS := Lib.hid hs
        have HOW := Lib.hid hown
        clear hown hC hr hKT hh hs
        obtain ⟨tz9, tc, rfl, _⟩ := HH.out.view
        have hb1 := (Below.refl wr.heap.size wr).alloc (Nat.le_refl _) (.cells #[.int .i64 K, .slice tz9 T.length tc] 82)
        have HCL := Lib.hid (clonec_any K _ T _ (HH.out.below hb1) htl)
        have HBX := Lib.hid hb1
        clear hb1
        go_wp2_with fail
        refine HCL.out.mono ?_
        rintro e w3 ⟨v3, rfl, hh3, b3⟩
        have hb4 : Below wr.heap.size wr w3 := HBX.out.trans (b3.mono HBX.out.size)
        have HO3 := Lib.hid (HOW.out.below hb4)
        have HB3 := Lib.hid (HBW.out.trans (hb4.mono HBW.out.size))
        have HH3 := Lib.hid (show cellE.rep (fun b => w.heap.size ≤ b ∧ b ≠ g) w3 [.int .i64 K, v3] (K, T) from cell_rep.2 ⟨_, rfl, hh3.zone (fun b _ h => by have := HBW.out.size; simp only [World.size_alloc] at h; exact ⟨by omega, by omega⟩)⟩)
        obtain ⟨a3, c3, rfl⟩ := hh3.len
        clear hh3 b3 hb4 q0 q1
        go_wp2_with (refine wpList_put_e (E := cellE) (Y := fun b => w.heap.size ≤ b) (i := k) rfl 82 (.tmp 18) (.tmp 17) rfl rfl rfl [.int .i64 K, .slice a3 T.length c3] rfl (by kernel_rfl) HO3.out hlt (K, T) HH3.out ?_)
        intro w4 ho4 hu4
        rw [HS.out] at ho4
        have HO4 := Lib.hid (ho4.keep (Yi := fun j => if j < k + 1 then (fun b => w.heap.size ≤ b) else (fun b => b < w.heap.size)) (.refl _ _) (fun i b _ _ h => by
          by_cases e : i = k
          · subst e; simp at h; simpa using h
          · simp only [if_neg e] at h
            by_cases e2 : i < k
            · simp only [if_pos e2] at h; simp only [if_pos (show i < k + 1 by omega)]; exact h
            · simp only [if_neg e2] at h; simp only [if_neg (show ¬ i < k + 1 by omega)]; exact h))
        have HB4 := Lib.hid (HB3.out.upd hu4 HB3.out.size (fun x e => by omega))
        clear ho4 hu4
        go_wp2
        go_roundw
        case rel => exact ⟨k + 1, by omega, by go_num, HO4.out, HB4.out⟩
        case measure => simp [intOf] <;> omega
      · obtain rfl : k = L.length := by omega
        have HO := Lib.hid (OwnI.all (Z := fun b => w.heap.size ≤ b) hown (fun i b hi _ h => by simpa [hi] using h))
        clear hown
        go_wp2
        go_ret
        exact ⟨_, rfl, HO.out, HBW.out⟩
end Go.Proofs.YtgndolgihplngaaGreatDoor
/- Contracts of cursor.Right, Move, After and of the reference's. -/
namespace Go.Proofs.YtgndolgihplngaaGreatDoor
open Go.RowKit Go.ChangeShapes Go.WideShapes
end Go.Proofs.YtgndolgihplngaaGreatDoor
/- errors.As at a target of type **api.Fault, and api.At, api.Within: by Go's own text of errors.As, walked (after the worked toy 'toyas'). -/
namespace Go.Proofs.YtgndolgihplngaaGreatDoor.F
open Go.RowKit Go.Extern.Stop Go.Stop Go.Extern

end Go.Proofs.YtgndolgihplngaaGreatDoor.F
/- api.At and api.Within: the places of an error's faults. -/
namespace Go.Proofs.YtgndolgihplngaaGreatDoor.F
open Go.RowKit

end Go.Proofs.YtgndolgihplngaaGreatDoor.F
/- From what a row lists to where it lies. -/
namespace Go.Proofs.YtgndolgihplngaaGreatDoor.F
open Go.RowKit Go.ChangeShapes

def sentD (t : List UInt8) : DataW Unit := .iface "*errors.errorString" (.ptr (.agg [.lit (.string t)]))

theorem laidVars_sents {P : Program} {W : World} {ti tp te ts : TypeId} {ms : Array (String × TypeId)} {f : Field}
    (hi : P.underlying ti = some (.interface ms)) (hrow : ∀ u, P.typeName? 3 u = some "*errors.errorString" → u = tp)
    (hp : P.underlying tp = some (.pointer te)) (he : P.underlying te = some (.struct #[f])) (hft : f.type = ts) (hfo : f.offset = 0) (hs : P.underlying ts = some .string) (hc : P.cellsOf te = 1) (hcs : P.cellsOf ts = 1) :
    ∀ (l : List (String × List UInt8 × Nat)) (ps : List MemPlace), (∀ x ∈ l, P.globalNamed x.1 = some x.2.2 ∧ (P.globals[x.2.2]?).map (·.type) = some ti) →
      DataW.LaidVars P W (l.map fun x => (x.1, sentD x.2.1)) ps →
      (∀ b off, MemPlace.cell b off ∈ ps → (∃ c t, W.heap[b]? = some (.cells c t (0, 0))) ∧ ∀ u v, W.cell? ⟨b, off, none⟩ = some (.iface u v) → Value.okWide P W .any 0 u v) → ps.Nodup →
      ∃ ads : List Addr, ads.length = l.length ∧ (∀ k, k < l.length → W.cell? ⟨(l.getD k ("", [], 0)).2.2, 0, none⟩ = some (.iface tp (.pointer (some (ads.getD k default))))) ∧
        (∀ a ∈ ads, MemPlace.cell a.block a.off ∈ ps ∧ ∃ c t, W.heap[a.block]? = some (.cells c t (0, 0))) ∧ ads.Nodup := by
  intro l
  induction l with
  | nil => intro ps _ _ _ _; exact ⟨[], rfl, fun k hk => by simp at hk, fun a ha => by simp at ha, List.nodup_nil⟩
  | cons x l ih =>
    intro ps hgs h hrows hnd
    obtain ⟨n, tx, g⟩ := x
    obtain ⟨g', t', cs, fuel, p, q, hg', ht', hv, hd, hq, rfl⟩ := h
    obtain ⟨hg, ht⟩ := hgs (n, tx, g) (by simp)
    obtain rfl := Option.some.inj (hg.symm.trans hg')
    obtain rfl := Option.some.inj (ht.symm.trans ht')
    obtain ⟨l0⟩ := cs
    have ok0 : ∀ u v, l0 = [.iface u v] → Value.okWide P W .any 0 u v := fun u v e => by
      subst e
      exact (hrows g 0 (by simp [MemPlace.row])).2 u v (by simpa using World.var?_cell hg' hv 0)
    obtain ⟨a0, s0, rfl, hc0, hs0, hz0, rfl⟩ := errorString_of_trod hi hrow hp he hft hfo hs hc hcs hd ok0
    have hin : MemPlace.cell a0.block a0.off ∈ MemPlace.row a0 1 := by simp [MemPlace.row]
    obtain ⟨c0, t0, hb0⟩ := (hrows a0.block a0.off (List.mem_append_left _ (List.mem_append_right _ hin))).1
    obtain ⟨ads, h1, h2, h3, h4⟩ := ih q (fun y hy => hgs y (by simp [hy])) hq (fun b off hm => hrows b off (List.mem_append_right _ hm)) (List.Nodup.sublist (List.sublist_append_right _ _) hnd)
    refine ⟨a0 :: ads, by simp [h1], ?_, ?_, ?_⟩
    · intro k hk
      cases k with
      | zero => simpa using World.var?_cell hg' hv 0
      | succ k => simpa using h2 k (by simpa using hk)
    · intro a ha
      rcases List.mem_cons.1 ha with rfl | ha
      · exact ⟨List.mem_append_left _ (List.mem_append_right _ hin), c0, t0, hb0⟩
      · exact ⟨List.mem_append_right _ (h3 a ha).1, (h3 a ha).2⟩
    · refine List.nodup_cons.2 ⟨fun ha => ?_, h4⟩
      have hm := (h3 a0 ha).1
      have hd2 := (List.nodup_append.1 hnd).2.2
      exact hd2 _ (List.mem_append_right _ hin) _ hm rfl

def sentList : List (String × List UInt8 × Nat) := [("linotype/api.ErrScalar", [115, 99, 97, 108, 97, 114], 1), ("linotype/api.ErrForm", [102, 111, 114, 109], 2), ("linotype/api.ErrRange", [114, 97, 110, 103, 101], 0),
  ("linotype/api.ErrLong", [108, 111, 110, 103], 3), ("linotype/api.ErrKind", [107, 105, 110, 100], 4), ("linotype/api.ErrWord", [119, 111, 114, 100], 5), ("linotype/api.ErrFull", [102, 117, 108, 108], 6), ("linotype/api.ErrNone", [110, 111, 110, 101], 7)]
theorem esRow : ∀ u, Tryz.prog.typeName? 3 u = some "*errors.errorString" → u = 151 := typeName_ptr_named (nm := "errors.errorString") (by kernel_rfl) (by kernel_rfl) (by decide)
theorem sents_of_laid {W : World} (h : laidMet Tryz.prog (sentList.map fun x => (x.1, sentD x.2.1)) W) : ∃ sa, Sents W sa := by
  obtain ⟨ps, hv, hnd, hrows⟩ := h
  obtain ⟨ads, h1, h2, h3, h4⟩ := laidVars_sents Tryz.underlying33 esRow Tryz.underlying151 Tryz.underlying176 rfl rfl Tryz.underlying9 (by kernel_rfl) (by kernel_rfl) sentList ps
    (by intro x hx; simp only [sentList, List.mem_cons, List.not_mem_nil, or_false] at hx; rcases hx with rfl | rfl | rfl | rfl | rfl | rfl | rfl | rfl <;> exact ⟨by kernel_rfl, by kernel_rfl⟩) hv hrows hnd
  have hl : ads.length = 8 := h1
  refine ⟨fun k => ads.getD k default, ⟨?_, ?_, ?_⟩⟩
  · intro k hk
    have := h2 k hk
    rw [show glob k = (sentList.getD k ("", [], 0)).2.2 from by
      match k, hk with
      | 0, _ | 1, _ | 2, _ | 3, _ | 4, _ | 5, _ | 6, _ | 7, _ => rfl]
    exact this
  · intro k hk
    exact (h3 _ (by simp [List.getD, List.getElem?_eq_getElem (show k < ads.length by omega)])).2
  · intro i j hi hj hne he
    refine hne ?_
    have e1 : ads.getD i default = ads[i]'(by omega) := by simp [List.getD, List.getElem?_eq_getElem (show i < ads.length by omega)]
    have e2 : ads.getD j default = ads[j]'(by omega) := by simp [List.getD, List.getElem?_eq_getElem (show j < ads.length by omega)]
    rw [e1, e2] at he
    exact (List.getElem_inj h4).1 he
end Go.Proofs.YtgndolgihplngaaGreatDoor.F
/- The eight errors' places, as the texts of faults (F) and those without them say it. -/
namespace Go.Proofs.YtgndolgihplngaaGreatDoor
open Go.RowKit Go.ChangeShapes Go.WideShapes
end Go.Proofs.YtgndolgihplngaaGreatDoor
/- Rows: what one is in memory; New, Wide, Cell, Cells, Wrap, GoOn, Copy. -/
namespace Go.Proofs.YtgndolgihplngaaGreatDoor
open Go.RowKit Go.ChangeShapes Go.WideShapes
/-- The row at block g, its cells at block gc; what its cells lead to lies in the zone. -/
def RowAt (Z : Zone) (w : World) (B g gc : Nat) (L : List Cl) (wrap : Bool) : Prop :=
  ∃ cap, Has w g [.slice (some ⟨gc, 0, none⟩) L.length cap, .bool wrap] 91 ∧ B ≤ g ∧ gc ≠ g ∧ OwnE cellE (fun b => Z b ∧ b ≠ g) w B 82 (.slice (some ⟨gc, 0, none⟩) L.length cap) L ∧ 0 < L.length ∧ L.length ≤ 1024 ∧ soundB L = true
section
variable {Z Y S : Zone} {w w' : World} {B g gc : Nat} {L : List Cl} {wrap : Bool}
theorem RowAt.lt (h : RowAt Z w B g gc L wrap) : g < w.heap.size ∧ gc < w.heap.size ∧ B ≤ gc ∧ B ≤ g := by
  obtain ⟨cap, h1, h2, h3, h4, h5, _⟩ := h
  exact ⟨h1.lt, (h4.lt gc rfl).2, (h4.lt gc rfl).1, h2⟩
theorem RowAt.keep (h : RowAt Z w B g gc L wrap) (hk : KeepZ (fun b => Z b ∨ b = g ∨ b = gc) w w') (hy : ∀ b, b < w.heap.size → Z b → Y b) : RowAt Y w' B g gc L wrap := by
  obtain ⟨cap, h1, h2, h3, h4, h5⟩ := h
  refine ⟨cap, hk.has h1 (.inr (.inl rfl)), h2, h3, h4.keep (hk.mono fun b _ hz => ?_) (fun b hb hz => ⟨hy b hb hz.1, hz.2⟩), h5⟩
  rcases hz with hz | hz
  · exact .inl hz.1
  · exact .inr (.inr (by simpa [Value.ownBlock] using hz.symm))
theorem RowAt.below (h : RowAt Z w B g gc L wrap) (hb : Below w.heap.size w w') : RowAt Z w' B g gc L wrap := h.keep (.all hb _) fun _ _ h => h
theorem RowAt.upd (h : RowAt Z w B g gc L wrap) (hu : Upd S w w') (hz : ∀ b, Z b → ¬ S b) (hg : ¬ S g) (hgc : ¬ S gc) : RowAt Z w' B g gc L wrap :=
  h.keep (hu.keep.mono fun b _ hb => by rcases hb with hb | rfl | rfl; exact hz b hb; exact hg; exact hgc) fun _ _ h => h
theorem RowAt.base (h : RowAt Z w B g gc L wrap) {B' : Nat} (hb : B' ≤ B) : RowAt Z w B' g gc L wrap := by
  obtain ⟨cap, h1, h2, h3, h4, h5⟩ := h
  exact ⟨cap, h1, by omega, h3, h4.base hb, h5⟩
theorem RowAt.len (h : RowAt Z w B g gc L wrap) : 0 < L.length ∧ L.length ≤ 1024 ∧ soundB L = true := by
  obtain ⟨cap, _, _, _, _, h5⟩ := h
  exact h5
theorem RowAt.held (h : RowAt Z w B g gc L wrap) : ∃ cap, Has w g [.slice (some ⟨gc, 0, none⟩) L.length cap, .bool wrap] 91 ∧ HeldE cellE (fun b => True) w (.slice (some ⟨gc, 0, none⟩) L.length cap) L := by
  obtain ⟨cap, h1, h2, h3, h4, h5⟩ := h
  exact ⟨cap, h1, (h4.zone (Y := fun _ => True) (fun _ _ _ => trivial)).held fun _ _ _ => trivial⟩
end
theorem sound_right {L : List Cl} (h : soundB L = true) : ∀ k, k < L.length → rightB (L.getD k zc) = true := by
  intro k hk
  rw [sound_iff] at h
  have := okTo_at hk h
  unfold okAt at this
  simp only [Bool.and_eq_true] at this
  exact this.1.1
theorem right_short {c : Cl} (h : rightB c = true) : c.2.length ≤ 16 := by
  obtain ⟨k, t⟩ := c
  unfold rightB at h
  split at h
  · simp at h; simp [h]
  · simp only [Bool.and_eq_true, decide_eq_true_eq] at h
    exact h.1.2
theorem sound_short {L : List Cl} (h : soundB L = true) : ∀ k, k < L.length → (L.getD k zc).2.length ≤ 1000000000 := fun k hk => by have := right_short (sound_right h k hk); omega
/-- What hands back a new row. -/
def RowMade (Z : Zone) (w : World) (L : List Cl) (wrap : Bool) (e : Ending) (w' : World) : Prop := ∃ g gc, e = .returned (.pointer (some ⟨g, 0, none⟩)) ∧ RowAt Z w' w.heap.size g gc L wrap ∧ Below w.heap.size w w'
/-- A row laid behind its cells. -/
theorem row_new {Z : Zone} {w : World} {B : Nat} {v : Value} {L : List Cl} {wrap : Bool} (h : OwnE cellE Z w B 82 v L) (hB : B ≤ w.heap.size) (h0 : 0 < L.length) (h1 : L.length ≤ 1024) (hs : soundB L = true) : ∃ gc, RowAt Z (w.alloc (.cells #[v, .bool wrap] 91)) B w.heap.size gc L wrap := by
  obtain ⟨gc, cap, rfl, hg1, hg2⟩ := h.some h0
  refine ⟨gc, cap, Has.new w _ _, hB, by omega, (h.keep (Y := fun b => Z b ∧ b ≠ w.heap.size) (.all ((Below.refl _ _).alloc (Nat.le_refl _) _) _) (fun b hb hz => ⟨hz, by omega⟩)), h0, h1, hs⟩
theorem blank_sound (m : Nat) : soundB (List.replicate m zc) = true := by
  unfold soundB
  induction m with
  | zero => rfl
  | succ m ih => rw [List.replicate_succ]; show (true && true && soundF false _) = true; rw [ih]; rfl
def rowN (n : Int) : Nat := (min (max n 1) 1024).toNat
theorem blankN_row (n : Int) : blankN (max n 1) = rowN n ∧ 0 < rowN n ∧ rowN n ≤ 1024 ∧ max 1 (min n 1024) = (rowN n : Int) := by unfold blankN rowN; omega
set_option maxRecDepth 100000 in
theorem rnew_any (Z : Zone) (n : Int) (w : World) : Calls Tryz.prog 70 #[.int .i64 n] w (RowMade Z w (List.replicate (rowN n) zc) false) := by
  have HB := Lib.hid (blanks_any Z (max n 1) w)
  obtain ⟨h1, h2, h3, _⟩ := blankN_row n
  rw [h1] at HB
  clear h1
  go_enter Tryz.func70, Tryz.ntmps70
  go_wp2_with fail
  refine HB.out.mono ?_
  rintro e w1 ⟨v1, rfl, ho1, b1⟩
  obtain ⟨gc0, cap0, rfl, _, _⟩ := ho1.some (by simp; omega)
  obtain ⟨gc, hr⟩ := row_new (wrap := false) ho1 b1.size (by simp; omega) (by simp; omega) (blank_sound _)
  rw [List.length_replicate] at hr ⊢
  have HR := Lib.hid hr
  have HB1 := Lib.hid b1
  clear ho1 b1 hr
  go_wp2
  go_ret
  exact ⟨_, gc, rfl, HR.out, HB1.out.alloc HB1.out.size _⟩
theorem rwide_any (Z : Zone) (B g gc : Nat) (L : List Cl) (wrap : Bool) (w : World) (h : RowAt Z w B g gc L wrap) : Calls Tryz.prog 19 #[.pointer (some ⟨g, 0, none⟩)] w fun e w' => e = .returned (.int .i64 L.length) ∧ w = w' := by
  obtain ⟨cap, h1, _⟩ := h.held
  have c0 := h1.cell 0 _ rfl
  clear h h1
  go_enter Tryz.func19, Tryz.ntmps19
  go_wp2
  go_ret
  exact ⟨rfl, rfl⟩
theorem rwrap_any (Z : Zone) (B g gc : Nat) (L : List Cl) (wrap : Bool) (w : World) (h : RowAt Z w B g gc L wrap) : Calls Tryz.prog 67 #[.pointer (some ⟨g, 0, none⟩)] w fun e w' => e = .returned (.bool wrap) ∧ w = w' := by
  obtain ⟨cap, h1, _⟩ := h.held
  have c1 := h1.cell 1 _ rfl
  clear h h1
  go_enter Tryz.func67, Tryz.ntmps67
  go_wp2
  go_ret
  exact ⟨rfl, rfl⟩
set_option maxRecDepth 100000 in
theorem rcells_any (Z : Zone) (B g gc : Nat) (L : List Cl) (wrap : Bool) (w : World) (h : RowAt Z w B g gc L wrap) : Calls Tryz.prog 66 #[.pointer (some ⟨g, 0, none⟩)] w (MadeE cellE (fun b => w.heap.size ≤ b) 82 w L) := by
  obtain ⟨_, hl, hs⟩ := h.len
  obtain ⟨cap, h1, h2⟩ := h.held
  have HC := Lib.hid (clonecs_any _ _ L w h2 (by omega) (sound_short hs))
  have c0 := h1.cell 0 _ rfl
  clear h h1 h2 hs
  go_enter Tryz.func66, Tryz.ntmps66
  go_wp2_with fail
  refine HC.out.mono ?_
  rintro e w1 ⟨v1, rfl, ho1, b1⟩
  go_wp2
  go_ret
  exact ⟨_, rfl, ho1, b1⟩
theorem rgoon_nil (b : Bool) (w : World) : Calls Tryz.prog 20 #[.pointer none, .bool b] w fun e w' => e = .returned (.tuple #[]) ∧ w = w' := by
  go_enter Tryz.func20, Tryz.ntmps20
  go_wp2
  exact bodyPost_end (by kernel_rfl) rfl ⟨rfl, rfl⟩
def RowTurned (Z : Zone) (w : World) (B g gc : Nat) (L : List Cl) (wrap : Bool) (e : Ending) (w' : World) : Prop := e = .returned (.tuple #[]) ∧ RowAt Z w' B g gc L wrap ∧ Upd (fun b => b = g ∨ b = gc) w w'
theorem rgoon_any (Z : Zone) (B g gc : Nat) (L : List Cl) (wrap b : Bool) (w : World) (h : RowAt Z w B g gc L wrap) : Calls Tryz.prog 20 #[.pointer (some ⟨g, 0, none⟩), .bool b] w (RowTurned Z w B g gc L b) := by
  obtain ⟨cap, h1, h2, h3, h4, h5⟩ := h
  have hu := (Upd.refl (fun b => b = g) w).setCell (p := ⟨g, 1, none⟩) (.inl rfl) (.bool b)
  have hp : RowTurned Z w B g gc L b (.returned (.tuple #[])) (w.setCell ⟨g, 1, none⟩ (.bool b)) := by
    refine ⟨rfl, ⟨cap, ?_, h2, h3, h4.upd hu (fun b hb => ?_), h5⟩, hu.mono fun b _ h => .inl h⟩
    · have := h1.set 1 (.bool b)
      simpa using this
    · rcases hb with hb | hb
      · exact hb.2
      · have : gc = b := by simpa [Value.ownBlock] using hb
        subst this; exact h3
  have HP := Lib.hid hp
  have c1 := h1.cell 1 _ rfl
  have f1 := h1.free 1
  clear h1 h2 h3 h4 h5 hu hp
  go_enter Tryz.func20, Tryz.ntmps20
  go_wp2
  exact bodyPost_end (by kernel_rfl) rfl HP.out
end Go.Proofs.YtgndolgihplngaaGreatDoor
/- Row.Copy, row.Of. -/
namespace Go.Proofs.YtgndolgihplngaaGreatDoor
open Go.RowKit Go.ChangeShapes Go.WideShapes
section
variable (sa : Nat → Addr) (Y : Zone) (L : List Cl) (v : Value) (w : World)
def RowOf (e : Ending) (w' : World) : Prop := ∃ g gc, e = .returned (.tuple #[.pointer (some ⟨g, 0, none⟩), .nilIface]) ∧ RowAt (fun b => w.heap.size ≤ b) w' w.heap.size g gc L false ∧ Below w.heap.size w w'
set_option maxRecDepth 100000 in
theorem rof_ok (hv : HeldE cellE Y w v L) (h0 : 0 < L.length) (h1 : L.length ≤ 1024) (hsd : soundB L = true) : Calls Tryz.prog 17 #[v] w (RowOf L w) := by
  have HSD := Lib.hid (sound_any _ _ _ _ hv)
  rw [hsd] at HSD
  have HV := Lib.hid hv
  have HSS := Lib.hid hsd
  obtain ⟨ao, pc, rfl⟩ := hv.len
  clear hv hsd
  have hz : ((L.length : Int) == 0) = false := by rw [beq_eq_false_iff_ne]; omega
  go_enter Tryz.func17, Tryz.ntmps17
  go_wp2_with fail
  refine HSD.out.mono ?_
  rintro e w2 ⟨rfl, b2⟩
  have B2 := Lib.hid b2
  clear b2
  go_wp2_with fail
  refine (clonecs_any _ _ L w2 (HV.out.below B2.out) (by omega) (sound_short HSS.out)).mono ?_
  rintro e w3 ⟨v3, rfl, ho3, b3⟩
  have B3 := Lib.hid (B2.out.trans (b3.mono B2.out.size))
  have ho3 := (ho3.base B2.out.size).zone (Y := fun b => w.heap.size ≤ b) (fun b _ k => Nat.le_trans B2.out.size k)
  obtain ⟨gc0, cap0, rfl, _, _⟩ := ho3.some h0
  obtain ⟨gc, hr⟩ := row_new (wrap := false) ho3 B3.out.size h0 h1 HSS.out
  have HR := Lib.hid hr
  clear ho3 b3 hr
  go_wp2
  go_ret2
  exact ⟨_, gc, rfl, HR.out, B3.out.alloc B3.out.size _⟩
end
end Go.Proofs.YtgndolgihplngaaGreatDoor
/- The library's Grow and Concat of cells. -/
namespace Go.Proofs.YtgndolgihplngaaGreatDoor
open Go.RowKit Go.ChangeShapes Go.WideShapes
set_option maxRecDepth 100000 in
theorem cgrow_none (Z : Zone) (N : Nat) (hN : N ≤ 1000000) (w : World) : Calls Tryz.prog 101 #[.slice none 0 0, .int .i64 N] w (MadeE cellE Z 82 w []) := by
  rcases Nat.eq_zero_or_pos N with rfl | hp
  · go_enter Tryz.func101, Tryz.ntmps101
    go_wp2
    go_ret
    exact ⟨_, rfl, OwnE.nil _ _ _ _ _, Below.refl _ _⟩
  · obtain ⟨i0, hi, hz0, hz1, hz2⟩ := info_parts info_cell
    obtain ⟨C, hC⟩ : ∃ C, C = grownCap w N 0 82 := ⟨_, rfl⟩
    have hr := Go.Lib.run_append_nil_zeros (P := Tryz.prog) w 51 3 51 82 i0 (.agg #[.int .i64 0, .slice none 0 0]) .i64 .i64 Tryz.underlying51 Tryz.underlying3 hi hz0 N hp (by rw [hz1]; decide) (by omega) (by rw [hz2]; omega)
    rw [← hC] at hr
    have hge : N ≤ C := by rw [hC]; exact grownCap_ge w N 0 82
    have hle : C ≤ maxLen := by rw [hC]; exact grownCap_le_maxLen w N 0 82 (by unfold maxLen; omega)
    have HLE := Lib.hid hle
    have HO := Lib.hid (show (w.drew.alloc (.cells (Builtin.zeroCells (Value.agg #[.int .i64 0, .slice none 0 0]).cells N ++ Builtin.zeroCells (Value.agg #[.int .i64 0, .slice none 0 0]).cells (C - N)) 82)).ownsRow w.heap.size 82 2 (.slice (some ⟨w.heap.size, 0, none⟩) 0 C) 0 [] from by
      refine ⟨rfl, .inr ⟨w.heap.size, _, _, rfl, Nat.le_refl _, heap_alloc_new w.drew _, Nat.zero_le _, hle, ?_, by simp⟩⟩
      simp [Builtin.zeroCells, Value.cells]
      omega)
    have HB := Lib.hid ((Below.refl w.heap.size w).drew.alloc (Nat.le_refl _) (.cells (Builtin.zeroCells (Value.agg #[.int .i64 0, .slice none 0 0]).cells N ++ Builtin.zeroCells (Value.agg #[.int .i64 0, .slice none 0 0]).cells (C - N)) 82))
    generalize (w.drew.alloc (.cells (Builtin.zeroCells (Value.agg #[.int .i64 0, .slice none 0 0]).cells N ++ Builtin.zeroCells (Value.agg #[.int .i64 0, .slice none 0 0]).cells (C - N)) 82)) = w1 at hr HO HB
    clear hC hi hz0 hz1 hz2 hle
    go_enter Tryz.func101, Tryz.ntmps101
    go_wp2_with (at_builtin; refine Go.Lib.wpList_append_run _ rfl (.tmp 20) (.tmp 21) _ _ rfl _ _ rfl rfl _ _ hr ?_)
    go_wp2
    go_ret
    exact ⟨_, rfl, OwnE.empty HO.out, HB.out⟩
def flatG {α : Type} (L : List (List α)) (k : Nat) : List α := (L.take k).flatten
theorem flatG_succ {α : Type} (L : List (List α)) (k : Nat) (h : k < L.length) : flatG L (k + 1) = flatG L k ++ L.getD k [] := by
  unfold flatG
  rw [List.take_succ_eq_append_getElem h, List.flatten_append]
  simp [List.getD, List.getElem?_eq_getElem h]
theorem flatG_le {α : Type} (L : List (List α)) : ∀ k, k ≤ L.length → (flatG L k).length ≤ (flatG L L.length).length := by
  have h : ∀ d k, k + d = L.length → (flatG L k).length ≤ (flatG L L.length).length := by
    intro d
    induction d with
    | zero => intro k e; have : k = L.length := by omega
              subst this; exact Nat.le_refl _
    | succ d ih =>
      intro k e
      have h1 := ih (k + 1) (by omega)
      rw [flatG_succ L k (by omega), List.length_append] at h1
      omega
  intro k hk
  exact h (L.length - k) k (by omega)
theorem flatG_all {α : Type} (L : List (List α)) : flatG L L.length = L.flatten := by unfold flatG; rw [List.take_length]
theorem slots_at {Z : Zone} {w : World} {ao : Option Addr} {n cap : Nat} {L : List (List Cl)} (h : HeldE cellsE Z w (.slice ao n cap) L) : n = L.length ∧ n ≤ cap ∧ ∀ i, i < L.length → ∃ b off u, ao = some ⟨b, off, none⟩ ∧ b < w.heap.size ∧ w.cell? ⟨b, off + i, none⟩ = some u ∧ HeldE cellE Z w u (L.getD i []) := by
  obtain ⟨h1, h2, h3⟩ := h.spots
  refine ⟨h1, h2, fun i hi => ?_⟩
  obtain ⟨b, off, rfl, hb, hz, C, hC, u, rfl, hr⟩ := h3 i hi
  have hc := hC 0 (by decide)
  rw [show off + i * cellsE.size + 0 = off + i from by show off + i * 1 + 0 = _; omega] at hc
  exact ⟨b, off, u, rfl, hb, hc, hr⟩
set_option maxRecDepth 100000 in
set_option maxHeartbeats 1000000 in
theorem cconcat_any (Z : Zone) (v : Value) (L : List (List Cl)) (w : World) (hh : HeldE cellsE Z w v L) (hl : L.length ≤ 1000000) (ht : L.flatten.length ≤ 1000000) : Calls Tryz.prog 91 #[v] w (MadeE cellE Z 82 w L.flatten) := by
  have hh := hh.zone (Y := fun b => Z b ∧ b < w.heap.size) (fun b hb hz => ⟨hz, hb⟩)
  obtain ⟨ao, cap, rfl⟩ := hh.len
  obtain ⟨_, _, hs⟩ := slots_at hh
  have HH := Lib.hid hs
  have HLE := Lib.hid (flatG_le L)
  have HFA := Lib.hid (flatG_all L)
  rw [← flatG_all L] at ht ⊢
  clear hh hs
  go_enter Tryz.func91, Tryz.ntmps91
  go_wp2
  go_loopw [3, 11] (fun sv iv wr => ∃ k s : Nat, k ≤ L.length ∧ iv = .int .i64 k ∧ sv = .int .i64 s ∧ Go.RowKit.Hid (s = (flatG L k).length) ∧ wr = w) (fun _ iv _ => L.length - (intOf iv).toNat)
  case atStart => exact ⟨0, 0, Nat.zero_le _, rfl, rfl, Lib.hid rfl, rfl⟩
  case round =>
    obtain ⟨k, s, hk, rfl, rfl, HS, rfl⟩ := hrel
    obtain ⟨wo, hwo⟩ : ∃ wo, wo = wr := ⟨_, rfl⟩
    subst hwo
    have hsl : s ≤ 1000000 := by have := HLE.out k hk; have := HS.out; omega
    by_cases hlt : k < L.length
    · obtain ⟨b, off, u, rfl, hb, c0, hu⟩ := HH.out k hlt
      have hfs := flatG_succ L k hlt
      have hle2 := HLE.out (k + 1) (by omega)
      obtain ⟨T, hT⟩ : ∃ T, T = L.getD k [] := ⟨_, rfl⟩
      rw [← hT] at hu hfs
      obtain ⟨uo, uc, rfl⟩ := hu.len
      rw [hfs, List.length_append] at hle2
      have hs2 : s + T.length ≤ 1000000 := by have := HS.out; omega
      have hs3 : s + T.length = (flatG L (k + 1)).length := by rw [hfs, List.length_append, HS.out]
      have HS3 := Lib.hid hs3
      have d1 : decide ((s : Int) + (T.length : Int) < 0) = false := decide_eq_false (by omega)
      clear hfs hT hu hs3 hle2
      go_wp2
      go_roundw
      case rel => exact ⟨k + 1, s + T.length, by omega, by go_num, by go_num, HS3, trivial⟩
      case measure => simp [intOf] <;> omega
    · obtain rfl : k = L.length := by omega
      have HG := Lib.hid (cgrow_none Z s hsl wo)
      go_wp2_with fail
      refine HG.out.mono ?_
      rintro e w1 ⟨v1, rfl, ho1, b1⟩
      have HO1 := Lib.hid ho1
      have HB1 := Lib.hid b1
      clear ho1 b1 HG HS hsl hlt
      go_wp2
      go_loopw [6, 27] (fun nv iv w2 => ∃ k : Nat, k ≤ L.length ∧ iv = .int .i64 k ∧ OwnE cellE Z w2 wo.heap.size 82 nv (flatG L k) ∧ Below wo.heap.size wo w2) (fun _ iv _ => L.length - (intOf iv).toNat)
      case atStart => exact ⟨0, Nat.zero_le _, rfl, HO1.out, HB1.out⟩
      case round =>
        obtain ⟨k, hk, rfl, hown, hbw⟩ := hrel
        have HOW := Lib.hid hown
        have HBW := Lib.hid hbw
        clear hown hbw
        by_cases hlt : k < L.length
        · obtain ⟨b, off, u, rfl, hb, c0, hu⟩ := HH.out k hlt
          have c0 := (HBW.out.cell (p := ⟨b, off + k, none⟩) hb).trans c0
          have hfs := flatG_succ L k hlt
          have hle2 := HLE.out (k + 1) (by omega)
          obtain ⟨T, hT⟩ : ∃ T, T = L.getD k [] := ⟨_, rfl⟩
          rw [← hT] at hu hfs
          obtain ⟨uo, uc, rfl⟩ := hu.len
          rw [hfs, List.length_append] at hle2
          obtain ⟨P0, hP⟩ : ∃ P0, P0 = flatG L k := ⟨_, rfl⟩
          rw [← hP] at hfs HOW hle2
          have HFS := Lib.hid hfs
          have hlo := HOW.out.lt
          have HU := Lib.hid (show HeldE cellE (fun b => Z b ∧ _ ≠ some b) wr (.slice uo T.length uc) T from (hu.below HBW.out).zone fun b _ hz => ⟨hz.1, fun e => by have := (hlo b e).1; omega⟩)
          have hs2 : P0.length + T.length ≤ 1000000 := by omega
          clear hfs hT hu hle2 hP hlo
          go_wp2_with (at_builtin; refine wpList_append_e (E := cellE) (Z := Z) rfl (.tmp 31) (.tmp 32) 51 rfl (.agg #[.int .i64 0, .slice none 0 0]) 32 Tryz.underlying51 info_cell rfl (by decide) rfl rfl HOW.out HU.out (by omega) (by omega) HBW.out.size ?_)
          intro v2 w2 ho2 hb2 _ _
          have hb3 := HBW.out.trans hb2
          rw [← HFS.out] at ho2
          have H2 := Lib.hid ho2
          have H3 := Lib.hid hb3
          clear ho2 hb2 hb3
          go_wp2
          go_roundw
          case rel => exact ⟨k + 1, by omega, by go_num, H2.out, H3.out⟩
          case measure => simp [intOf] <;> omega
        · obtain rfl : k = L.length := by omega
          go_wp2
          go_ret
          exact ⟨_, rfl, HOW.out, HBW.out⟩
end Go.Proofs.YtgndolgihplngaaGreatDoor
/- shift: held, tear. -/
namespace Go.Proofs.YtgndolgihplngaaGreatDoor
open Go.RowKit Go.ChangeShapes Go.WideShapes
set_option maxRecDepth 100000 in
theorem sheld_bad (Z : Zone) (B g gc : Nat) (L : List Cl) (wrap : Bool) (c n : Int) (w : World) (h : RowAt Z w B g gc L wrap) (hb : c < 0 ∨ (L.length : Int) ≤ c ∨ n < 1) : Calls Tryz.prog 89 #[.pointer (some ⟨g, 0, none⟩), .int .i64 c, .int .i64 n] w fun e w' => e = .returned (.tuple #[.int .i64 0, .bool false]) ∧ w = w' := by
  have HW := Lib.hid (rwide_any Z B g gc L wrap w h)
  clear h
  by_cases h0 : c < 0
  · have hd : decide (c < 0) = true := by simp; omega
    clear hb
    go_enter Tryz.func89, Tryz.ntmps89
    go_wp2
    go_ret2
    exact ⟨rfl, rfl⟩
  have hd : decide (c < 0) = false := by simp; omega
  by_cases h1 : (L.length : Int) ≤ c
  · have hd1 : decide ((L.length : Int) ≤ c) = true := by simp; omega
    clear hb
    go_enter Tryz.func89, Tryz.ntmps89
    go_wp2_with fail
    refine HW.out.mono ?_
    rintro e w1 ⟨rfl, rfl⟩
    go_wp2
    go_ret2
    exact ⟨rfl, rfl⟩
  · have hd1 : decide ((L.length : Int) ≤ c) = false := by simp; omega
    have hd2 : decide (n < 1) = true := by simp; omega
    clear hb
    go_enter Tryz.func89, Tryz.ntmps89
    go_wp2_with fail
    refine HW.out.mono ?_
    rintro e w1 ⟨rfl, rfl⟩
    go_wp2
    go_ret2
    exact ⟨rfl, rfl⟩
set_option maxRecDepth 100000 in
theorem sheld_good (Z : Zone) (B g gc : Nat) (L : List Cl) (wrap : Bool) (c : Nat) (n : Int) (w : World) (h : RowAt Z w B g gc L wrap) (hc : c < L.length) (hn : 1 ≤ n) (m : Nat) (hm : min n ((L.length : Int) - c) = m) : Calls Tryz.prog 89 #[.pointer (some ⟨g, 0, none⟩), .int .i64 c, .int .i64 n] w fun e w' => e = .returned (.tuple #[.int .i64 m, .bool true]) ∧ w = w' := by
  have HW := Lib.hid (rwide_any Z B g gc L wrap w h)
  have hl := h.len.2.1
  have hd : decide ((c : Int) < 0) = false := by simp
  have hd1 : decide ((L.length : Int) ≤ c) = false := by simp; omega
  have hd1n : decide (L.length ≤ c) = false := by simp; omega
  have hd2 : decide (n < 1) = false := by simp; omega
  have hw : IntKind.i64.wrap ((L.length : Int) - c) = (L.length : Int) - c := by rw [IntKind.wrap_i64]; omega
  clear h
  go_enter Tryz.func89, Tryz.ntmps89
  go_wp2_with fail
  refine HW.out.mono ?_
  rintro e w1 ⟨rfl, rfl⟩
  go_wp2_with fail
  refine HW.out.mono ?_
  rintro e w1 ⟨rfl, rfl⟩
  go_wp2
  go_ret2
  exact ⟨rfl, rfl⟩
theorem tear_out {L : List Cl} {c : Nat} (h : (L.getD c zc).1 ≠ 3) : tearL L c = L := by unfold tearL; rw [if_neg h]
def TornOk (Z : Zone) (B g cap : Nat) (w : World) (L' : List Cl) (e : Ending) (w' : World) : Prop := e = .returned (.tuple #[]) ∧ OwnE cellE Z w' B 82 (.slice (some ⟨g, 0, none⟩) L'.length cap) L' ∧ Upd (fun b => b = g) w w'
theorem ownE_kind {Z : Zone} {B g cap n : Nat} {L : List Cl} {w : World} (h : OwnE cellE Z w B 82 (.slice (some ⟨g, 0, none⟩) n cap) L) {i : Nat} (hi : i < L.length) : w.cell? ⟨g, i * 2, none⟩ = some (.int .i64 (L.getD i zc).1) := by
  obtain ⟨C, hC, hr⟩ := h.each.at (i := i) hi
  obtain ⟨tv, rfl, _⟩ := cell_rep.1 hr
  exact (hC 0 (by decide)).1
set_option maxRecDepth 100000 in
set_option maxHeartbeats 1000000 in
theorem stear_any (Z : Zone) (B g cap : Nat) (L : List Cl) (c : Nat) (w : World) (h : OwnE cellE Z w B 82 (.slice (some ⟨g, 0, none⟩) L.length cap) L) (hs : soundB L = true) (hl : L.length ≤ 1024) : Calls Tryz.prog 90 #[.slice (some ⟨g, 0, none⟩) L.length cap, .int .i64 c] w (TornOk Z B g cap w (tearL L c)) := by
  have H := Lib.hid h
  by_cases hc : c < L.length
  · have ck := ownE_kind h hc
    have hd : decide ((c : Int) < (L.length : Int)) = true := by simp; omega
    have hp := (sound_prop L).1 hs c hc
    by_cases h3 : (L.getD c zc).1 = 3
    · obtain ⟨h0, _⟩ := hp.2.2 h3
      obtain ⟨b, hb⟩ : ∃ b, c = b + 1 := ⟨c - 1, by omega⟩
      have HT := Lib.hid (show tearL L c = (L.set b zc).set c zc by unfold tearL; rw [if_pos h3, show c - 1 = b by omega])
      rw [h3] at ck
      have hb0 : (c : Int) - 1 = b := by omega
      have hbw : IntKind.i64.wrap (b : Int) = (b : Int) := by rw [IntKind.wrap_i64]; omega
      have hbl : b < L.length := by omega
      have hcl : c < (L.set b zc).length := by rw [List.length_set]; exact hc
      have HCL := Lib.hid hcl
      clear h hs hp h0 h3 hb hcl
      go_enter Tryz.func90, Tryz.ntmps90
      go_wp2_with (refine wpList_put_e (E := cellE) (Y := Z) (i := b) rfl 82 (.tmp 23) (.tmp 21) rfl rfl rfl [.int .i64 0, .slice none 0 0] rfl (by kernel_rfl) H.out.each hbl zc (zero_rep _ _) ?_)
      intro w1 hw1 hu1
      have H1 := Lib.hid (show OwnE cellE Z _ B 82 _ _ from hw1)
      have U1 := Lib.hid hu1
      clear hw1 hu1 ck
      go_wp2_with (refine wpList_put_e (E := cellE) (Y := Z) (i := c) rfl 82 (.tmp 24) (.tmp 22) rfl rfl rfl [.int .i64 0, .slice none 0 0] rfl (by kernel_rfl) H1.out.each HCL.out zc (zero_rep _ _) ?_)
      intro w2 hw2 hu2
      have HE := Lib.hid (And.intro (show OwnE cellE Z _ B 82 _ _ from hw2) (U1.out.trans hu2))
      clear hw2 hu2
      go_wp2
      rw [HT.out]
      refine bodyPost_end (by kernel_rfl) rfl ⟨rfl, ?_, HE.out.2⟩
      rw [List.length_set, List.length_set]
      exact HE.out.1
    · have HT := Lib.hid (tear_out h3)
      obtain ⟨K, hK⟩ : ∃ K, K = (L.getD c zc).1 := ⟨_, rfl⟩
      rw [← hK] at ck h3
      have hk : (K == 3) = false := by rw [beq_eq_false_iff_ne]; exact h3
      clear h hs hp hK
      go_enter Tryz.func90, Tryz.ntmps90
      go_wp2
      rw [HT.out]
      exact bodyPost_end (by kernel_rfl) rfl ⟨rfl, H.out, Upd.refl _ _⟩
  · have hd : decide ((c : Int) < (L.length : Int)) = false := by simp; omega
    have HT := Lib.hid (show tearL L c = L from tear_out (by rw [getD_ge L zc c (by omega)]; decide))
    clear h hs
    go_enter Tryz.func90, Tryz.ntmps90
    go_wp2
    rw [HT.out]
    exact bodyPost_end (by kernel_rfl) rfl ⟨rfl, H.out, Upd.refl _ _⟩
end Go.Proofs.YtgndolgihplngaaGreatDoor
