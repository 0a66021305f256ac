/- Texts put together: CellP, CloneC, CloneD, ShfA. -/
import Derived.Test.YtgndolgihplngaaDoorMg1
import Derived.Test.YtgndolgihplngaaDoorCellC
import Derived.Lib.AppendZeros
/- cell.Text, cell.Of, the reference's Of. -/
namespace Go.Proofs.YtgndolgihplngaaDoor
open Go.RowKit Go.ChangeShapes Go.WideShapes
theorem strip2_own (Z : Zone) (w : World) {B : Nat} (K K' : Int) (tv : Value) (t : List Int) (ht : HeldE (intE .i32) Z w tv t) (hB : B ≤ w.heap.size) : OwnE cellE Z (w.alloc (.cells #[.int .i64 K, tv, .int .i64 K', .slice none 0 0] 73)) B 73 (.slice (some ⟨w.heap.size, 0, none⟩) 2 2) [(K, t), (K', [])] := by
  refine OwnE.lit w cellE [[.int .i64 K, tv], [.int .i64 K', .slice none 0 0]] _ 2 rfl rfl hB (by decide) (fun i hi => ?_) _ rfl
  match i, hi with
  | 0, _ => exact cell_rep.2 ⟨_, rfl, ht⟩
  | 1, _ => exact cell_rep.2 ⟨_, rfl, HeldE.nil _ _ _⟩
theorem strip1_own (Z : Zone) (w : World) {B : Nat} (K : Int) (tv : Value) (t : List Int) (ht : HeldE (intE .i32) Z w tv t) (hB : B ≤ w.heap.size) : OwnE cellE Z (w.alloc (.cells #[.int .i64 K, tv] 73)) B 73 (.slice (some ⟨w.heap.size, 0, none⟩) 1 1) [(K, t)] := by
  refine OwnE.lit w cellE [[.int .i64 K, tv]] _ 1 rfl rfl hB (by decide) (fun i hi => ?_) _ rfl
  match i, hi with
  | 0, _ => exact cell_rep.2 ⟨_, rfl, ht⟩
theorem ofC_cases (wide : Int) (xs : List Int) (t : List Int) (ht : t = (xs.take 16).map repl) : (t = [] → 2 ≤ wide → ofC wide xs = [zc, zc]) ∧ (t = [] → ¬ 2 ≤ wide → ofC wide xs = [zc]) ∧ (t ≠ [] → 2 ≤ wide → ofC wide xs = [(2, t), (3, [])]) ∧ (t ≠ [] → ¬ 2 ≤ wide → ofC wide xs = [(1, t)]) := by
  subst ht
  unfold ofC
  refine ⟨fun h1 h2 => ?_, fun h1 h2 => ?_, fun h1 h2 => ?_, fun h1 h2 => ?_⟩
  · simp only [h1, List.length_nil, if_true, if_pos h2]
  · simp only [h1, List.length_nil, if_true, if_neg h2]
  · simp only [if_neg (fun h => h1 (List.eq_nil_of_length_eq_zero h)), if_pos h2]
  · simp only [if_neg (fun h => h1 (List.eq_nil_of_length_eq_zero h)), if_neg h2]
set_option maxRecDepth 100000 in
set_option maxHeartbeats 800000 in
theorem cof_new (Z Y : Zone) (wide : Int) (v : Value) (xs : List Int) (w : World) (hZ : ∀ b, w.heap.size ≤ b → Z b) (hv : HeldE (intE .i32) Y w v xs) : Calls Tryd.prog 108 #[.int .i64 wide, v] w (MadeE cellE Z 73 w (ofC wide xs)) := by
  have hl := hv.max
  obtain ⟨ao, cap, rfl, hcap, hcm, hnn, hcc⟩ := id hv
  obtain ⟨m, hm⟩ : ∃ m, m = min xs.length 16 := ⟨_, rfl⟩
  have hm1 : min (xs.length : Int) 16 = (m : Int) := by omega
  have hm2 : m ≤ xs.length := by omega
  have hm3 : (m : Int) ≤ (cap : Int) := by omega
  have ht16 : (xs.take 16) = xs.take m := by
    rw [hm]
    by_cases h : xs.length ≤ 16
    · rw [Nat.min_eq_left h, List.take_length, List.take_of_length_le h]
    · rw [Nat.min_eq_right (by omega)]
  have hpart : HeldE (intE .i32) Y w (.slice ao m cap) (xs.take m) := by
    have := hv.part 0 m (Nat.zero_le _) hm2 ao cap (fun h => ⟨h, (hnn h).2⟩) (fun b off e _ => by simp [e]) (fun a e => by rw [e]; simp) (by omega) hcm
    simpa using this
  obtain ⟨t, ht⟩ : ∃ t, t = (xs.take 16).map repl := ⟨_, rfl⟩
  have HOC := Lib.hid (ofC_cases wide xs t ht)
  have hR := replace_own _ _ w hpart.ints (by simp; omega)
  rw [← ht16, ← ht] at hR
  have HR := Lib.hid hR
  have HT := Lib.hid ht
  clear hR ht hpart ht16 hm hcc hnn hcap hcm hv
  by_cases h2 : 2 ≤ wide
  all_goals
    go_enter Tryd.func108, Tryd.ntmps108
    go_wp2_with fail
    refine HR.out.mono ?_
    rintro e w1 ⟨v1, rfl, ho1, hb1⟩
    have hh := (ownE_ints (Z := Z) ho1).held (fun b hb _ => hZ b hb)
    obtain ⟨a1, c1, rfl⟩ := hh.len
    have HH := Lib.hid hh
    have HB1 := Lib.hid hb1
    clear ho1 hh hb1
    cases t with
    | nil =>
      go_wp2_with fail
      refine (blanks_any Z _ _).mono ?_
      rintro e w2 ⟨v2, rfl, ho2, hb2⟩
      have HO := Lib.hid (ho2.base (HB1.out.size))
      have HB := Lib.hid (HB1.out.trans (hb2.mono HB1.out.size))
      clear ho2 hb2
      go_wp2
      go_ret
      refine ⟨_, rfl, ?_, HB.out⟩
      first
        | (rw [HOC.out.1 (by simp) h2]; exact HO.out)
        | (rw [HOC.out.2.1 (by simp) h2]; exact HO.out)
    | cons x t =>
      have hpos : 0 < (x :: t).length := by simp
      obtain ⟨t0, ht0⟩ : ∃ t0, t0 = x :: t := ⟨_, rfl⟩
      have hne : t0 ≠ [] := by rw [ht0]; simp
      rw [← ht0] at HH HOC hpos ⊢
      have HNE := Lib.hid hne
      clear ht0 hne HT HR
      have hz : ((t0.length : Int) == 0) = false := by rw [beq_eq_false_iff_ne]; omega
      have HP2 := Lib.hid (strip2_own Z w1 (B := w.heap.size) 2 3 _ t0 HH.out HB1.out.size)
      have HP1 := Lib.hid (strip1_own Z w1 (B := w.heap.size) 1 _ t0 HH.out HB1.out.size)
      go_wp2
      go_ret
      refine ⟨_, rfl, ?_, HB1.out.alloc HB1.out.size _⟩
      first
        | (rw [HOC.out.2.2.1 HNE.out h2]; exact HP2.out)
        | (rw [HOC.out.2.2.2 HNE.out h2]; exact HP1.out)
end Go.Proofs.YtgndolgihplngaaDoor
/- Package clone: cells with memory of their own. -/
namespace Go.Proofs.YtgndolgihplngaaDoor
open Go.RowKit Go.ChangeShapes Go.WideShapes
theorem HeldE.ownedInts {B : Nat} {w : World} {n : Nat} {v : Value} {ty : TypeId} {xs : List Int} (h : w.ownsRow B ty 1 v n (xs.map (Value.int .i32))) : HeldE (intE .i32) (fun b => B ≤ b) w v xs := (ownE_ints (Z := fun b => B ≤ b) h).held fun _ hb _ => hb
/-- What a copy of a cell leaves. -/
def CloneOk (w : World) (K : Int) (T : List Int) (e : Ending) (w' : World) : Prop := ∃ tv', e = .returned (.agg #[.int .i64 K, tv']) ∧ HeldE (intE .i32) (fun b => w.heap.size ≤ b) w' tv' T ∧ Below w.heap.size w w'
def CloneOwn (w : World) (K : Int) (T : List Int) (e : Ending) (w' : World) : Prop := ∃ tv', e = .returned (.agg #[.int .i64 K, tv']) ∧ OwnE (intE .i32) (fun _ => True) w' w.heap.size 21 tv' T ∧ Below w.heap.size w w'
theorem OwnE.heldInts {B : Nat} {w : World} {Z : Zone} {v : Value} {ty : TypeId} {xs : List Int} (h : OwnE (intE .i32) Z w B ty v xs) : HeldE (intE .i32) (fun b => B ≤ b) w v xs := HeldE.ownedInts h.ints
theorem OwnE.anyInts {B : Nat} {w : World} {Z Y : Zone} {v : Value} {ty : TypeId} {xs : List Int} (h : OwnE (intE .i32) Z w B ty v xs) : OwnE (intE .i32) Y w B ty v xs := ownE_ints h.ints
set_option maxRecDepth 100000 in
set_option maxHeartbeats 800000 in
theorem clonec_own (K : Int) (tv : Value) (T : List Int) (w : World) (ht : Held .i32 w tv T) (hl : T.length ≤ 1000000000) : Calls Tryd.prog 73 #[.agg #[.int .i64 K, tv]] w (CloneOwn w K T) := by
  have HT := Lib.hid ht
  obtain ⟨ao, cap, rfl, _⟩ := ht.view
  clear ht
  obtain ⟨w2, hw2⟩ : ∃ w2, w2 = (w.alloc (.cells #[.int .i64 K, .slice ao T.length cap] 73)).alloc (.cells #[.int .i64 0, .slice none 0 0] 73) := ⟨_, rfl⟩
  have hb2 : Below w.heap.size w w2 := by rw [hw2]; exact ((Below.refl _ _).alloc (Nat.le_refl _) _).alloc (by simp) _
  have hs2 : w2.heap.size = w.heap.size + 2 := by rw [hw2]; simp
  have hg : Has w2 w.heap.size [.int .i64 K, .slice ao T.length cap] 73 := by rw [hw2]; exact (Has.new w _ _).alloc _
  have hr : Has w2 (w.heap.size + 1) [.int .i64 0, .slice none 0 0] 73 := by
    rw [hw2]
    have := Has.new (w.alloc (.cells #[.int .i64 K, .slice ao T.length cap] 73)) [.int .i64 0, .slice none 0 0] 73
    rw [World.size_alloc] at this
    exact this
  have HB2 := Lib.hid hb2
  have HS2 := Lib.hid hs2
  have HG := Lib.hid hg
  have HRR := Lib.hid hr
  have HC := Lib.hid (rclone_any _ T w2 (HT.out.below hb2) hl)
  rw [hw2] at HC
  have HW2 := Lib.hid hw2
  clear hw2 hb2 hs2 hg hr
  go_enter Tryd.func73, Tryd.ntmps73
  go_wp2_with fail
  refine HC.out.mono ?_
  rintro e w3 ⟨v5, rfl, ho5, b5⟩
  rw [← HW2.out] at ho5 b5
  have hs3 : w.heap.size + 2 ≤ w3.heap.size := by rw [← HS2.out]; exact b5.size
  have g3 := HG.out.below b5 HG.out.lt
  have r3 := HRR.out.below b5 HRR.out.lt
  have c0 := g3.cell 0 _ rfl
  have c1 := g3.cell 1 _ rfl
  have f0 := g3.free 0
  have f1 := g3.free 1
  have d0 := r3.cell 0 _ rfl
  have d1 := r3.cell 1 _ rfl
  have e0 := r3.free 0
  have e1 := r3.free 1
  have HO := Lib.hid (ownE_ints (Z := fun _ => False) ho5)
  have HH := Lib.hid (HeldE.ownedInts ho5)
  have HB5 := Lib.hid (HB2.out.trans (b5.mono HB2.out.size))
  have HSZ := Lib.hid hs3
  obtain ⟨a5, c5, e5⟩ := HH.out.len
  clear ho5 b5 g3 r3 hs3
  subst e5
  go_wp2
  refine bodyPost_ret (v := .agg #[.int .i64 K, .slice a5 T.length c5]) (by simp [results, Tryd.results73, go_sem, c0, c1, f0, f1, d0, d1, e0, e1]) rfl ⟨_, rfl, ?_, ?_⟩
  · exact OwnE.anyInts (OwnE.base (OwnE.upd HO.out (((((Upd.refl (fun b => b < w.heap.size + 2) w3).setCell (.inl (by simp)) _).setCell (.inl (by simp)) _).setCell (.inl (by simp)) _)) (fun b h k => by
      rcases h with h | h
      · exact h
      · have := (HO.out.lt b h).1
        rw [HS2.out] at this
        omega)) (by rw [HS2.out]; omega))
  · exact (((HB5.out.setCell (by simp) _).setCell (by simp) _).setCell (by simp) _)
theorem clonec_any (K : Int) (tv : Value) (T : List Int) (w : World) (ht : Held .i32 w tv T) (hl : T.length ≤ 1000000000) : Calls Tryd.prog 73 #[.agg #[.int .i64 K, tv]] w (CloneOk w K T) :=
  (clonec_own K tv T w ht hl).mono fun _ _ ⟨v, e, h, b⟩ => ⟨v, e, h.heldInts, b⟩
end Go.Proofs.YtgndolgihplngaaDoor
/- clone.Cells. -/
namespace Go.Proofs.YtgndolgihplngaaDoor
open Go.RowKit Go.ChangeShapes Go.WideShapes
theorem OwnE.some {α : Type} {E : Elem α} {Z : Zone} {w : World} {B : Nat} {ty : TypeId} {v : Value} {L : List α} (h : OwnE E Z w B ty v L) (hl : 0 < L.length) : ∃ g cap, v = .slice (some ⟨g, 0, none⟩) L.length cap ∧ B ≤ g ∧ g < w.heap.size := by
  obtain ⟨CS, h1, _⟩ := h
  rcases h1.2 with ⟨rfl, h0⟩ | ⟨g, cap, cur, rfl, hB, hg, _⟩
  · omega
  · exact ⟨g, cap, rfl, hB, (Array.getElem?_eq_some_iff.1 hg).1⟩
theorem OwnE.zone {α : Type} {E : Elem α} {Z Y : Zone} {w : World} {B : Nat} {ty : TypeId} {v : Value} {L : List α} (h : OwnE E Z w B ty v L) (hy : ∀ b, b < w.heap.size → Z b → Y b) : OwnE E Y w B ty v L := h.keep (.refl _ _) hy
end Go.Proofs.YtgndolgihplngaaDoor
/- The library's Grow and Concat of cells. -/
namespace Go.Proofs.YtgndolgihplngaaDoor
open Go.RowKit Go.ChangeShapes Go.WideShapes
def flatG {α : Type} (L : List (List α)) (k : Nat) : List α := (L.take k).flatten
theorem flatG_succ {α : Type} (L : List (List α)) (k : Nat) (h : k < L.length) : flatG L (k + 1) = flatG L k ++ L.getD k [] := by
  unfold flatG
  rw [List.take_succ_eq_append_getElem h, List.flatten_append]
  simp [List.getD, List.getElem?_eq_getElem h]
theorem flatG_le {α : Type} (L : List (List α)) : ∀ k, k ≤ L.length → (flatG L k).length ≤ (flatG L L.length).length := by
  have h : ∀ d k, k + d = L.length → (flatG L k).length ≤ (flatG L L.length).length := by
    intro d
    induction d with
    | zero => intro k e; have : k = L.length := by omega
              subst this; exact Nat.le_refl _
    | succ d ih =>
      intro k e
      have h1 := ih (k + 1) (by omega)
      rw [flatG_succ L k (by omega), List.length_append] at h1
      omega
  intro k hk
  exact h (L.length - k) k (by omega)
theorem flatG_all {α : Type} (L : List (List α)) : flatG L L.length = L.flatten := by unfold flatG; rw [List.take_length]
end Go.Proofs.YtgndolgihplngaaDoor
