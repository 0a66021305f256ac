/- Texts put together: CellP, CloneC, CloneD, ShfA. -/
import Derived.Test.YtgndolgihplngaaDoorMg1
import Derived.Test.YtgndolgihplngaaDoorCellC
import Derived.Lib.AppendZeros
/- cell.Text, cell.Of, the reference's Of. -/
namespace Go.Proofs.YtgndolgihplngaaDoor
open Go.RowKit Go.ChangeShapes Go.WideShapes
theorem strip2_own (Z : Zone) (w : World) {B : Nat} (K K' : Int) (tv : Value) (t : List Int) (ht : HeldE (intE .i32) Z w tv t) (hB : B ≤ w.heap.size) : OwnE cellE Z (w.alloc (.cells #[.int .i64 K, tv, .int .i64 K', .slice none 0 0] 73)) B 73 (.slice (some ⟨w.heap.size, 0, none⟩) 2 2) [(K, t), (K', [])] := by
  refine OwnE.lit w cellE [[.int .i64 K, tv], [.int .i64 K', .slice none 0 0]] _ 2 rfl rfl hB (by decide) (fun i hi => ?_) _ rfl
  match i, hi with
  | 0, _ => exact cell_rep.2 ⟨_, rfl, ht⟩
  | 1, _ => exact cell_rep.2 ⟨_, rfl, HeldE.nil _ _ _⟩
theorem strip1_own (Z : Zone) (w : World) {B : Nat} (K : Int) (tv : Value) (t : List Int) (ht : HeldE (intE .i32) Z w tv t) (hB : B ≤ w.heap.size) : OwnE cellE Z (w.alloc (.cells #[.int .i64 K, tv] 73)) B 73 (.slice (some ⟨w.heap.size, 0, none⟩) 1 1) [(K, t)] := by
  refine OwnE.lit w cellE [[.int .i64 K, tv]] _ 1 rfl rfl hB (by decide) (fun i hi => ?_) _ rfl
  match i, hi with
  | 0, _ => exact cell_rep.2 ⟨_, rfl, ht⟩
theorem ofC_cases (wide : Int) (xs : List Int) (t : List Int) (ht : t = (xs.take 16).map repl) : (t = [] → 2 ≤ wide → ofC wide xs = [zc, zc]) ∧ (t = [] → ¬ 2 ≤ wide → ofC wide xs = [zc]) ∧ (t ≠ [] → 2 ≤ wide → ofC wide xs = [(2, t), (3, [])]) ∧ (t ≠ [] → ¬ 2 ≤ wide → ofC wide xs = [(1, t)]) := by
  subst ht
  unfold ofC
  refine ⟨fun h1 h2 => ?_, fun h1 h2 => ?_, fun h1 h2 => ?_, fun h1 h2 => ?_⟩
  · simp only [h1, List.length_nil, if_true, if_pos h2]
  · simp only [h1, List.length_nil, if_true, if_neg h2]
  · simp only [if_neg (fun h => h1 (List.eq_nil_of_length_eq_zero h)), if_pos h2]
  · simp only [if_neg (fun h => h1 (List.eq_nil_of_length_eq_zero h)), if_neg h2]
set_option maxRecDepth 100000 in
set_option maxHeartbeats 800000 in
theorem cof_new (Z Y : Zone) (wide : Int) (v : Value) (xs : List Int) (w : World) (hZ : ∀ b, w.heap.size ≤ b → Z b) (hv : HeldE (intE .i32) Y w v xs) : Calls Tryd.prog 108 #[.int .i64 wide, v] w (MadeE cellE Z 73 w (ofC wide xs)) := by
  have hl := hv.max
  obtain ⟨ao, cap, rfl, hcap, hcm, hnn, hcc⟩ := id hv
  obtain ⟨m, hm⟩ : ∃ m, m = min xs.length 16 := ⟨_, rfl⟩
  have hm1 : min (xs.length : Int) 16 = (m : Int) := by omega
  have hm2 : m ≤ xs.length := by omega
  have hm3 : (m : Int) ≤ (cap : Int) := by omega
  have ht16 : (xs.take 16) = xs.take m := by
    rw [hm]
    by_cases h : xs.length ≤ 16
    · rw [Nat.min_eq_left h, List.take_length, List.take_of_length_le h]
    · rw [Nat.min_eq_right (by omega)]
  have hpart : HeldE (intE .i32) Y w (.slice ao m cap) (xs.take m) := by
    have := hv.part 0 m (Nat.zero_le _) hm2 ao cap (fun h => ⟨h, (hnn h).2⟩) (fun b off e _ => by simp [e]) (fun a e => by rw [e]; simp) (by omega) hcm
    simpa using this
  obtain ⟨t, ht⟩ : ∃ t, t = (xs.take 16).map repl := ⟨_, rfl⟩
  have HOC := Lib.hid (ofC_cases wide xs t ht)
  have hR := replace_own _ _ w hpart.ints (by simp; omega)
  rw [← ht16, ← ht] at hR
  have HR := Lib.hid hR
  have HT := Lib.hid ht
  clear hR ht hpart ht16 hm hcc hnn hcap hcm hv
  by_cases h2 : 2 ≤ wide
  all_goals
    go_enter Tryd.func108, Tryd.ntmps108
    go_wp2_with fail
    refine HR.out.mono ?_
    rintro e w1 ⟨v1, rfl, ho1, hb1⟩
    have hh := (ownE_ints (Z := Z) ho1).held (fun b hb _ => hZ b hb)
    obtain ⟨a1, c1, rfl⟩ := hh.len
    have HH := Lib.hid hh
    have HB1 := Lib.hid hb1
    clear ho1 hh hb1
    cases t with
    | nil =>
      go_wp2_with fail
      refine (blanks_any Z _ _).mono ?_
      rintro e w2 ⟨v2, rfl, ho2, hb2⟩
      have HO := Lib.hid (ho2.base (HB1.out.size))
      have HB := Lib.hid (HB1.out.trans (hb2.mono HB1.out.size))
      clear ho2 hb2
      go_wp2
      go_ret
      refine ⟨_, rfl, ?_, HB.out⟩
      first
        | (rw [HOC.out.1 (by simp) h2]; exact HO.out)
        | (rw [HOC.out.2.1 (by simp) h2]; exact HO.out)
    | cons x t =>
      have hpos : 0 < (x :: t).length := by simp
      obtain ⟨t0, ht0⟩ : ∃ t0, t0 = x :: t := ⟨_, rfl⟩
      have hne : t0 ≠ [] := by rw [ht0]; simp
      rw [← ht0] at HH HOC hpos ⊢
      have HNE := Lib.hid hne
      clear ht0 hne HT HR
      have hz : ((t0.length : Int) == 0) = false := by rw [beq_eq_false_iff_ne]; omega
      have HP2 := Lib.hid (strip2_own Z w1 (B := w.heap.size) 2 3 _ t0 HH.out HB1.out.size)
      have HP1 := Lib.hid (strip1_own Z w1 (B := w.heap.size) 1 _ t0 HH.out HB1.out.size)
      go_wp2
      go_ret
      refine ⟨_, rfl, ?_, HB1.out.alloc HB1.out.size _⟩
      first
        | (rw [HOC.out.2.2.1 HNE.out h2]; exact HP2.out)
        | (rw [HOC.out.2.2.2 HNE.out h2]; exact HP1.out)
end Go.Proofs.YtgndolgihplngaaDoor
/- Package clone: cells with memory of their own. -/
namespace Go.Proofs.YtgndolgihplngaaDoor
open Go.RowKit Go.ChangeShapes Go.WideShapes
theorem HeldE.ownedInts {B : Nat} {w : World} {n : Nat} {v : Value} {ty : TypeId} {xs : List Int} (h : w.ownsRow B ty 1 v n (xs.map (Value.int .i32))) : HeldE (intE .i32) (fun b => B ≤ b) w v xs := (ownE_ints (Z := fun b => B ≤ b) h).held fun _ hb _ => hb
/-- What a copy of a cell leaves. -/
def CloneOk (w : World) (K : Int) (T : List Int) (e : Ending) (w' : World) : Prop := ∃ tv', e = .returned (.agg #[.int .i64 K, tv']) ∧ HeldE (intE .i32) (fun b => w.heap.size ≤ b) w' tv' T ∧ Below w.heap.size w w'
def CloneOwn (w : World) (K : Int) (T : List Int) (e : Ending) (w' : World) : Prop := ∃ tv', e = .returned (.agg #[.int .i64 K, tv']) ∧ OwnE (intE .i32) (fun _ => True) w' w.heap.size 21 tv' T ∧ Below w.heap.size w w'
theorem OwnE.heldInts {B : Nat} {w : World} {Z : Zone} {v : Value} {ty : TypeId} {xs : List Int} (h : OwnE (intE .i32) Z w B ty v xs) : HeldE (intE .i32) (fun b => B ≤ b) w v xs := HeldE.ownedInts h.ints
theorem OwnE.anyInts {B : Nat} {w : World} {Z Y : Zone} {v : Value} {ty : TypeId} {xs : List Int} (h : OwnE (intE .i32) Z w B ty v xs) : OwnE (intE .i32) Y w B ty v xs := ownE_ints h.ints
set_option maxRecDepth 100000 in
set_option maxHeartbeats 800000 in
theorem clonec_own (K : Int) (tv : Value) (T : List Int) (w : World) (ht : Held .i32 w tv T) (hl : T.length ≤ 1000000000) : Calls Tryd.prog 73 #[.agg #[.int .i64 K, tv]] w (CloneOwn w K T) := by
  have HT := Lib.hid ht
  obtain ⟨ao, cap, rfl, _⟩ := ht.view
  clear ht
  obtain ⟨w2, hw2⟩ : ∃ w2, w2 = (w.alloc (.cells #[.int .i64 K, .slice ao T.length cap] 73)).alloc (.cells #[.int .i64 0, .slice none 0 0] 73) := ⟨_, rfl⟩
  have hb2 : Below w.heap.size w w2 := by rw [hw2]; exact ((Below.refl _ _).alloc (Nat.le_refl _) _).alloc (by simp) _
  have hs2 : w2.heap.size = w.heap.size + 2 := by rw [hw2]; simp
  have hg : Has w2 w.heap.size [.int .i64 K, .slice ao T.length cap] 73 := by rw [hw2]; exact (Has.new w _ _).alloc _
  have hr : Has w2 (w.heap.size + 1) [.int .i64 0, .slice none 0 0] 73 := by
    rw [hw2]
    have := Has.new (w.alloc (.cells #[.int .i64 K, .slice ao T.length cap] 73)) [.int .i64 0, .slice none 0 0] 73
    rw [World.size_alloc] at this
    exact this
  have HB2 := Lib.hid hb2
  have HS2 := Lib.hid hs2
  have HG := Lib.hid hg
  have HRR := Lib.hid hr
  have HC := Lib.hid (rclone_any _ T w2 (HT.out.below hb2) hl)
  rw [hw2] at HC
  have HW2 := Lib.hid hw2
  clear hw2 hb2 hs2 hg hr
  go_enter Tryd.func73, Tryd.ntmps73
  go_wp2_with fail
  refine HC.out.mono ?_
  rintro e w3 ⟨v5, rfl, ho5, b5⟩
  rw [← HW2.out] at ho5 b5
  have hs3 : w.heap.size + 2 ≤ w3.heap.size := by rw [← HS2.out]; exact b5.size
  have g3 := HG.out.below b5 HG.out.lt
  have r3 := HRR.out.below b5 HRR.out.lt
  have c0 := g3.cell 0 _ rfl
  have c1 := g3.cell 1 _ rfl
  have f0 := g3.free 0
  have f1 := g3.free 1
  have d0 := r3.cell 0 _ rfl
  have d1 := r3.cell 1 _ rfl
  have e0 := r3.free 0
  have e1 := r3.free 1
  have HO := Lib.hid (ownE_ints (Z := fun _ => False) ho5)
  have HH := Lib.hid (HeldE.ownedInts ho5)
  have HB5 := Lib.hid (HB2.out.trans (b5.mono HB2.out.size))
  have HSZ := Lib.hid hs3
  obtain ⟨a5, c5, e5⟩ := HH.out.len
  clear ho5 b5 g3 r3 hs3
  subst e5
  go_wp2
  refine bodyPost_ret (v := .agg #[.int .i64 K, .slice a5 T.length c5]) (by simp [results, Tryd.results73, go_sem, c0, c1, f0, f1, d0, d1, e0, e1]) rfl ⟨_, rfl, ?_, ?_⟩
  · exact OwnE.anyInts (OwnE.base (OwnE.upd HO.out (((((Upd.refl (fun b => b < w.heap.size + 2) w3).setCell (.inl (by simp)) _).setCell (.inl (by simp)) _).setCell (.inl (by simp)) _)) (fun b h k => by
      rcases h with h | h
      · exact h
      · have := (HO.out.lt b h).1
        rw [HS2.out] at this
        omega)) (by rw [HS2.out]; omega))
  · exact (((HB5.out.setCell (by simp) _).setCell (by simp) _).setCell (by simp) _)
theorem clonec_any (K : Int) (tv : Value) (T : List Int) (w : World) (ht : Held .i32 w tv T) (hl : T.length ≤ 1000000000) : Calls Tryd.prog 73 #[.agg #[.int .i64 K, tv]] w (CloneOk w K T) :=
  (clonec_own K tv T w ht hl).mono fun _ _ ⟨v, e, h, b⟩ => ⟨v, e, h.heldInts, b⟩
end Go.Proofs.YtgndolgihplngaaDoor
/- clone.Cells. -/
namespace Go.Proofs.YtgndolgihplngaaDoor
open Go.RowKit Go.ChangeShapes Go.WideShapes
theorem OwnE.some {α : Type} {E : Elem α} {Z : Zone} {w : World} {B : Nat} {ty : TypeId} {v : Value} {L : List α} (h : OwnE E Z w B ty v L) (hl : 0 < L.length) : ∃ g cap, v = .slice (some ⟨g, 0, none⟩) L.length cap ∧ B ≤ g ∧ g < w.heap.size := by
  obtain ⟨CS, h1, _⟩ := h
  rcases h1.2 with ⟨rfl, h0⟩ | ⟨g, cap, cur, rfl, hB, hg, _⟩
  · omega
  · exact ⟨g, cap, rfl, hB, (Array.getElem?_eq_some_iff.1 hg).1⟩
theorem OwnE.zone {α : Type} {E : Elem α} {Z Y : Zone} {w : World} {B : Nat} {ty : TypeId} {v : Value} {L : List α} (h : OwnE E Z w B ty v L) (hy : ∀ b, b < w.heap.size → Z b → Y b) : OwnE E Y w B ty v L := h.keep (.refl _ _) hy
set_option maxRecDepth 100000 in
theorem scclone_any (v : Value) (L : List Cl) (w : World) (hv : HeldE cellE (fun b => b < w.heap.size) w v L) (hl : L.length ≤ 1000000) : Calls Tryd.prog 107 #[v] w (MadeE cellE (fun b => b < w.heap.size) 73 w L) := by
  obtain ⟨ao, cap, rfl⟩ := hv.len
  cases ao with
  | none =>
    obtain ⟨rfl, _, rfl⟩ := hv.nilL
    clear hv
    have q := fun w => run_eql_slice_nil (P := Tryd.prog) w 54 73 none 0 0 Tryd.underlying54
    go_enter Tryd.func107, Tryd.ntmps107
    go_wp2
    go_ret
    exact ⟨_, rfl, OwnE.nil _ _ _ _ _, Below.refl _ _⟩
  | some a =>
    have hb := (Below.refl w.heap.size w).alloc (Nat.le_refl _) (.cells #[] 73)
    have HE := Lib.hid (OwnE.fresh0 (E := cellE) (Z := fun b => b < w.heap.size) w 73 (Nat.le_refl w.heap.size))
    have hlo := HE.out.lt
    have HU := Lib.hid (show HeldE cellE (fun b => b < w.heap.size ∧ _ ≠ some b) _ _ L from (hv.below hb).zone (fun b _ hz => ⟨hz, fun e => by have := (hlo b e).1; omega⟩))
    have HB := Lib.hid hb
    clear hv hb hlo
    have q := fun w => run_eql_slice_nil (P := Tryd.prog) w 54 73 (some a) L.length cap Tryd.underlying54
    go_enter Tryd.func107, Tryd.ntmps107
    go_wp2_with (at_builtin; refine wpList_append_e (E := cellE) (Z := fun b => b < w.heap.size) rfl (.tmp 5) (.tmp 6) 54 rfl (.agg #[.int .i64 0, .slice none 0 0]) 32 Tryd.underlying54 info_cell rfl (by decide) rfl rfl HE.out HU.out (by simp; omega) (by simp; omega) HB.out.size ?_)
    intro v2 w2 ho2 hb2 _ _
    have H2 := Lib.hid ho2
    have B2 := Lib.hid (HB.out.trans hb2)
    clear ho2 hb2
    go_wp2
    go_ret
    exact ⟨_, rfl, by simpa using H2.out, B2.out⟩
theorem set_same {α : Type} (l : List α) (d : α) (k : Nat) (h : k < l.length) : l.set k (l.getD k d) = l := by
  apply List.ext_getElem?
  intro i
  by_cases e : i = k
  · subst e
    rw [List.getElem?_set_self h]
    simp [List.getD, List.getElem?_eq_getElem h]
  · rw [List.getElem?_set_ne (Ne.symm e)]
set_option maxRecDepth 100000 in
set_option maxHeartbeats 1600000 in
theorem clonecs_any (Z : Zone) (v : Value) (L : List Cl) (w : World) (hv : HeldE cellE Z w v L) (hl : L.length ≤ 1000000) (ht : ∀ k, k < L.length → (L.getD k zc).2.length ≤ 1000000000) :
    Calls Tryd.prog 72 #[v] w (MadeE cellE (fun b => w.heap.size ≤ b) 73 w L) := by
  have HC := Lib.hid (scclone_any v L w hv.lower hl)
  have HT := Lib.hid ht
  obtain ⟨ao, cap, rfl⟩ := hv.len
  clear hv ht
  by_cases h0 : L.length = 0
  · obtain rfl : L = [] := List.eq_nil_of_length_eq_zero h0
    clear h0 hl
    go_enter Tryd.func72, Tryd.ntmps72
    go_wp2_with fail
    refine HC.out.mono ?_
    rintro e w1 ⟨v1, rfl, ho1, b1⟩
    obtain ⟨a1, c1, rfl⟩ := ((ho1.zone (Y := fun _ => True) (fun _ _ _ => trivial)).held (fun _ _ _ => trivial)).len
    have HO := Lib.hid (OwnI.all (Z := fun b => w.heap.size ≤ b) ho1.each (fun i b hi => absurd hi (Nat.not_lt_zero _)))
    have HB := Lib.hid b1
    clear ho1 b1
    simp only [List.length_nil]
    go_wp2
    go_loopw [9] (fun i wr => i = .int .i64 0 ∧ wr = w1) (fun i _ => 0)
    case atStart => exact ⟨rfl, (by first | rfl | trivial)⟩
    case round =>
      obtain ⟨rfl, hww⟩ := hrel
      subst hww
      go_wp2
      go_ret
      exact ⟨_, rfl, HO.out, HB.out⟩
  · have hpos : 0 < L.length := by omega
    clear h0
    go_enter Tryd.func72, Tryd.ntmps72
    go_wp2_with fail
    refine HC.out.mono ?_
    rintro e w1 ⟨v1, rfl, ho1, b1⟩
    obtain ⟨g, c1, rfl, hg1, hg2⟩ := ho1.some hpos
    have HO1 := Lib.hid ho1
    have HB1 := Lib.hid b1
    clear ho1 b1 HC
    go_wp2
    go_loopw [9] (fun i wr => ∃ k : Nat, k ≤ L.length ∧ i = .int .i64 k ∧ OwnI cellE (fun j => if j < k then (fun b => w.heap.size ≤ b) else (fun b => b < w.heap.size)) wr w.heap.size 73 (.slice (some ⟨g, 0, none⟩) L.length c1) L ∧ Below w.heap.size w wr) (fun i _ => L.length - (intOf i).toNat)
    case atStart => exact ⟨0, Nat.zero_le _, rfl, HO1.out.each.keep (.refl _ _) (fun i b _ _ h => h), HB1.out⟩
    case round =>
      obtain ⟨k, hk, rfl, hown, hbw⟩ := hrel
      have HBW := Lib.hid hbw
      clear hbw
      by_cases hlt : k < L.length
      · have htl := HT.out k hlt
        have hs := set_same L zc k hlt
        obtain ⟨C, hC, hr⟩ := hown.at hlt
        obtain ⟨tv, rfl, hh⟩ := cell_rep.1 hr
        have hh : HeldE (intE .i32) _ wr tv (L.getD k zc).2 := hh
        have q0 : wr.cell? ⟨g, k * 2, none⟩ = some (.int .i64 (L.getD k zc).1) := (hC 0 (by decide)).1
        have q1 : wr.cell? ⟨g, k * 2 + 1, none⟩ = some tv := (hC 1 (by decide)).1
        have hglt : g < wr.heap.size := (hown.lt g rfl).2
        obtain ⟨⟨K, T⟩, hKT⟩ : ∃ y, y = L.getD k zc := ⟨_, rfl⟩
        rw [← hKT] at q0 hh hs htl
        simp only at q0 hh htl
        have HH := Lib.hid hh.ints
        have HS := Lib.hid hs
        have HOW := Lib.hid hown
        clear hown hC hr hKT hh hs
        obtain ⟨tz9, tc, rfl, _⟩ := HH.out.view
        have hb1 := (Below.refl wr.heap.size wr).alloc (Nat.le_refl _) (.cells #[.int .i64 K, .slice tz9 T.length tc] 73)
        have HCL := Lib.hid (clonec_any K _ T _ (HH.out.below hb1) htl)
        have HBX := Lib.hid hb1
        clear hb1
        go_wp2_with fail
        refine HCL.out.mono ?_
        rintro e w3 ⟨v3, rfl, hh3, b3⟩
        have hb4 : Below wr.heap.size wr w3 := HBX.out.trans (b3.mono HBX.out.size)
        have HO3 := Lib.hid (HOW.out.below hb4)
        have HB3 := Lib.hid (HBW.out.trans (hb4.mono HBW.out.size))
        have HH3 := Lib.hid (show cellE.rep (fun b => w.heap.size ≤ b ∧ b ≠ g) w3 [.int .i64 K, v3] (K, T) from cell_rep.2 ⟨_, rfl, hh3.zone (fun b _ h => by have := HBW.out.size; simp only [World.size_alloc] at h; exact ⟨by omega, by omega⟩)⟩)
        obtain ⟨a3, c3, rfl⟩ := hh3.len
        clear hh3 b3 hb4 q0 q1
        go_wp2_with (refine wpList_put_e (E := cellE) (Y := fun b => w.heap.size ≤ b) (i := k) rfl 73 (.tmp 18) (.tmp 17) rfl rfl rfl [.int .i64 K, .slice a3 T.length c3] rfl (by kernel_rfl) HO3.out hlt (K, T) HH3.out ?_)
        intro w4 ho4 hu4
        rw [HS.out] at ho4
        have HO4 := Lib.hid (ho4.keep (Yi := fun j => if j < k + 1 then (fun b => w.heap.size ≤ b) else (fun b => b < w.heap.size)) (.refl _ _) (fun i b _ _ h => by
          by_cases e : i = k
          · subst e; simp at h; simpa using h
          · simp only [if_neg e] at h
            by_cases e2 : i < k
            · simp only [if_pos e2] at h; simp only [if_pos (show i < k + 1 by omega)]; exact h
            · simp only [if_neg e2] at h; simp only [if_neg (show ¬ i < k + 1 by omega)]; exact h))
        have HB4 := Lib.hid (HB3.out.upd hu4 HB3.out.size (fun x e => by omega))
        clear ho4 hu4
        go_wp2
        go_roundw
        case rel => exact ⟨k + 1, by omega, by go_num, HO4.out, HB4.out⟩
        case measure => simp [intOf] <;> omega
      · obtain rfl : k = L.length := by omega
        have HO := Lib.hid (OwnI.all (Z := fun b => w.heap.size ≤ b) hown (fun i b hi _ h => by simpa [hi] using h))
        clear hown
        go_wp2
        go_ret
        exact ⟨_, rfl, HO.out, HBW.out⟩
end Go.Proofs.YtgndolgihplngaaDoor
/- The library's Grow and Concat of cells. -/
namespace Go.Proofs.YtgndolgihplngaaDoor
open Go.RowKit Go.ChangeShapes Go.WideShapes
def flatG {α : Type} (L : List (List α)) (k : Nat) : List α := (L.take k).flatten
theorem flatG_succ {α : Type} (L : List (List α)) (k : Nat) (h : k < L.length) : flatG L (k + 1) = flatG L k ++ L.getD k [] := by
  unfold flatG
  rw [List.take_succ_eq_append_getElem h, List.flatten_append]
  simp [List.getD, List.getElem?_eq_getElem h]
theorem flatG_le {α : Type} (L : List (List α)) : ∀ k, k ≤ L.length → (flatG L k).length ≤ (flatG L L.length).length := by
  have h : ∀ d k, k + d = L.length → (flatG L k).length ≤ (flatG L L.length).length := by
    intro d
    induction d with
    | zero => intro k e; have : k = L.length := by omega
              subst this; exact Nat.le_refl _
    | succ d ih =>
      intro k e
      have h1 := ih (k + 1) (by omega)
      rw [flatG_succ L k (by omega), List.length_append] at h1
      omega
  intro k hk
  exact h (L.length - k) k (by omega)
theorem flatG_all {α : Type} (L : List (List α)) : flatG L L.length = L.flatten := by unfold flatG; rw [List.take_length]
end Go.Proofs.YtgndolgihplngaaDoor
