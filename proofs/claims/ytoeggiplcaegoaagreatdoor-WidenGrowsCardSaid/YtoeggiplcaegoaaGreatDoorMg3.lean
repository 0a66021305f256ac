/- Texts put together: CloneC, CloneD, ErfB, ErfL, ErfS, RowC, RowO, ShfA. -/
import Derived.Test.YtoeggiplcaegoaaGreatDoorCellP
import Derived.Test.YtoeggiplcaegoaaGreatDoorMg1
import Derived.Test.YtoeggiplcaegoaaGreatDoorErfA
import Derived.Test.YtoeggiplcaegoaaGreatDoorRows
import Derived.LaidMore
import Derived.Test.YtoeggiplcaegoaaGreatDoorErrS
import Derived.Lib.AppendZeros
/- Package clone: cells with memory of their own. -/
namespace Go.Proofs.YtoeggiplcaegoaaGreatDoor
open Go.RowKit Go.ChangeShapes Go.WideShapes
theorem HeldE.ownedInts {B : Nat} {w : World} {n : Nat} {v : Value} {ty : TypeId} {xs : List Int} (h : w.ownsRow B ty 1 v n (xs.map (Value.int .i32))) : HeldE (intE .i32) (fun b => B ≤ b) w v xs := (ownE_ints (Z := fun b => B ≤ b) h).held fun _ hb _ => hb
/-- What a copy of a cell leaves. -/
def CloneOk (w : World) (K : Int) (T : List Int) (e : Ending) (w' : World) : Prop := ∃ tv', e = .returned (.agg #[.int .i64 K, tv']) ∧ HeldE (intE .i32) (fun b => w.heap.size ≤ b) w' tv' T ∧ Below w.heap.size w w'
def CloneOwn (w : World) (K : Int) (T : List Int) (e : Ending) (w' : World) : Prop := ∃ tv', e = .returned (.agg #[.int .i64 K, tv']) ∧ OwnE (intE .i32) (fun _ => True) w' w.heap.size 21 tv' T ∧ Below w.heap.size w w'
theorem OwnE.heldInts {B : Nat} {w : World} {Z : Zone} {v : Value} {ty : TypeId} {xs : List Int} (h : OwnE (intE .i32) Z w B ty v xs) : HeldE (intE .i32) (fun b => B ≤ b) w v xs := HeldE.ownedInts h.ints
theorem OwnE.anyInts {B : Nat} {w : World} {Z Y : Zone} {v : Value} {ty : TypeId} {xs : List Int} (h : OwnE (intE .i32) Z w B ty v xs) : OwnE (intE .i32) Y w B ty v xs := ownE_ints h.ints
set_option maxRecDepth 100000 in
set_option maxHeartbeats 800000 in
theorem clonec_own (K : Int) (tv : Value) (T : List Int) (w : World) (ht : Held .i32 w tv T) (hl : T.length ≤ 1000000000) : Calls Tryz.prog 153 #[.agg #[.int .i64 K, tv]] w (CloneOwn w K T) := by
  have HT := Lib.hid ht
  obtain ⟨ao, cap, rfl, _⟩ := ht.view
  clear ht
  obtain ⟨w2, hw2⟩ : ∃ w2, w2 = (w.alloc (.cells #[.int .i64 K, .slice ao T.length cap] 147)).alloc (.cells #[.int .i64 0, .slice none 0 0] 147) := ⟨_, rfl⟩
  have hb2 : Below w.heap.size w w2 := by rw [hw2]; exact ((Below.refl _ _).alloc (Nat.le_refl _) _).alloc (by simp) _
  have hs2 : w2.heap.size = w.heap.size + 2 := by rw [hw2]; simp
  have hg : Has w2 w.heap.size [.int .i64 K, .slice ao T.length cap] 147 := by rw [hw2]; exact (Has.new w _ _).alloc _
  have hr : Has w2 (w.heap.size + 1) [.int .i64 0, .slice none 0 0] 147 := by
    rw [hw2]
    have := Has.new (w.alloc (.cells #[.int .i64 K, .slice ao T.length cap] 147)) [.int .i64 0, .slice none 0 0] 147
    rw [World.size_alloc] at this
    exact this
  have HB2 := Lib.hid hb2
  have HS2 := Lib.hid hs2
  have HG := Lib.hid hg
  have HRR := Lib.hid hr
  have HC := Lib.hid (rclone_any _ T w2 (HT.out.below hb2) hl)
  rw [hw2] at HC
  have HW2 := Lib.hid hw2
  clear hw2 hb2 hs2 hg hr
  go_enter Tryz.func153, Tryz.ntmps153
  go_wp2_with fail
  refine HC.out.mono ?_
  rintro e w3 ⟨v5, rfl, ho5, b5⟩
  rw [← HW2.out] at ho5 b5
  have hs3 : w.heap.size + 2 ≤ w3.heap.size := by rw [← HS2.out]; exact b5.size
  have g3 := HG.out.below b5 HG.out.lt
  have r3 := HRR.out.below b5 HRR.out.lt
  have c0 := g3.cell 0 _ rfl
  have c1 := g3.cell 1 _ rfl
  have f0 := g3.free 0
  have f1 := g3.free 1
  have d0 := r3.cell 0 _ rfl
  have d1 := r3.cell 1 _ rfl
  have e0 := r3.free 0
  have e1 := r3.free 1
  have HO := Lib.hid (ownE_ints (Z := fun _ => False) ho5)
  have HH := Lib.hid (HeldE.ownedInts ho5)
  have HB5 := Lib.hid (HB2.out.trans (b5.mono HB2.out.size))
  have HSZ := Lib.hid hs3
  obtain ⟨a5, c5, e5⟩ := HH.out.len
  clear ho5 b5 g3 r3 hs3
  subst e5
  go_wp2
  refine bodyPost_ret (v := .agg #[.int .i64 K, .slice a5 T.length c5]) (by simp [results, Tryz.results153, go_sem, c0, c1, f0, f1, d0, d1, e0, e1]) rfl ⟨_, rfl, ?_, ?_⟩
  · exact OwnE.anyInts (OwnE.base (OwnE.upd HO.out (((((Upd.refl (fun b => b < w.heap.size + 2) w3).setCell (.inl (by simp)) _).setCell (.inl (by simp)) _).setCell (.inl (by simp)) _)) (fun b h k => by
      rcases h with h | h
      · exact h
      · have := (HO.out.lt b h).1
        rw [HS2.out] at this
        omega)) (by rw [HS2.out]; omega))
  · exact (((HB5.out.setCell (by simp) _).setCell (by simp) _).setCell (by simp) _)
theorem clonec_any (K : Int) (tv : Value) (T : List Int) (w : World) (ht : Held .i32 w tv T) (hl : T.length ≤ 1000000000) : Calls Tryz.prog 153 #[.agg #[.int .i64 K, tv]] w (CloneOk w K T) :=
  (clonec_own K tv T w ht hl).mono fun _ _ ⟨v, e, h, b⟩ => ⟨v, e, h.heldInts, b⟩
end Go.Proofs.YtoeggiplcaegoaaGreatDoor
/- clone.Cells. -/
namespace Go.Proofs.YtoeggiplcaegoaaGreatDoor
open Go.RowKit Go.ChangeShapes Go.WideShapes
theorem OwnE.some {α : Type} {E : Elem α} {Z : Zone} {w : World} {B : Nat} {ty : TypeId} {v : Value} {L : List α} (h : OwnE E Z w B ty v L) (hl : 0 < L.length) : ∃ g cap, v = .slice (some ⟨g, 0, none⟩) L.length cap ∧ B ≤ g ∧ g < w.heap.size := by
  obtain ⟨CS, h1, _⟩ := h
  rcases h1.2 with ⟨rfl, h0⟩ | ⟨g, cap, cur, rfl, hB, hg, _⟩
  · omega
  · exact ⟨g, cap, rfl, hB, (Array.getElem?_eq_some_iff.1 hg).1⟩
theorem OwnE.zone {α : Type} {E : Elem α} {Z Y : Zone} {w : World} {B : Nat} {ty : TypeId} {v : Value} {L : List α} (h : OwnE E Z w B ty v L) (hy : ∀ b, b < w.heap.size → Z b → Y b) : OwnE E Y w B ty v L := h.keep (.refl _ _) hy
set_option maxRecDepth 100000 in
theorem scclone_any (v : Value) (L : List Cl) (w : World) (hv : HeldE cellE (fun b => b < w.heap.size) w v L) (hl : L.length ≤ 1000000) : Calls Tryz.prog 193 #[v] w (MadeE cellE (fun b => b < w.heap.size) 147 w L) := by
  obtain ⟨ao, cap, rfl⟩ := hv.len
  cases ao with
  | none =>
    obtain ⟨rfl, _, rfl⟩ := hv.nilL
    clear hv
    have q := fun w => run_eql_slice_nil (P := Tryz.prog) w 102 147 none 0 0 Tryz.underlying102
    go_enter Tryz.func193, Tryz.ntmps193
    go_wp2
    go_ret
    exact ⟨_, rfl, OwnE.nil _ _ _ _ _, Below.refl _ _⟩
  | some a =>
    have hb := (Below.refl w.heap.size w).alloc (Nat.le_refl _) (.cells #[] 147)
    have HE := Lib.hid (OwnE.fresh0 (E := cellE) (Z := fun b => b < w.heap.size) w 147 (Nat.le_refl w.heap.size))
    have hlo := HE.out.lt
    have HU := Lib.hid (show HeldE cellE (fun b => b < w.heap.size ∧ _ ≠ some b) _ _ L from (hv.below hb).zone (fun b _ hz => ⟨hz, fun e => by have := (hlo b e).1; omega⟩))
    have HB := Lib.hid hb
    clear hv hb hlo
    have q := fun w => run_eql_slice_nil (P := Tryz.prog) w 102 147 (some a) L.length cap Tryz.underlying102
    go_enter Tryz.func193, Tryz.ntmps193
    go_wp2_with (at_builtin; refine wpList_append_e (E := cellE) (Z := fun b => b < w.heap.size) rfl (.tmp 5) (.tmp 6) 102 rfl (.agg #[.int .i64 0, .slice none 0 0]) 32 Tryz.underlying102 info_cell rfl (by decide) rfl rfl HE.out HU.out (by simp; omega) (by simp; omega) HB.out.size ?_)
    intro v2 w2 ho2 hb2 _ _
    have H2 := Lib.hid ho2
    have B2 := Lib.hid (HB.out.trans hb2)
    clear ho2 hb2
    go_wp2
    go_ret
    exact ⟨_, rfl, by simpa using H2.out, B2.out⟩
theorem set_same {α : Type} (l : List α) (d : α) (k : Nat) (h : k < l.length) : l.set k (l.getD k d) = l := by
  apply List.ext_getElem?
  intro i
  by_cases e : i = k
  · subst e
    rw [List.getElem?_set_self h]
    simp [List.getD, List.getElem?_eq_getElem h]
  · rw [List.getElem?_set_ne (Ne.symm e)]
set_option maxRecDepth 100000 in
set_option maxHeartbeats 1600000 in
theorem clonecs_any (Z : Zone) (v : Value) (L : List Cl) (w : World) (hv : HeldE cellE Z w v L) (hl : L.length ≤ 1000000) (ht : ∀ k, k < L.length → (L.getD k zc).2.length ≤ 1000000000) :
    Calls Tryz.prog 135 #[v] w (MadeE cellE (fun b => w.heap.size ≤ b) 147 w L) := by
  have HC := Lib.hid (scclone_any v L w hv.lower hl)
  have HT := Lib.hid ht
  obtain ⟨ao, cap, rfl⟩ := hv.len
  clear hv ht
  by_cases h0 : L.length = 0
  · obtain rfl : L = [] := List.eq_nil_of_length_eq_zero h0
    clear h0 hl
    go_enter Tryz.func135, Tryz.ntmps135
    go_wp2_with fail
    refine HC.out.mono ?_
    rintro e w1 ⟨v1, rfl, ho1, b1⟩
    obtain ⟨a1, c1, rfl⟩ := ((ho1.zone (Y := fun _ => True) (fun _ _ _ => trivial)).held (fun _ _ _ => trivial)).len
    have HO := Lib.hid (OwnI.all (Z := fun b => w.heap.size ≤ b) ho1.each (fun i b hi => absurd hi (Nat.not_lt_zero _)))
    have HB := Lib.hid b1
    clear ho1 b1
    simp only [List.length_nil]
    go_wp2
    go_loopw [9] (fun i wr => i = .int .i64 0 ∧ wr = w1) (fun i _ => 0)
    case atStart => exact ⟨rfl, (by first | rfl | trivial)⟩
    case round =>
      obtain ⟨rfl, hww⟩ := hrel
      subst hww
      go_wp2
      go_ret
      exact ⟨_, rfl, HO.out, HB.out⟩
  · have hpos : 0 < L.length := by omega
    clear h0
    go_enter Tryz.func135, Tryz.ntmps135
    go_wp2_with fail
    refine HC.out.mono ?_
    rintro e w1 ⟨v1, rfl, ho1, b1⟩
    obtain ⟨g, c1, rfl, hg1, hg2⟩ := ho1.some hpos
    have HO1 := Lib.hid ho1
    have HB1 := Lib.hid b1
    clear ho1 b1 HC
    go_wp2
    go_loopw [9] (fun i wr => ∃ k : Nat, k ≤ L.length ∧ i = .int .i64 k ∧ OwnI cellE (fun j => if j < k then (fun b => w.heap.size ≤ b) else (fun b => b < w.heap.size)) wr w.heap.size 147 (.slice (some ⟨g, 0, none⟩) L.length c1) L ∧ Below w.heap.size w wr) (fun i _ => L.length - (intOf i).toNat)
    case atStart => exact ⟨0, Nat.zero_le _, rfl, HO1.out.each.keep (.refl _ _) (fun i b _ _ h => h), HB1.out⟩
    case round =>
      obtain ⟨k, hk, rfl, hown, hbw⟩ := hrel
      have HBW := Lib.hid hbw
      clear hbw
      by_cases hlt : k < L.length
      · have htl := HT.out k hlt
        have hs := set_same L zc k hlt
        obtain ⟨C, hC, hr⟩ := hown.at hlt
        obtain ⟨tv, rfl, hh⟩ := cell_rep.1 hr
        have hh : HeldE (intE .i32) _ wr tv (L.getD k zc).2 := hh
        have q0 : wr.cell? ⟨g, k * 2, none⟩ = some (.int .i64 (L.getD k zc).1) := (hC 0 (by decide)).1
        have q1 : wr.cell? ⟨g, k * 2 + 1, none⟩ = some tv := (hC 1 (by decide)).1
        have hglt : g < wr.heap.size := (hown.lt g rfl).2
        obtain ⟨⟨K, T⟩, hKT⟩ : ∃ y, y = L.getD k zc := ⟨_, rfl⟩
        rw [← hKT] at q0 hh hs htl
        simp only at q0 hh htl
        have HH := Lib.hid hh.ints
        have HS := Lib.hid hs
        have HOW := Lib.hid hown
        clear hown hC hr hKT hh hs
        obtain ⟨tz9, tc, rfl, _⟩ := HH.out.view
        have hb1 := (Below.refl wr.heap.size wr).alloc (Nat.le_refl _) (.cells #[.int .i64 K, .slice tz9 T.length tc] 147)
        have HCL := Lib.hid (clonec_any K _ T _ (HH.out.below hb1) htl)
        have HBX := Lib.hid hb1
        clear hb1
        go_wp2_with fail
        refine HCL.out.mono ?_
        rintro e w3 ⟨v3, rfl, hh3, b3⟩
        have hb4 : Below wr.heap.size wr w3 := HBX.out.trans (b3.mono HBX.out.size)
        have HO3 := Lib.hid (HOW.out.below hb4)
        have HB3 := Lib.hid (HBW.out.trans (hb4.mono HBW.out.size))
        have HH3 := Lib.hid (show cellE.rep (fun b => w.heap.size ≤ b ∧ b ≠ g) w3 [.int .i64 K, v3] (K, T) from cell_rep.2 ⟨_, rfl, hh3.zone (fun b _ h => by have := HBW.out.size; simp only [World.size_alloc] at h; exact ⟨by omega, by omega⟩)⟩)
        obtain ⟨a3, c3, rfl⟩ := hh3.len
        clear hh3 b3 hb4 q0 q1
        go_wp2_with (refine wpList_put_e (E := cellE) (Y := fun b => w.heap.size ≤ b) (i := k) rfl 147 (.tmp 18) (.tmp 17) rfl rfl rfl [.int .i64 K, .slice a3 T.length c3] rfl (by kernel_rfl) HO3.out hlt (K, T) HH3.out ?_)
        intro w4 ho4 hu4
        rw [HS.out] at ho4
        have HO4 := Lib.hid (ho4.keep (Yi := fun j => if j < k + 1 then (fun b => w.heap.size ≤ b) else (fun b => b < w.heap.size)) (.refl _ _) (fun i b _ _ h => by
          by_cases e : i = k
          · subst e; simp at h; simpa using h
          · simp only [if_neg e] at h
            by_cases e2 : i < k
            · simp only [if_pos e2] at h; simp only [if_pos (show i < k + 1 by omega)]; exact h
            · simp only [if_neg e2] at h; simp only [if_neg (show ¬ i < k + 1 by omega)]; exact h))
        have HB4 := Lib.hid (HB3.out.upd hu4 HB3.out.size (fun x e => by omega))
        clear ho4 hu4
        go_wp2
        go_roundw
        case rel => exact ⟨k + 1, by omega, by go_num, HO4.out, HB4.out⟩
        case measure => simp [intOf] <;> omega
      · obtain rfl : k = L.length := by omega
        have HO := Lib.hid (OwnI.all (Z := fun b => w.heap.size ≤ b) hown (fun i b hi _ h => by simpa [hi] using h))
        clear hown
        go_wp2
        go_ret
        exact ⟨_, rfl, HO.out, HBW.out⟩
end Go.Proofs.YtoeggiplcaegoaaGreatDoor
/- api.At and api.Within: the places of an error's faults. -/
namespace Go.Proofs.YtoeggiplcaegoaaGreatDoor.F
open Go.RowKit

theorem Handle.keep {w w' : World} (h : Handle w) (hb : Below w.heap.size w w') : Handle w' := (hb.cell (p := ⟨8, 0, none⟩) (World.block_lt_of_cell? _ _ h)).trans h
end Go.Proofs.YtoeggiplcaegoaaGreatDoor.F
/- From what a row lists to where it lies. -/
namespace Go.Proofs.YtoeggiplcaegoaaGreatDoor.F
open Go.RowKit Go.ChangeShapes

end Go.Proofs.YtoeggiplcaegoaaGreatDoor.F
/- The eight errors' places, as the texts of faults (F) and those without them say it. -/
namespace Go.Proofs.YtoeggiplcaegoaaGreatDoor
open Go.RowKit Go.ChangeShapes Go.WideShapes
end Go.Proofs.YtoeggiplcaegoaaGreatDoor
/- Rows: what one is in memory; New, Wide, Cell, Cells, Wrap, GoOn, Copy. -/
namespace Go.Proofs.YtoeggiplcaegoaaGreatDoor
open Go.RowKit Go.ChangeShapes Go.WideShapes
/-- The row at block g, its cells at block gc; what its cells lead to lies in the zone. -/
def RowAt (Z : Zone) (w : World) (B g gc : Nat) (L : List Cl) (wrap : Bool) : Prop :=
  ∃ cap, Has w g [.slice (some ⟨gc, 0, none⟩) L.length cap, .bool wrap] 187 ∧ B ≤ g ∧ gc ≠ g ∧ OwnE cellE (fun b => Z b ∧ b ≠ g) w B 147 (.slice (some ⟨gc, 0, none⟩) L.length cap) L ∧ 0 < L.length ∧ L.length ≤ 1024 ∧ soundB L = true
section
variable {Z Y S : Zone} {w w' : World} {B g gc : Nat} {L : List Cl} {wrap : Bool}
theorem RowAt.lt (h : RowAt Z w B g gc L wrap) : g < w.heap.size ∧ gc < w.heap.size ∧ B ≤ gc ∧ B ≤ g := by
  obtain ⟨cap, h1, h2, h3, h4, h5, _⟩ := h
  exact ⟨h1.lt, (h4.lt gc rfl).2, (h4.lt gc rfl).1, h2⟩
theorem RowAt.keep (h : RowAt Z w B g gc L wrap) (hk : KeepZ (fun b => Z b ∨ b = g ∨ b = gc) w w') (hy : ∀ b, b < w.heap.size → Z b → Y b) : RowAt Y w' B g gc L wrap := by
  obtain ⟨cap, h1, h2, h3, h4, h5⟩ := h
  refine ⟨cap, hk.has h1 (.inr (.inl rfl)), h2, h3, h4.keep (hk.mono fun b _ hz => ?_) (fun b hb hz => ⟨hy b hb hz.1, hz.2⟩), h5⟩
  rcases hz with hz | hz
  · exact .inl hz.1
  · exact .inr (.inr (by simpa [Value.ownBlock] using hz.symm))
theorem RowAt.below (h : RowAt Z w B g gc L wrap) (hb : Below w.heap.size w w') : RowAt Z w' B g gc L wrap := h.keep (.all hb _) fun _ _ h => h
theorem RowAt.upd (h : RowAt Z w B g gc L wrap) (hu : Upd S w w') (hz : ∀ b, Z b → ¬ S b) (hg : ¬ S g) (hgc : ¬ S gc) : RowAt Z w' B g gc L wrap :=
  h.keep (hu.keep.mono fun b _ hb => by rcases hb with hb | rfl | rfl; exact hz b hb; exact hg; exact hgc) fun _ _ h => h
theorem RowAt.base (h : RowAt Z w B g gc L wrap) {B' : Nat} (hb : B' ≤ B) : RowAt Z w B' g gc L wrap := by
  obtain ⟨cap, h1, h2, h3, h4, h5⟩ := h
  exact ⟨cap, h1, by omega, h3, h4.base hb, h5⟩
theorem RowAt.len (h : RowAt Z w B g gc L wrap) : 0 < L.length ∧ L.length ≤ 1024 ∧ soundB L = true := by
  obtain ⟨cap, _, _, _, _, h5⟩ := h
  exact h5
theorem RowAt.held (h : RowAt Z w B g gc L wrap) : ∃ cap, Has w g [.slice (some ⟨gc, 0, none⟩) L.length cap, .bool wrap] 187 ∧ HeldE cellE (fun b => True) w (.slice (some ⟨gc, 0, none⟩) L.length cap) L := by
  obtain ⟨cap, h1, h2, h3, h4, h5⟩ := h
  exact ⟨cap, h1, (h4.zone (Y := fun _ => True) (fun _ _ _ => trivial)).held fun _ _ _ => trivial⟩
end
theorem sound_right {L : List Cl} (h : soundB L = true) : ∀ k, k < L.length → rightB (L.getD k zc) = true := by
  intro k hk
  rw [sound_iff] at h
  have := okTo_at hk h
  unfold okAt at this
  simp only [Bool.and_eq_true] at this
  exact this.1.1
theorem right_short {c : Cl} (h : rightB c = true) : c.2.length ≤ 16 := by
  obtain ⟨k, t⟩ := c
  unfold rightB at h
  split at h
  · simp at h; simp [h]
  · simp only [Bool.and_eq_true, decide_eq_true_eq] at h
    exact h.1.2
theorem sound_short {L : List Cl} (h : soundB L = true) : ∀ k, k < L.length → (L.getD k zc).2.length ≤ 1000000000 := fun k hk => by have := right_short (sound_right h k hk); omega
/-- What hands back a new row. -/
def RowMade (Z : Zone) (w : World) (L : List Cl) (wrap : Bool) (e : Ending) (w' : World) : Prop := ∃ g gc, e = .returned (.pointer (some ⟨g, 0, none⟩)) ∧ RowAt Z w' w.heap.size g gc L wrap ∧ Below w.heap.size w w'
/-- A row laid behind its cells. -/
theorem row_new {Z : Zone} {w : World} {B : Nat} {v : Value} {L : List Cl} {wrap : Bool} (h : OwnE cellE Z w B 147 v L) (hB : B ≤ w.heap.size) (h0 : 0 < L.length) (h1 : L.length ≤ 1024) (hs : soundB L = true) : ∃ gc, RowAt Z (w.alloc (.cells #[v, .bool wrap] 187)) B w.heap.size gc L wrap := by
  obtain ⟨gc, cap, rfl, hg1, hg2⟩ := h.some h0
  refine ⟨gc, cap, Has.new w _ _, hB, by omega, (h.keep (Y := fun b => Z b ∧ b ≠ w.heap.size) (.all ((Below.refl _ _).alloc (Nat.le_refl _) _) _) (fun b hb hz => ⟨hz, by omega⟩)), h0, h1, hs⟩
theorem blank_sound (m : Nat) : soundB (List.replicate m zc) = true := by
  unfold soundB
  induction m with
  | zero => rfl
  | succ m ih => rw [List.replicate_succ]; show (true && true && soundF false _) = true; rw [ih]; rfl
def rowN (n : Int) : Nat := (min (max n 1) 1024).toNat
theorem blankN_row (n : Int) : blankN (max n 1) = rowN n ∧ 0 < rowN n ∧ rowN n ≤ 1024 ∧ max 1 (min n 1024) = (rowN n : Int) := by unfold blankN rowN; omega
set_option maxRecDepth 100000 in
theorem rnew_any (Z : Zone) (n : Int) (w : World) : Calls Tryz.prog 155 #[.int .i64 n] w (RowMade Z w (List.replicate (rowN n) zc) false) := by
  have HB := Lib.hid (blanks_any Z (max n 1) w)
  obtain ⟨h1, h2, h3, _⟩ := blankN_row n
  rw [h1] at HB
  clear h1
  go_enter Tryz.func155, Tryz.ntmps155
  go_wp2_with fail
  refine HB.out.mono ?_
  rintro e w1 ⟨v1, rfl, ho1, b1⟩
  obtain ⟨gc0, cap0, rfl, _, _⟩ := ho1.some (by simp; omega)
  obtain ⟨gc, hr⟩ := row_new (wrap := false) ho1 b1.size (by simp; omega) (by simp; omega) (blank_sound _)
  rw [List.length_replicate] at hr ⊢
  have HR := Lib.hid hr
  have HB1 := Lib.hid b1
  clear ho1 b1 hr
  go_wp2
  go_ret
  exact ⟨_, gc, rfl, HR.out, HB1.out.alloc HB1.out.size _⟩
theorem rwide_any (Z : Zone) (B g gc : Nat) (L : List Cl) (wrap : Bool) (w : World) (h : RowAt Z w B g gc L wrap) : Calls Tryz.prog 70 #[.pointer (some ⟨g, 0, none⟩)] w fun e w' => e = .returned (.int .i64 L.length) ∧ w = w' := by
  obtain ⟨cap, h1, _⟩ := h.held
  have c0 := h1.cell 0 _ rfl
  clear h h1
  go_enter Tryz.func70, Tryz.ntmps70
  go_wp2
  go_ret
  exact ⟨rfl, rfl⟩
theorem rwrap_any (Z : Zone) (B g gc : Nat) (L : List Cl) (wrap : Bool) (w : World) (h : RowAt Z w B g gc L wrap) : Calls Tryz.prog 63 #[.pointer (some ⟨g, 0, none⟩)] w fun e w' => e = .returned (.bool wrap) ∧ w = w' := by
  obtain ⟨cap, h1, _⟩ := h.held
  have c1 := h1.cell 1 _ rfl
  clear h h1
  go_enter Tryz.func63, Tryz.ntmps63
  go_wp2
  go_ret
  exact ⟨rfl, rfl⟩
set_option maxRecDepth 100000 in
theorem rcells_any (Z : Zone) (B g gc : Nat) (L : List Cl) (wrap : Bool) (w : World) (h : RowAt Z w B g gc L wrap) : Calls Tryz.prog 96 #[.pointer (some ⟨g, 0, none⟩)] w (MadeE cellE (fun b => w.heap.size ≤ b) 147 w L) := by
  obtain ⟨_, hl, hs⟩ := h.len
  obtain ⟨cap, h1, h2⟩ := h.held
  have HC := Lib.hid (clonecs_any _ _ L w h2 (by omega) (sound_short hs))
  have c0 := h1.cell 0 _ rfl
  clear h h1 h2 hs
  go_enter Tryz.func96, Tryz.ntmps96
  go_wp2_with fail
  refine HC.out.mono ?_
  rintro e w1 ⟨v1, rfl, ho1, b1⟩
  go_wp2
  go_ret
  exact ⟨_, rfl, ho1, b1⟩
theorem rgoon_nil (b : Bool) (w : World) : Calls Tryz.prog 71 #[.pointer none, .bool b] w fun e w' => e = .returned (.tuple #[]) ∧ w = w' := by
  go_enter Tryz.func71, Tryz.ntmps71
  go_wp2
  exact bodyPost_end (by kernel_rfl) rfl ⟨rfl, rfl⟩
def RowTurned (Z : Zone) (w : World) (B g gc : Nat) (L : List Cl) (wrap : Bool) (e : Ending) (w' : World) : Prop := e = .returned (.tuple #[]) ∧ RowAt Z w' B g gc L wrap ∧ Upd (fun b => b = g ∨ b = gc) w w'
theorem rgoon_any (Z : Zone) (B g gc : Nat) (L : List Cl) (wrap b : Bool) (w : World) (h : RowAt Z w B g gc L wrap) : Calls Tryz.prog 71 #[.pointer (some ⟨g, 0, none⟩), .bool b] w (RowTurned Z w B g gc L b) := by
  obtain ⟨cap, h1, h2, h3, h4, h5⟩ := h
  have hu := (Upd.refl (fun b => b = g) w).setCell (p := ⟨g, 1, none⟩) (.inl rfl) (.bool b)
  have hp : RowTurned Z w B g gc L b (.returned (.tuple #[])) (w.setCell ⟨g, 1, none⟩ (.bool b)) := by
    refine ⟨rfl, ⟨cap, ?_, h2, h3, h4.upd hu (fun b hb => ?_), h5⟩, hu.mono fun b _ h => .inl h⟩
    · have := h1.set 1 (.bool b)
      simpa using this
    · rcases hb with hb | hb
      · exact hb.2
      · have : gc = b := by simpa [Value.ownBlock] using hb
        subst this; exact h3
  have HP := Lib.hid hp
  have c1 := h1.cell 1 _ rfl
  have f1 := h1.free 1
  clear h1 h2 h3 h4 h5 hu hp
  go_enter Tryz.func71, Tryz.ntmps71
  go_wp2
  exact bodyPost_end (by kernel_rfl) rfl HP.out
end Go.Proofs.YtoeggiplcaegoaaGreatDoor
/- Row.Copy, row.Of. -/
namespace Go.Proofs.YtoeggiplcaegoaaGreatDoor
open Go.RowKit Go.ChangeShapes Go.WideShapes
section
variable (sa : Nat → Addr) (Y : Zone) (L : List Cl) (v : Value) (w : World)
def RowOf (e : Ending) (w' : World) : Prop := ∃ g gc, e = .returned (.tuple #[.pointer (some ⟨g, 0, none⟩), .nilIface]) ∧ RowAt (fun b => w.heap.size ≤ b) w' w.heap.size g gc L false ∧ Below w.heap.size w w'
set_option maxRecDepth 100000 in
theorem rof_ok (hv : HeldE cellE Y w v L) (h0 : 0 < L.length) (h1 : L.length ≤ 1024) (hsd : soundB L = true) : Calls Tryz.prog 68 #[v] w (RowOf L w) := by
  have HSD := Lib.hid (sound_any _ _ _ _ hv)
  rw [hsd] at HSD
  have HV := Lib.hid hv
  have HSS := Lib.hid hsd
  obtain ⟨ao, pc, rfl⟩ := hv.len
  clear hv hsd
  have hz : ((L.length : Int) == 0) = false := by rw [beq_eq_false_iff_ne]; omega
  go_enter Tryz.func68, Tryz.ntmps68
  go_wp2_with fail
  refine HSD.out.mono ?_
  rintro e w2 ⟨rfl, b2⟩
  have B2 := Lib.hid b2
  clear b2
  go_wp2_with fail
  refine (clonecs_any _ _ L w2 (HV.out.below B2.out) (by omega) (sound_short HSS.out)).mono ?_
  rintro e w3 ⟨v3, rfl, ho3, b3⟩
  have B3 := Lib.hid (B2.out.trans (b3.mono B2.out.size))
  have ho3 := (ho3.base B2.out.size).zone (Y := fun b => w.heap.size ≤ b) (fun b _ k => Nat.le_trans B2.out.size k)
  obtain ⟨gc0, cap0, rfl, _, _⟩ := ho3.some h0
  obtain ⟨gc, hr⟩ := row_new (wrap := false) ho3 B3.out.size h0 h1 HSS.out
  have HR := Lib.hid hr
  clear ho3 b3 hr
  go_wp2
  go_ret2
  exact ⟨_, gc, rfl, HR.out, B3.out.alloc B3.out.size _⟩
end
end Go.Proofs.YtoeggiplcaegoaaGreatDoor
/- The library's Grow and Concat of cells. -/
namespace Go.Proofs.YtoeggiplcaegoaaGreatDoor
open Go.RowKit Go.ChangeShapes Go.WideShapes
def flatG {α : Type} (L : List (List α)) (k : Nat) : List α := (L.take k).flatten
theorem flatG_succ {α : Type} (L : List (List α)) (k : Nat) (h : k < L.length) : flatG L (k + 1) = flatG L k ++ L.getD k [] := by
  unfold flatG
  rw [List.take_succ_eq_append_getElem h, List.flatten_append]
  simp [List.getD, List.getElem?_eq_getElem h]
theorem flatG_le {α : Type} (L : List (List α)) : ∀ k, k ≤ L.length → (flatG L k).length ≤ (flatG L L.length).length := by
  have h : ∀ d k, k + d = L.length → (flatG L k).length ≤ (flatG L L.length).length := by
    intro d
    induction d with
    | zero => intro k e; have : k = L.length := by omega
              subst this; exact Nat.le_refl _
    | succ d ih =>
      intro k e
      have h1 := ih (k + 1) (by omega)
      rw [flatG_succ L k (by omega), List.length_append] at h1
      omega
  intro k hk
  exact h (L.length - k) k (by omega)
theorem flatG_all {α : Type} (L : List (List α)) : flatG L L.length = L.flatten := by unfold flatG; rw [List.take_length]
end Go.Proofs.YtoeggiplcaegoaaGreatDoor
