/- Texts put together: CloneC, CloneD, ErfB, ErfL, ErfS, RowC, RowO, ShfA, TabM, TabW. -/
import Derived.Test.YtoeggiplcaegoaaGreatDoorCellP
import Derived.Test.YtoeggiplcaegoaaGreatDoorMg1
import Derived.Test.YtoeggiplcaegoaaGreatDoorErfA
import Derived.Test.YtoeggiplcaegoaaGreatDoorRows
import Derived.LaidMore
import Derived.Test.YtoeggiplcaegoaaGreatDoorErrS
import Derived.Lib.AppendZeros
import Derived.Test.YtoeggiplcaegoaaGreatDoorTabG
import Derived.Test.YtoeggiplcaegoaaGreatDoorMg3
/- Package clone: cells with memory of their own. -/
namespace Go.Proofs.YtoeggiplcaegoaaGreatDoor
open Go.RowKit Go.ChangeShapes Go.WideShapes
theorem HeldE.ownedInts {B : Nat} {w : World} {n : Nat} {v : Value} {ty : TypeId} {xs : List Int} (h : w.ownsRow B ty 1 v n (xs.map (Value.int .i32))) : HeldE (intE .i32) (fun b => B ≤ b) w v xs := (ownE_ints (Z := fun b => B ≤ b) h).held fun _ hb _ => hb
/-- What a copy of a cell leaves. -/
def CloneOk (w : World) (K : Int) (T : List Int) (e : Ending) (w' : World) : Prop := ∃ tv', e = .returned (.agg #[.int .i64 K, tv']) ∧ HeldE (intE .i32) (fun b => w.heap.size ≤ b) w' tv' T ∧ Below w.heap.size w w'
def CloneOwn (w : World) (K : Int) (T : List Int) (e : Ending) (w' : World) : Prop := ∃ tv', e = .returned (.agg #[.int .i64 K, tv']) ∧ OwnE (intE .i32) (fun _ => True) w' w.heap.size 21 tv' T ∧ Below w.heap.size w w'
theorem OwnE.heldInts {B : Nat} {w : World} {Z : Zone} {v : Value} {ty : TypeId} {xs : List Int} (h : OwnE (intE .i32) Z w B ty v xs) : HeldE (intE .i32) (fun b => B ≤ b) w v xs := HeldE.ownedInts h.ints
theorem OwnE.anyInts {B : Nat} {w : World} {Z Y : Zone} {v : Value} {ty : TypeId} {xs : List Int} (h : OwnE (intE .i32) Z w B ty v xs) : OwnE (intE .i32) Y w B ty v xs := ownE_ints h.ints
set_option maxRecDepth 100000 in
set_option maxHeartbeats 800000 in
theorem clonec_own (K : Int) (tv : Value) (T : List Int) (w : World) (ht : Held .i32 w tv T) (hl : T.length ≤ 1000000000) : Calls Tryz.prog 153 #[.agg #[.int .i64 K, tv]] w (CloneOwn w K T) := by
  have HT := Lib.hid ht
  obtain ⟨ao, cap, rfl, _⟩ := ht.view
  clear ht
  obtain ⟨w2, hw2⟩ : ∃ w2, w2 = (w.alloc (.cells #[.int .i64 K, .slice ao T.length cap] 147)).alloc (.cells #[.int .i64 0, .slice none 0 0] 147) := ⟨_, rfl⟩
  have hb2 : Below w.heap.size w w2 := by rw [hw2]; exact ((Below.refl _ _).alloc (Nat.le_refl _) _).alloc (by simp) _
  have hs2 : w2.heap.size = w.heap.size + 2 := by rw [hw2]; simp
  have hg : Has w2 w.heap.size [.int .i64 K, .slice ao T.length cap] 147 := by rw [hw2]; exact (Has.new w _ _).alloc _
  have hr : Has w2 (w.heap.size + 1) [.int .i64 0, .slice none 0 0] 147 := by
    rw [hw2]
    have := Has.new (w.alloc (.cells #[.int .i64 K, .slice ao T.length cap] 147)) [.int .i64 0, .slice none 0 0] 147
    rw [World.size_alloc] at this
    exact this
  have HB2 := Lib.hid hb2
  have HS2 := Lib.hid hs2
  have HG := Lib.hid hg
  have HRR := Lib.hid hr
  have HC := Lib.hid (rclone_any _ T w2 (HT.out.below hb2) hl)
  rw [hw2] at HC
  have HW2 := Lib.hid hw2
  clear hw2 hb2 hs2 hg hr
  go_enter Tryz.func153, Tryz.ntmps153
  go_wp2_with fail
  refine HC.out.mono ?_
  rintro e w3 ⟨v5, rfl, ho5, b5⟩
  rw [← HW2.out] at ho5 b5
  have hs3 : w.heap.size + 2 ≤ w3.heap.size := by rw [← HS2.out]; exact b5.size
  have g3 := HG.out.below b5 HG.out.lt
  have r3 := HRR.out.below b5 HRR.out.lt
  have c0 := g3.cell 0 _ rfl
  have c1 := g3.cell 1 _ rfl
  have f0 := g3.free 0
  have f1 := g3.free 1
  have d0 := r3.cell 0 _ rfl
  have d1 := r3.cell 1 _ rfl
  have e0 := r3.free 0
  have e1 := r3.free 1
  have HO := Lib.hid (ownE_ints (Z := fun _ => False) ho5)
  have HH := Lib.hid (HeldE.ownedInts ho5)
  have HB5 := Lib.hid (HB2.out.trans (b5.mono HB2.out.size))
  have HSZ := Lib.hid hs3
  obtain ⟨a5, c5, e5⟩ := HH.out.len
  clear ho5 b5 g3 r3 hs3
  subst e5
  go_wp2
  refine bodyPost_ret (v := .agg #[.int .i64 K, .slice a5 T.length c5]) (by simp [results, Tryz.results153, go_sem, c0, c1, f0, f1, d0, d1, e0, e1]) rfl ⟨_, rfl, ?_, ?_⟩
  · exact OwnE.anyInts (OwnE.base (OwnE.upd HO.out (((((Upd.refl (fun b => b < w.heap.size + 2) w3).setCell (.inl (by simp)) _).setCell (.inl (by simp)) _).setCell (.inl (by simp)) _)) (fun b h k => by
      rcases h with h | h
      · exact h
      · have := (HO.out.lt b h).1
        rw [HS2.out] at this
        omega)) (by rw [HS2.out]; omega))
  · exact (((HB5.out.setCell (by simp) _).setCell (by simp) _).setCell (by simp) _)
theorem clonec_any (K : Int) (tv : Value) (T : List Int) (w : World) (ht : Held .i32 w tv T) (hl : T.length ≤ 1000000000) : Calls Tryz.prog 153 #[.agg #[.int .i64 K, tv]] w (CloneOk w K T) :=
  (clonec_own K tv T w ht hl).mono fun _ _ ⟨v, e, h, b⟩ => ⟨v, e, h.heldInts, b⟩
end Go.Proofs.YtoeggiplcaegoaaGreatDoor
/- clone.Cells. -/
namespace Go.Proofs.YtoeggiplcaegoaaGreatDoor
open Go.RowKit Go.ChangeShapes Go.WideShapes
theorem OwnE.some {α : Type} {E : Elem α} {Z : Zone} {w : World} {B : Nat} {ty : TypeId} {v : Value} {L : List α} (h : OwnE E Z w B ty v L) (hl : 0 < L.length) : ∃ g cap, v = .slice (some ⟨g, 0, none⟩) L.length cap ∧ B ≤ g ∧ g < w.heap.size := by
  obtain ⟨CS, h1, _⟩ := h
  rcases h1.2 with ⟨rfl, h0⟩ | ⟨g, cap, cur, rfl, hB, hg, _⟩
  · omega
  · exact ⟨g, cap, rfl, hB, (Array.getElem?_eq_some_iff.1 hg).1⟩
theorem OwnE.zone {α : Type} {E : Elem α} {Z Y : Zone} {w : World} {B : Nat} {ty : TypeId} {v : Value} {L : List α} (h : OwnE E Z w B ty v L) (hy : ∀ b, b < w.heap.size → Z b → Y b) : OwnE E Y w B ty v L := h.keep (.refl _ _) hy
end Go.Proofs.YtoeggiplcaegoaaGreatDoor
/- api.At and api.Within: the places of an error's faults. -/
namespace Go.Proofs.YtoeggiplcaegoaaGreatDoor.F
open Go.RowKit

theorem Handle.keep {w w' : World} (h : Handle w) (hb : Below w.heap.size w w') : Handle w' := (hb.cell (p := ⟨8, 0, none⟩) (World.block_lt_of_cell? _ _ h)).trans h
end Go.Proofs.YtoeggiplcaegoaaGreatDoor.F
/- From what a row lists to where it lies. -/
namespace Go.Proofs.YtoeggiplcaegoaaGreatDoor.F
open Go.RowKit Go.ChangeShapes

end Go.Proofs.YtoeggiplcaegoaaGreatDoor.F
/- The eight errors' places, as the texts of faults (F) and those without them say it. -/
namespace Go.Proofs.YtoeggiplcaegoaaGreatDoor
open Go.RowKit Go.ChangeShapes Go.WideShapes
end Go.Proofs.YtoeggiplcaegoaaGreatDoor
/- Rows: what one is in memory; New, Wide, Cell, Cells, Wrap, GoOn, Copy. -/
namespace Go.Proofs.YtoeggiplcaegoaaGreatDoor
open Go.RowKit Go.ChangeShapes Go.WideShapes
/-- The row at block g, its cells at block gc; what its cells lead to lies in the zone. -/
def RowAt (Z : Zone) (w : World) (B g gc : Nat) (L : List Cl) (wrap : Bool) : Prop :=
  ∃ cap, Has w g [.slice (some ⟨gc, 0, none⟩) L.length cap, .bool wrap] 187 ∧ B ≤ g ∧ gc ≠ g ∧ OwnE cellE (fun b => Z b ∧ b ≠ g) w B 147 (.slice (some ⟨gc, 0, none⟩) L.length cap) L ∧ 0 < L.length ∧ L.length ≤ 1024 ∧ soundB L = true
section
variable {Z Y S : Zone} {w w' : World} {B g gc : Nat} {L : List Cl} {wrap : Bool}
theorem RowAt.lt (h : RowAt Z w B g gc L wrap) : g < w.heap.size ∧ gc < w.heap.size ∧ B ≤ gc ∧ B ≤ g := by
  obtain ⟨cap, h1, h2, h3, h4, h5, _⟩ := h
  exact ⟨h1.lt, (h4.lt gc rfl).2, (h4.lt gc rfl).1, h2⟩
theorem RowAt.keep (h : RowAt Z w B g gc L wrap) (hk : KeepZ (fun b => Z b ∨ b = g ∨ b = gc) w w') (hy : ∀ b, b < w.heap.size → Z b → Y b) : RowAt Y w' B g gc L wrap := by
  obtain ⟨cap, h1, h2, h3, h4, h5⟩ := h
  refine ⟨cap, hk.has h1 (.inr (.inl rfl)), h2, h3, h4.keep (hk.mono fun b _ hz => ?_) (fun b hb hz => ⟨hy b hb hz.1, hz.2⟩), h5⟩
  rcases hz with hz | hz
  · exact .inl hz.1
  · exact .inr (.inr (by simpa [Value.ownBlock] using hz.symm))
theorem RowAt.below (h : RowAt Z w B g gc L wrap) (hb : Below w.heap.size w w') : RowAt Z w' B g gc L wrap := h.keep (.all hb _) fun _ _ h => h
theorem RowAt.upd (h : RowAt Z w B g gc L wrap) (hu : Upd S w w') (hz : ∀ b, Z b → ¬ S b) (hg : ¬ S g) (hgc : ¬ S gc) : RowAt Z w' B g gc L wrap :=
  h.keep (hu.keep.mono fun b _ hb => by rcases hb with hb | rfl | rfl; exact hz b hb; exact hg; exact hgc) fun _ _ h => h
theorem RowAt.base (h : RowAt Z w B g gc L wrap) {B' : Nat} (hb : B' ≤ B) : RowAt Z w B' g gc L wrap := by
  obtain ⟨cap, h1, h2, h3, h4, h5⟩ := h
  exact ⟨cap, h1, by omega, h3, h4.base hb, h5⟩
theorem RowAt.len (h : RowAt Z w B g gc L wrap) : 0 < L.length ∧ L.length ≤ 1024 ∧ soundB L = true := by
  obtain ⟨cap, _, _, _, _, h5⟩ := h
  exact h5
theorem RowAt.held (h : RowAt Z w B g gc L wrap) : ∃ cap, Has w g [.slice (some ⟨gc, 0, none⟩) L.length cap, .bool wrap] 187 ∧ HeldE cellE (fun b => True) w (.slice (some ⟨gc, 0, none⟩) L.length cap) L := by
  obtain ⟨cap, h1, h2, h3, h4, h5⟩ := h
  exact ⟨cap, h1, (h4.zone (Y := fun _ => True) (fun _ _ _ => trivial)).held fun _ _ _ => trivial⟩
end
theorem sound_right {L : List Cl} (h : soundB L = true) : ∀ k, k < L.length → rightB (L.getD k zc) = true := by
  intro k hk
  rw [sound_iff] at h
  have := okTo_at hk h
  unfold okAt at this
  simp only [Bool.and_eq_true] at this
  exact this.1.1
theorem right_short {c : Cl} (h : rightB c = true) : c.2.length ≤ 16 := by
  obtain ⟨k, t⟩ := c
  unfold rightB at h
  split at h
  · simp at h; simp [h]
  · simp only [Bool.and_eq_true, decide_eq_true_eq] at h
    exact h.1.2
theorem sound_short {L : List Cl} (h : soundB L = true) : ∀ k, k < L.length → (L.getD k zc).2.length ≤ 1000000000 := fun k hk => by have := right_short (sound_right h k hk); omega
/-- What hands back a new row. -/
def RowMade (Z : Zone) (w : World) (L : List Cl) (wrap : Bool) (e : Ending) (w' : World) : Prop := ∃ g gc, e = .returned (.pointer (some ⟨g, 0, none⟩)) ∧ RowAt Z w' w.heap.size g gc L wrap ∧ Below w.heap.size w w'
/-- A row laid behind its cells. -/
theorem row_new {Z : Zone} {w : World} {B : Nat} {v : Value} {L : List Cl} {wrap : Bool} (h : OwnE cellE Z w B 147 v L) (hB : B ≤ w.heap.size) (h0 : 0 < L.length) (h1 : L.length ≤ 1024) (hs : soundB L = true) : ∃ gc, RowAt Z (w.alloc (.cells #[v, .bool wrap] 187)) B w.heap.size gc L wrap := by
  obtain ⟨gc, cap, rfl, hg1, hg2⟩ := h.some h0
  refine ⟨gc, cap, Has.new w _ _, hB, by omega, (h.keep (Y := fun b => Z b ∧ b ≠ w.heap.size) (.all ((Below.refl _ _).alloc (Nat.le_refl _) _) _) (fun b hb hz => ⟨hz, by omega⟩)), h0, h1, hs⟩
theorem blank_sound (m : Nat) : soundB (List.replicate m zc) = true := by
  unfold soundB
  induction m with
  | zero => rfl
  | succ m ih => rw [List.replicate_succ]; show (true && true && soundF false _) = true; rw [ih]; rfl
def rowN (n : Int) : Nat := (min (max n 1) 1024).toNat
theorem blankN_row (n : Int) : blankN (max n 1) = rowN n ∧ 0 < rowN n ∧ rowN n ≤ 1024 ∧ max 1 (min n 1024) = (rowN n : Int) := by unfold blankN rowN; omega
set_option maxRecDepth 100000 in
theorem rnew_any (Z : Zone) (n : Int) (w : World) : Calls Tryz.prog 155 #[.int .i64 n] w (RowMade Z w (List.replicate (rowN n) zc) false) := by
  have HB := Lib.hid (blanks_any Z (max n 1) w)
  obtain ⟨h1, h2, h3, _⟩ := blankN_row n
  rw [h1] at HB
  clear h1
  go_enter Tryz.func155, Tryz.ntmps155
  go_wp2_with fail
  refine HB.out.mono ?_
  rintro e w1 ⟨v1, rfl, ho1, b1⟩
  obtain ⟨gc0, cap0, rfl, _, _⟩ := ho1.some (by simp; omega)
  obtain ⟨gc, hr⟩ := row_new (wrap := false) ho1 b1.size (by simp; omega) (by simp; omega) (blank_sound _)
  rw [List.length_replicate] at hr ⊢
  have HR := Lib.hid hr
  have HB1 := Lib.hid b1
  clear ho1 b1 hr
  go_wp2
  go_ret
  exact ⟨_, gc, rfl, HR.out, HB1.out.alloc HB1.out.size _⟩
theorem rwide_any (Z : Zone) (B g gc : Nat) (L : List Cl) (wrap : Bool) (w : World) (h : RowAt Z w B g gc L wrap) : Calls Tryz.prog 70 #[.pointer (some ⟨g, 0, none⟩)] w fun e w' => e = .returned (.int .i64 L.length) ∧ w = w' := by
  obtain ⟨cap, h1, _⟩ := h.held
  have c0 := h1.cell 0 _ rfl
  clear h h1
  go_enter Tryz.func70, Tryz.ntmps70
  go_wp2
  go_ret
  exact ⟨rfl, rfl⟩
theorem rgoon_nil (b : Bool) (w : World) : Calls Tryz.prog 71 #[.pointer none, .bool b] w fun e w' => e = .returned (.tuple #[]) ∧ w = w' := by
  go_enter Tryz.func71, Tryz.ntmps71
  go_wp2
  exact bodyPost_end (by kernel_rfl) rfl ⟨rfl, rfl⟩
def RowTurned (Z : Zone) (w : World) (B g gc : Nat) (L : List Cl) (wrap : Bool) (e : Ending) (w' : World) : Prop := e = .returned (.tuple #[]) ∧ RowAt Z w' B g gc L wrap ∧ Upd (fun b => b = g ∨ b = gc) w w'
theorem rgoon_any (Z : Zone) (B g gc : Nat) (L : List Cl) (wrap b : Bool) (w : World) (h : RowAt Z w B g gc L wrap) : Calls Tryz.prog 71 #[.pointer (some ⟨g, 0, none⟩), .bool b] w (RowTurned Z w B g gc L b) := by
  obtain ⟨cap, h1, h2, h3, h4, h5⟩ := h
  have hu := (Upd.refl (fun b => b = g) w).setCell (p := ⟨g, 1, none⟩) (.inl rfl) (.bool b)
  have hp : RowTurned Z w B g gc L b (.returned (.tuple #[])) (w.setCell ⟨g, 1, none⟩ (.bool b)) := by
    refine ⟨rfl, ⟨cap, ?_, h2, h3, h4.upd hu (fun b hb => ?_), h5⟩, hu.mono fun b _ h => .inl h⟩
    · have := h1.set 1 (.bool b)
      simpa using this
    · rcases hb with hb | hb
      · exact hb.2
      · have : gc = b := by simpa [Value.ownBlock] using hb
        subst this; exact h3
  have HP := Lib.hid hp
  have c1 := h1.cell 1 _ rfl
  have f1 := h1.free 1
  clear h1 h2 h3 h4 h5 hu hp
  go_enter Tryz.func71, Tryz.ntmps71
  go_wp2
  exact bodyPost_end (by kernel_rfl) rfl HP.out
def CellGot (w : World) (c : Cl) (e : Ending) (w' : World) : Prop := ∃ tv, e = .returned (.tuple #[.agg #[.int .i64 c.1, tv], .bool true]) ∧ HeldE (intE .i32) (fun b => w.heap.size ≤ b) w' tv c.2 ∧ Below w.heap.size w w'
def CellOwn (w : World) (c : Cl) (e : Ending) (w' : World) : Prop := ∃ tv, e = .returned (.tuple #[.agg #[.int .i64 c.1, tv], .bool true]) ∧ OwnE (intE .i32) (fun _ => True) w' w.heap.size 21 tv c.2 ∧ Below w.heap.size w w'
set_option maxRecDepth 100000 in
set_option maxHeartbeats 800000 in
theorem rcell_own (Z : Zone) (B g gc : Nat) (L : List Cl) (wrap : Bool) (i : Nat) (w : World) (h : RowAt Z w B g gc L wrap) (hi : i < L.length) : Calls Tryz.prog 85 #[.pointer (some ⟨g, 0, none⟩), .int .i64 i] w (CellOwn w (L.getD i zc)) := by
  obtain ⟨w1, hw1⟩ : ∃ w1, w1 = w.alloc (.cells #[.int .i64 0, .slice none 0 0] 147) := ⟨_, rfl⟩
  have hb : Below w.heap.size w w1 := by rw [hw1]; exact (Below.refl w.heap.size w).alloc (Nat.le_refl _) _
  have hr1 : Has w1 w.heap.size [.int .i64 0, .slice none 0 0] 147 := by rw [hw1]; exact Has.new w _ _
  have h1 := h.below hb
  obtain ⟨_, hl, hs⟩ := h.len
  have htl := sound_short hs i hi
  obtain ⟨cap, h2, h3⟩ := h1.held
  obtain ⟨_, _, hc⟩ := cells_at h3
  obtain ⟨b, off, tv, e, hbl, _, c0, c1, ht⟩ := hc i hi
  cases e
  simp only [Nat.zero_add] at c0 c1
  have k0 := h2.cell 0 _ rfl
  obtain ⟨⟨K, T⟩, hKT⟩ : ∃ y, y = L.getD i zc := ⟨_, rfl⟩
  rw [← hKT] at c0 ht htl ⊢
  simp only at c0 ht htl
  have HCL := Lib.hid (clonec_own K tv T w1 ht.ints htl)
  have HW := Lib.hid (rwide_any Z B g gc L wrap w1 h1)
  have HB := Lib.hid hb
  have HR := Lib.hid hr1
  have hs1 : w1.heap.size = w.heap.size + 1 := by rw [hw1]; simp
  have HS1 := Lib.hid hs1
  have HT := Lib.hid ht
  obtain ⟨tz9, tc, rfl⟩ := ht.len
  subst hw1
  have hlt := hi
  clear h h1 h2 h3 hc hs hKT hb hr1 hs1 ht
  go_enter Tryz.func85, Tryz.ntmps85
  go_wp2_with fail
  refine HW.out.mono ?_
  rintro e w2 ⟨rfl, rfl⟩
  go_wp2_with fail
  refine HCL.out.mono ?_
  rintro e w3 ⟨v3, rfl, hh3, b3⟩
  have r3 := HR.out.below b3 HR.out.lt
  have hs3 : w.heap.size + 1 ≤ w3.heap.size := by rw [← HS1.out]; exact b3.size
  have d0 := r3.cell 0 _ rfl
  have d1 := r3.cell 1 _ rfl
  have e0 := r3.free 0
  have e1 := r3.free 1
  have HO := Lib.hid (hh3.anyInts (Y := fun _ => False))
  have HB3 := Lib.hid (HB.out.trans (b3.mono HB.out.size))
  have HSZ := Lib.hid hs3
  obtain ⟨a3, c3, e5⟩ := hh3.heldInts.len
  clear hh3 b3 r3 hs3 c0 c1 k0
  subst e5
  go_wp2
  refine bodyPost_ret (v := .tuple #[.agg #[.int .i64 K, .slice a3 T.length c3], .bool true]) (by simp [results, Tryz.results85, go_sem, d0, d1, e0, e1]) rfl ⟨_, rfl, ?_, ?_⟩
  · exact OwnE.anyInts (OwnE.base (OwnE.upd HO.out ((((Upd.refl (fun b => b < w.heap.size + 1) w3).setCell (.inl (by simp)) _).setCell (.inl (by simp)) _)) (fun b h k => by
      rcases h with h | h
      · exact h
      · have := (HO.out.lt b h).1
        rw [HS1.out] at this
        omega)) (by rw [HS1.out]; omega))
  · exact ((HB3.out.setCell (by simp) _).setCell (by simp) _)
theorem rcell_in (Z : Zone) (B g gc : Nat) (L : List Cl) (wrap : Bool) (i : Nat) (w : World) (h : RowAt Z w B g gc L wrap) (hi : i < L.length) : Calls Tryz.prog 85 #[.pointer (some ⟨g, 0, none⟩), .int .i64 i] w (CellGot w (L.getD i zc)) :=
  (rcell_own Z B g gc L wrap i w h hi).mono fun _ _ ⟨v, e, h, b⟩ => ⟨v, e, h.heldInts, b⟩
end Go.Proofs.YtoeggiplcaegoaaGreatDoor
/- Row.Copy, row.Of. -/
namespace Go.Proofs.YtoeggiplcaegoaaGreatDoor
open Go.RowKit Go.ChangeShapes Go.WideShapes
section
variable (sa : Nat → Addr) (Y : Zone) (L : List Cl) (v : Value) (w : World)
end
end Go.Proofs.YtoeggiplcaegoaaGreatDoor
/- The library's Grow and Concat of cells. -/
namespace Go.Proofs.YtoeggiplcaegoaaGreatDoor
open Go.RowKit Go.ChangeShapes Go.WideShapes
def flatG {α : Type} (L : List (List α)) (k : Nat) : List α := (L.take k).flatten
theorem flatG_succ {α : Type} (L : List (List α)) (k : Nat) (h : k < L.length) : flatG L (k + 1) = flatG L k ++ L.getD k [] := by
  unfold flatG
  rw [List.take_succ_eq_append_getElem h, List.flatten_append]
  simp [List.getD, List.getElem?_eq_getElem h]
theorem flatG_le {α : Type} (L : List (List α)) : ∀ k, k ≤ L.length → (flatG L k).length ≤ (flatG L L.length).length := by
  have h : ∀ d k, k + d = L.length → (flatG L k).length ≤ (flatG L L.length).length := by
    intro d
    induction d with
    | zero => intro k e; have : k = L.length := by omega
              subst this; exact Nat.le_refl _
    | succ d ih =>
      intro k e
      have h1 := ih (k + 1) (by omega)
      rw [flatG_succ L k (by omega), List.length_append] at h1
      omega
  intro k hk
  exact h (L.length - k) k (by omega)
theorem flatG_all {α : Type} (L : List (List α)) : flatG L L.length = L.flatten := by unfold flatG; rw [List.take_length]
end Go.Proofs.YtoeggiplcaegoaaGreatDoor
/- What the program's tables tell and what the reference's lists tell agree; what pictures and conjuncts are in classes. -/
namespace Go.Proofs.YtoeggiplcaegoaaGreatDoor
open Go.RowKit Go.ChangeShapes Go.WideShapes
end Go.Proofs.YtoeggiplcaegoaaGreatDoor
/- works of layers 9 to 12; the reference's Is. -/
namespace Go.Proofs.YtoeggiplcaegoaaGreatDoor
open Go.RowKit Go.ChangeShapes Go.WideShapes
end Go.Proofs.YtoeggiplcaegoaaGreatDoor
