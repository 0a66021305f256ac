/- Package clone: cells with memory of their own. -/
import Derived.Test.YtomfclkldmmmgaaDoorCellP
import Derived.Test.YtomfclkldmmmgaaDoorElemS
import Derived.Test.YtomfclkldmmmgaaDoorClonR
namespace Go.Proofs.YtomfclkldmmmgaaDoor
open Go.RowKit Go.ChangeShapes Go.WideShapes
theorem HeldE.ownedInts {B : Nat} {w : World} {n : Nat} {v : Value} {ty : TypeId} {xs : List Int} (h : w.ownsRow B ty 1 v n (xs.map (Value.int .i32))) : HeldE (intE .i32) (fun b => B ≤ b) w v xs := (ownE_ints (Z := fun b => B ≤ b) h).held fun _ hb _ => hb
/-- What a copy of a cell leaves. -/
def CloneOk (w : World) (K : Int) (T : List Int) (e : Ending) (w' : World) : Prop := ∃ tv', e = .returned (.agg #[.int .i64 K, tv']) ∧ HeldE (intE .i32) (fun b => w.heap.size ≤ b) w' tv' T ∧ Below w.heap.size w w'
def CloneOwn (w : World) (K : Int) (T : List Int) (e : Ending) (w' : World) : Prop := ∃ tv', e = .returned (.agg #[.int .i64 K, tv']) ∧ OwnE (intE .i32) (fun _ => True) w' w.heap.size 21 tv' T ∧ Below w.heap.size w w'
theorem OwnE.heldInts {B : Nat} {w : World} {Z : Zone} {v : Value} {ty : TypeId} {xs : List Int} (h : OwnE (intE .i32) Z w B ty v xs) : HeldE (intE .i32) (fun b => B ≤ b) w v xs := HeldE.ownedInts h.ints
theorem OwnE.anyInts {B : Nat} {w : World} {Z Y : Zone} {v : Value} {ty : TypeId} {xs : List Int} (h : OwnE (intE .i32) Z w B ty v xs) : OwnE (intE .i32) Y w B ty v xs := ownE_ints h.ints
set_option maxRecDepth 100000 in
set_option maxHeartbeats 800000 in
theorem clonec_own (K : Int) (tv : Value) (T : List Int) (w : World) (ht : Held .i32 w tv T) (hl : T.length ≤ 1000000000) : Calls Tryd.prog 76 #[.agg #[.int .i64 K, tv]] w (CloneOwn w K T) := by
  have HT := Lib.hid ht
  obtain ⟨ao, cap, rfl, _⟩ := ht.view
  clear ht
  obtain ⟨w2, hw2⟩ : ∃ w2, w2 = (w.alloc (.cells #[.int .i64 K, .slice ao T.length cap] 27)).alloc (.cells #[.int .i64 0, .slice none 0 0] 27) := ⟨_, rfl⟩
  have hb2 : Below w.heap.size w w2 := by rw [hw2]; exact ((Below.refl _ _).alloc (Nat.le_refl _) _).alloc (by simp) _
  have hs2 : w2.heap.size = w.heap.size + 2 := by rw [hw2]; simp
  have hg : Has w2 w.heap.size [.int .i64 K, .slice ao T.length cap] 27 := by rw [hw2]; exact (Has.new w _ _).alloc _
  have hr : Has w2 (w.heap.size + 1) [.int .i64 0, .slice none 0 0] 27 := by
    rw [hw2]
    have := Has.new (w.alloc (.cells #[.int .i64 K, .slice ao T.length cap] 27)) [.int .i64 0, .slice none 0 0] 27
    rw [World.size_alloc] at this
    exact this
  have HB2 := Lib.hid hb2
  have HS2 := Lib.hid hs2
  have HG := Lib.hid hg
  have HRR := Lib.hid hr
  have HC := Lib.hid (rclone_any _ T w2 (HT.out.below hb2) hl)
  rw [hw2] at HC
  have HW2 := Lib.hid hw2
  clear hw2 hb2 hs2 hg hr
  go_enter Tryd.func76, Tryd.ntmps76
  go_wp2_with fail
  refine HC.out.mono ?_
  rintro e w3 ⟨v5, rfl, ho5, b5⟩
  rw [← HW2.out] at ho5 b5
  have hs3 : w.heap.size + 2 ≤ w3.heap.size := by rw [← HS2.out]; exact b5.size
  have g3 := HG.out.below b5 HG.out.lt
  have r3 := HRR.out.below b5 HRR.out.lt
  have c0 := g3.cell 0 _ rfl
  have c1 := g3.cell 1 _ rfl
  have f0 := g3.free 0
  have f1 := g3.free 1
  have d0 := r3.cell 0 _ rfl
  have d1 := r3.cell 1 _ rfl
  have e0 := r3.free 0
  have e1 := r3.free 1
  have HO := Lib.hid (ownE_ints (Z := fun _ => False) ho5)
  have HH := Lib.hid (HeldE.ownedInts ho5)
  have HB5 := Lib.hid (HB2.out.trans (b5.mono HB2.out.size))
  have HSZ := Lib.hid hs3
  obtain ⟨a5, c5, e5⟩ := HH.out.len
  clear ho5 b5 g3 r3 hs3
  subst e5
  go_wp2
  refine bodyPost_ret (v := .agg #[.int .i64 K, .slice a5 T.length c5]) (by simp [results, Tryd.results76, go_sem, c0, c1, f0, f1, d0, d1, e0, e1]) rfl ⟨_, rfl, ?_, ?_⟩
  · exact OwnE.anyInts (OwnE.base (OwnE.upd HO.out (((((Upd.refl (fun b => b < w.heap.size + 2) w3).setCell (.inl (by simp)) _).setCell (.inl (by simp)) _).setCell (.inl (by simp)) _)) (fun b h k => by
      rcases h with h | h
      · exact h
      · have := (HO.out.lt b h).1
        rw [HS2.out] at this
        omega)) (by rw [HS2.out]; omega))
  · exact (((HB5.out.setCell (by simp) _).setCell (by simp) _).setCell (by simp) _)
theorem clonec_any (K : Int) (tv : Value) (T : List Int) (w : World) (ht : Held .i32 w tv T) (hl : T.length ≤ 1000000000) : Calls Tryd.prog 76 #[.agg #[.int .i64 K, tv]] w (CloneOk w K T) :=
  (clonec_own K tv T w ht hl).mono fun _ _ ⟨v, e, h, b⟩ => ⟨v, e, h.heldInts, b⟩
end Go.Proofs.YtomfclkldmmmgaaDoor
