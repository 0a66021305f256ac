/- works of layer 15. -/
import Derived.Test.YtmfoldohmbaikaaSegE
import Derived.Test.YtmfoldohmbaikaaFrame
namespace Go.Proofs.Ytmfoldohmbaikaa
open Go.RowKit Go.ChangeShapes Go.WideShapes
theorem reset_nil (w : World) : Calls Try.prog 46 #[.pointer none] w fun e w' => e = .returned (.tuple #[]) ∧ w = w' := by
  go_enter Try.func46, Try.ntmps46
  go_wp2
  go_end0
  exact ⟨rfl, rfl⟩
theorem step_val (g : Nat) (tl : Bool) (la cj pi : Int) (od : Bool) (br : Int) (pc : Bool) (cv ea : Int) (w : World) (hs : SegAt w g tl la cj pi od) (c0 : 0 ≤ cj) (c1 : cj ≤ 255) (p0 : 0 ≤ pi) (p1 : pi ≤ 255)
    (j : Bool) (c' p' : Int) (o' : Bool) (hj : joinsB tl la cj pi od br pc cv = j) (hc : conjI cj cv = c') (hp : picI pi br pc = p') (ho : (br == 6 && !od) = o') :
    Calls Try.prog 45 #[.pointer (some ⟨g, 0, none⟩), .agg #[.int .i64 br, .bool pc, .int .i64 cv, .int .i64 ea]] w (SegStepped w g j true br c' p' o') := by
  subst hj; subst hc; subst hp; subst ho
  exact step_any g tl la cj pi od br pc cv ea w hs c0 c1 p0 p1
theorem has_at {w : World} {g : Nat} {C : List Value} {t : TypeId} (hg : g = w.heap.size) : Has (w.alloc (.cells C.toArray t)) g C t := by subst hg; exact Has.new w C t
theorem four (w : World) : ∃ W, W = (((w.alloc (.cells #[Value.bool false, .int .i64 0, .int .u8 0, .int .u8 0, .bool false] 70)).alloc (.cells #[Value.int .i64 0, .bool false, .int .i64 1, .int .i64 0] 73)).alloc (.cells #[Value.int .i64 4, .bool false, .int .i64 2, .int .i64 0] 73)).alloc (.cells #[Value.int .i64 6, .bool false, .int .i64 0, .int .i64 0] 73) ∧
    SegAt W w.heap.size false 0 0 0 false ∧ Has W (w.heap.size + 1) [Value.int .i64 0, .bool false, .int .i64 1, .int .i64 0] 73 ∧ Has W (w.heap.size + 1 + 1) [Value.int .i64 4, .bool false, .int .i64 2, .int .i64 0] 73 ∧ Has W (w.heap.size + 1 + 1 + 1) [Value.int .i64 6, .bool false, .int .i64 0, .int .i64 0] 73 ∧ Below w.heap.size w W := by
  refine ⟨_, rfl, (((Has.new w _ _).alloc _).alloc _).alloc _, ((has_at (by simp)).alloc _).alloc _, (has_at (by simp)).alloc _, has_at (by simp), ?_⟩
  exact ((((Below.refl _ _).alloc (Nat.le_refl _) _).alloc (by simp) _).alloc (by simp; omega) _).alloc (by simp; omega) _
set_option maxRecDepth 100000 in
set_option maxHeartbeats 1000000 in
theorem works15_any (w : World) : Calls Try.prog 44 #[] w (Yes w) := by
  go_enter Try.func44, Try.ntmps44
  go_wp2_with fail
  obtain ⟨W, hW, hs0, hpc0, hpl0, hpr0, hb0⟩ := four w
  rw [← hW]
  clear hW
  refine (step_val w.heap.size false 0 0 0 false 0 false 1 0 _ hs0 (by decide) (by decide) (by decide) (by decide) false 1 0 false (by decide) (by decide) (by decide) (by decide)).mono ?_
  rintro e w1 ⟨rfl, hs1, b1⟩
  have hb1 := hb0.trans (b1.below hb0.size (Nat.le_refl _))
  have hpc1 := hpc0.but b1 hpc0.lt (by omega)
  have hpl1 := hpl0.but b1 hpl0.lt (by omega)
  have hpr1 := hpr0.but b1 hpr0.lt (by omega)
  clear hs0 hb0 b1 hpc0 hpl0 hpr0
  have x0 := hpl1.cell 0 _ rfl
  have x1 := hpl1.cell 1 _ rfl
  have x2 := hpl1.cell 2 _ rfl
  have x3 := hpl1.cell 3 _ rfl
  go_wp2_with fail
  refine (step_val w.heap.size true 0 1 0 false 4 false 2 0 _ hs1 (by decide) (by decide) (by decide) (by decide) true 2 0 false (by decide) (by decide) (by decide) (by decide)).mono ?_
  rintro e w2 ⟨rfl, hs2, b2⟩
  have hb2 := hb1.trans (b2.below hb1.size (Nat.le_refl _))
  have hpc2 := hpc1.but b2 hpc1.lt (by omega)
  have hpl2 := hpl1.but b2 hpl1.lt (by omega)
  have hpr2 := hpr1.but b2 hpr1.lt (by omega)
  clear hs1 hb1 b2 hpc1 hpl1 hpr1 x0 x1 x2 x3
  have x0 := hpc2.cell 0 _ rfl
  have x1 := hpc2.cell 1 _ rfl
  have x2 := hpc2.cell 2 _ rfl
  have x3 := hpc2.cell 3 _ rfl
  go_wp2_with fail
  refine (step_val w.heap.size true 4 2 0 false 0 false 1 0 _ hs2 (by decide) (by decide) (by decide) (by decide) true 1 0 false (by decide) (by decide) (by decide) (by decide)).mono ?_
  rintro e w3 ⟨rfl, hs3, b3⟩
  have hb3 := hb2.trans (b3.below hb2.size (Nat.le_refl _))
  have hpc3 := hpc2.but b3 hpc2.lt (by omega)
  have hpl3 := hpl2.but b3 hpl2.lt (by omega)
  have hpr3 := hpr2.but b3 hpr2.lt (by omega)
  clear hs2 hb2 b3 hpc2 hpl2 hpr2 x0 x1 x2 x3
  have x0 := hpr3.cell 0 _ rfl
  have x1 := hpr3.cell 1 _ rfl
  have x2 := hpr3.cell 2 _ rfl
  have x3 := hpr3.cell 3 _ rfl
  go_wp2_with fail
  refine (step_val w.heap.size true 0 1 0 false 6 false 0 0 _ hs3 (by decide) (by decide) (by decide) (by decide) false 0 0 true (by decide) (by decide) (by decide) (by decide)).mono ?_
  rintro e w4 ⟨rfl, hs4, b4⟩
  have hb4 := hb3.trans (b4.below hb3.size (Nat.le_refl _))
  have hpc4 := hpc3.but b4 hpc3.lt (by omega)
  have hpl4 := hpl3.but b4 hpl3.lt (by omega)
  have hpr4 := hpr3.but b4 hpr3.lt (by omega)
  clear hs3 hb3 b4 hpc3 hpl3 hpr3 x0 x1 x2 x3
  have x0 := hpr4.cell 0 _ rfl
  have x1 := hpr4.cell 1 _ rfl
  have x2 := hpr4.cell 2 _ rfl
  have x3 := hpr4.cell 3 _ rfl
  go_wp2_with fail
  refine (step_val w.heap.size true 6 0 0 true 6 false 0 0 _ hs4 (by decide) (by decide) (by decide) (by decide) true 0 0 false (by decide) (by decide) (by decide) (by decide)).mono ?_
  rintro e w5 ⟨rfl, hs5, b5⟩
  have hb5 := hb4.trans (b5.below hb4.size (Nat.le_refl _))
  have hpc5 := hpc4.but b5 hpc4.lt (by omega)
  have hpl5 := hpl4.but b5 hpl4.lt (by omega)
  have hpr5 := hpr4.but b5 hpr4.lt (by omega)
  clear hs4 hb4 b5 hpc4 hpl4 hpr4 x0 x1 x2 x3
  have x0 := hpr5.cell 0 _ rfl
  have x1 := hpr5.cell 1 _ rfl
  have x2 := hpr5.cell 2 _ rfl
  have x3 := hpr5.cell 3 _ rfl
  go_wp2_with fail
  refine (step_val w.heap.size true 6 0 0 false 6 false 0 0 _ hs5 (by decide) (by decide) (by decide) (by decide) false 0 0 true (by decide) (by decide) (by decide) (by decide)).mono ?_
  rintro e w6 ⟨rfl, hs6, b6⟩
  have hb6 := hb5.trans (b6.below hb5.size (Nat.le_refl _))
  have hpc6 := hpc5.but b6 hpc5.lt (by omega)
  have hpl6 := hpl5.but b6 hpl5.lt (by omega)
  have hpr6 := hpr5.but b6 hpr5.lt (by omega)
  clear hs5 hb5 b6 hpc5 hpl5 hpr5 x0 x1 x2 x3
  go_wp2
  go_ret
  exact ⟨(ret_eq (by first | rfl | (simp <;> omega))), hb6⟩
end Go.Proofs.Ytmfoldohmbaikaa
