/- works of layer 34. -/
import Derived.Test.YteinppjklhomnaaDoorPlcW
namespace Go.Proofs.YteinppjklhomnaaDoor
open Go.RowKit Go.ChangeShapes Go.WideShapes
theorem pz_ge {w : World} {B gp gg gr wd : Nat} {R : List Rw} {Ls : List Ln} {r c : Int} {pd au : Bool} (h : PenAt w B gp gg gr wd R Ls r c pd au) (hB : B ≤ w.heap.size) (b : Nat) (hb : PZ w gp gr R b) : B ≤ b := by
  have hl := h.2.2.1.lt
  rcases hb with e | e | ⟨i, hi, e⟩ | e
  · subst e; exact h.2.1
  · omega
  · have := hl.2.2.2.2.2 i hi; rcases e with e | e <;> omega
  · omega
theorem PDo.belowB {w w1 : World} {B gp gg gr wd : Nat} {R : List Rw} {Ls L2 : List Ln} {r c r2 c2 : Int} {pd au pd2 au2 : Bool} (h : PenAt w B gp gg gr wd R Ls r c pd au) (hB : B ≤ w.heap.size) (k : PDo w B gp gg gr wd R L2 r2 c2 pd2 au2 w1) : Below B w w1 := by
  obtain ⟨R2, _, k2, _⟩ := k
  exact k2.below hB (pz_ge h hB)
/-- A text that was made behind the pen is off it. -/
theorem pen_text {w w1 : World} {B gp gg gr wd : Nat} {R : List Rw} {Ls : List Ln} {r c : Int} {pd au : Bool} (h : PenAt w B gp gg gr wd R Ls r c pd au) {u : Value} {ys : List Int} (hu : HeldE (intE .i32) (fun b => w.heap.size ≤ b) w1 u ys) : HeldE (intE .i32) (fun b => ¬ PZ w1 gp gr R b) w1 u ys := hu.zone fun b hlt hz e => by
  have hl := h.lt
  have hg := h.2.2.1.lt
  rcases e with e | e | ⟨i, hi, e⟩ | e
  · omega
  · omega
  · have := hg.2.2.2.2.2 i hi; rcases e with e | e <;> omega
  · omega
def wk0 : List Ln := List.replicate 2 (List.replicate 3 zc, false)
def wk1 : List Ln := plcL wk0 3 0 0 false true 1 [97]
def wk2 : List Ln := plcL wk1 3 0 1 false true 1 [98]
def wk3 : List Ln := plcL wk2 3 0 2 false true 2 [19968]
theorem wk_1 : plcR wk0 3 0 0 false true 1 = 0 ∧ plcC 3 0 false true 1 = 0 ∧ plcK 3 1 = 1 ∧ aftC 0 1 3 = 1 ∧ aftP 0 1 3 true = false ∧ wk0.length = 2 ∧ wk1.length = 2 := by decide +kernel
theorem wk_2 : plcR wk1 3 0 1 false true 1 = 0 ∧ plcC 3 1 false true 1 = 1 ∧ plcK 3 1 = 1 ∧ aftC 1 1 3 = 2 ∧ aftP 1 1 3 true = false ∧ wk1.length = 2 ∧ wk2.length = 2 := by decide +kernel
theorem wk_3 : plcR wk2 3 0 2 false true 2 = 1 ∧ plcC 3 2 false true 2 = 0 ∧ plcK 3 2 = 2 ∧ aftC 0 2 3 = 2 ∧ aftP 0 2 3 true = false ∧ wk2.length = 2 ∧ wk3.length = 2 ∧ (wk3.getD 0 zl).2 = true := by decide +kernel
theorem in_num : inI 0 (sideI 2) = ((0 : Nat) : Int) ∧ inI 0 (sideI 3) = ((0 : Nat) : Int) ∧ inI 1 (sideI 3) = ((1 : Nat) : Int) ∧ inI 2 (sideI 3) = ((2 : Nat) : Int) := by decide
set_option maxRecDepth 100000 in
set_option maxHeartbeats 3000000 in
theorem works34_any (w : World) : Calls Tryd.prog 10 #[] w (Yes w) := by
  have HNW := Lib.hid (pnew_any 3 2 w)
  rw [show rowN 3 = 3 from rfl, show rowN 2 = 2 from rfl] at HNW
  go_enter Tryd.func10, Tryd.ntmps10
  go_wp2_with fail
  refine HNW.out.mono ?_
  rintro e w1 ⟨gp, gg, gr, R0, rfl, h1, b1⟩
  have hb := (Below.refl w1.heap.size w1).alloc (Nat.le_refl _) (.cells [Value.int .i32 97].toArray 21)
  have ht := heldE_one (w := w1) (ty := 21) (E := intE .i32) (Y := fun _ => False) (Z := fun b => w1.heap.size ≤ b) [.int .i32 97] 97 rfl (fun _ _ h => h.elim) (Nat.le_refl _)
  have h1' := h1.below hb
  have hp := pput_any w.heap.size gp gg gr 3 R0 wk0 0 0 false true 1 _ [97] _ h1' (pen_text h1 ht) 0 0 false in_num.1 in_num.2.1 rfl (by decide) (by decide)
  rw [wk_1.1, wk_1.2.1, wk_1.2.2.1] at hp
  rw [show aftC ((0 : Nat) : Int) 1 ((3 : Nat) : Int) = 1 from wk_1.2.2.2.1, show aftP ((0 : Nat) : Int) 1 ((3 : Nat) : Int) true = false from wk_1.2.2.2.2.1] at hp
  have HP := Lib.hid hp
  have H1 := Lib.hid h1'
  have B1 := Lib.hid (b1.trans (hb.mono b1.size))
  clear hb ht h1' h1 b1 hp
  go_wp2_with fail
  refine HP.out.mono ?_
  rintro e w2 ⟨rfl, k2⟩
  have B2 := Lib.hid (B1.out.trans (k2.belowB H1.out B1.out.size))
  obtain ⟨R2, h2, _⟩ := k2
  have hb := (Below.refl w2.heap.size w2).alloc (Nat.le_refl _) (.cells [Value.int .i32 98].toArray 21)
  have ht := heldE_one (w := w2) (ty := 21) (E := intE .i32) (Y := fun _ => False) (Z := fun b => w2.heap.size ≤ b) [.int .i32 98] 98 rfl (fun _ _ h => h.elim) (Nat.le_refl _)
  have h2' := h2.below hb
  have hp := pput_any w.heap.size gp gg gr 3 R2 wk1 0 1 false true 1 _ [98] _ h2' (pen_text h2 ht) 0 1 false (by rw [wk_2.2.2.2.2.2.1]; exact in_num.1) in_num.2.2.1 rfl (by rw [wk_2.2.2.2.2.2.1]; decide) (by decide)
  rw [wk_2.1, wk_2.2.1, wk_2.2.2.1] at hp
  rw [show aftC ((1 : Nat) : Int) 1 ((3 : Nat) : Int) = 2 from wk_2.2.2.2.1, show aftP ((1 : Nat) : Int) 1 ((3 : Nat) : Int) true = false from wk_2.2.2.2.2.1] at hp
  have HP2 := Lib.hid hp
  have H2 := Lib.hid h2'
  have B3 := Lib.hid (B2.out.trans (hb.mono B2.out.size))
  clear hb ht h2' h2 hp HP H1 B1 B2
  go_wp2_with fail
  refine HP2.out.mono ?_
  rintro e w3 ⟨rfl, k3⟩
  have B4 := Lib.hid (B3.out.trans (k3.belowB H2.out B3.out.size))
  obtain ⟨R3, h3, _⟩ := k3
  have hb := (Below.refl w3.heap.size w3).alloc (Nat.le_refl _) (.cells [Value.int .i32 19968].toArray 21)
  have ht := heldE_one (w := w3) (ty := 21) (E := intE .i32) (Y := fun _ => False) (Z := fun b => w3.heap.size ≤ b) [.int .i32 19968] 19968 rfl (fun _ _ h => h.elim) (Nat.le_refl _)
  have h3' := h3.below hb
  have hp := pput_any w.heap.size gp gg gr 3 R3 wk2 0 2 false true 2 _ [19968] _ h3' (pen_text h3 ht) 0 2 false (by rw [wk_3.2.2.2.2.2.1]; exact in_num.1) in_num.2.2.2 rfl (by rw [wk_3.2.2.2.2.2.1]; decide) (by decide)
  rw [wk_3.1, wk_3.2.1, wk_3.2.2.1] at hp
  rw [show aftC ((0 : Nat) : Int) 2 ((3 : Nat) : Int) = 2 from wk_3.2.2.2.1, show aftP ((0 : Nat) : Int) 2 ((3 : Nat) : Int) true = false from wk_3.2.2.2.2.1] at hp
  have HP3 := Lib.hid hp
  have H3 := Lib.hid h3'
  have B5 := Lib.hid (B4.out.trans (hb.mono B4.out.size))
  clear hb ht h3' h3 hp HP2 H2 B3 B4
  go_wp2_with fail
  refine HP3.out.mono ?_
  rintro e w4 ⟨rfl, k4⟩
  have B6 := Lib.hid (B5.out.trans (k4.belowB H3.out B5.out.size))
  obtain ⟨R4, h4, _⟩ := k4
  have hb := (Below.refl w4.heap.size w4).alloc (Nat.le_refl _) (.cells [Value.int .i64 1, .int .i64 0, .bool false].toArray 29)
  have H5 := Lib.hid (h4.below hb)
  have B7 := Lib.hid (B6.out.trans (hb.mono B6.out.size))
  have hn := Has.new w4 [Value.int .i64 1, .int .i64 0, .bool false] 29
  have c0 := hn.cell 0 _ rfl
  have c1 := hn.cell 1 _ rfl
  have c2 := hn.cell 2 _ rfl
  have y0 := H5.out.1.cell 0 _ rfl
  have y1 := H5.out.1.cell 1 _ rfl
  have y2 := H5.out.1.cell 2 _ rfl
  have y3 := H5.out.1.cell 3 _ rfl
  have q1 := cur_self 1 0 false
  have q2 := cur_self 1 2 false
  have hrl := H5.out.sizes.2.2.2.2.1
  have hrl2 : R4.length = 2 := by rw [hrl]; exact wk_3.2.2.2.2.2.2.1
  have hrow := H5.out.2.2.1.row (i := 0) (by omega)
  have hwr := (row_line H5.out.2.2.2 0 (by omega)).2
  rw [show (plcL wk2 3 0 2 false true 2 [19968]) = wk3 from rfl, wk_3.2.2.2.2.2.2.2] at hwr
  obtain ⟨gk, hgk⟩ : ∃ gk, gk = (R4.getD 0 r0).g := ⟨_, rfl⟩
  have HRW := Lib.hid (show Calls Tryd.prog 43 #[.pointer (some ⟨gg, 0, none⟩), .int .i64 0] (w4.alloc (.cells [Value.int .i64 1, .int .i64 0, .bool false].toArray 29)) (fun e w' => e = .returned (.pointer (some ⟨gk, 0, none⟩)) ∧ (w4.alloc (.cells [Value.int .i64 1, .int .i64 0, .bool false].toArray 29)) = w') from by rw [hgk]; exact grow_in w.heap.size gg gr 3 R4 0 _ H5.out.2.2.1 (by omega))
  have HWP := Lib.hid (show Calls Tryd.prog 44 #[.pointer (some ⟨gk, 0, none⟩)] (w4.alloc (.cells [Value.int .i64 1, .int .i64 0, .bool false].toArray 29)) (fun e w' => e = .returned (.bool true) ∧ (w4.alloc (.cells [Value.int .i64 1, .int .i64 0, .bool false].toArray 29)) = w') from by rw [hgk, ← hwr]; exact rwrap_any _ _ _ _ _ _ _ hrow)
  clear h4 hb hn hrl hrl2 hrow hwr hgk B5 B6 H3 HP3
  go_wp2_with fail
  refine HRW.out.mono ?_
  rintro e w6 ⟨rfl, rfl⟩
  go_wp2_with fail
  refine HWP.out.mono ?_
  rintro e w6 ⟨rfl, rfl⟩
  go_wp2
  go_ret
  exact ⟨(ret_eq (by first | rfl | (simp <;> omega))), B7.out⟩
end Go.Proofs.YteinppjklhomnaaDoor
