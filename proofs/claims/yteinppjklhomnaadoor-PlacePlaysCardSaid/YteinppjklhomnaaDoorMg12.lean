/- Texts put together: PlcY, PlcZ. -/
import Derived.Test.YteinppjklhomnaaDoorPlcW
/- works of layer 34. -/
namespace Go.Proofs.YteinppjklhomnaaDoor
open Go.RowKit Go.ChangeShapes Go.WideShapes
theorem pz_ge {w : World} {B gp gg gr wd : Nat} {R : List Rw} {Ls : List Ln} {r c : Int} {pd au : Bool} (h : PenAt w B gp gg gr wd R Ls r c pd au) (hB : B ≤ w.heap.size) (b : Nat) (hb : PZ w gp gr R b) : B ≤ b := by
  have hl := h.2.2.1.lt
  rcases hb with e | e | ⟨i, hi, e⟩ | e
  · subst e; exact h.2.1
  · omega
  · have := hl.2.2.2.2.2 i hi; rcases e with e | e <;> omega
  · omega
theorem PDo.belowB {w w1 : World} {B gp gg gr wd : Nat} {R : List Rw} {Ls L2 : List Ln} {r c r2 c2 : Int} {pd au pd2 au2 : Bool} (h : PenAt w B gp gg gr wd R Ls r c pd au) (hB : B ≤ w.heap.size) (k : PDo w B gp gg gr wd R L2 r2 c2 pd2 au2 w1) : Below B w w1 := by
  obtain ⟨R2, _, k2, _⟩ := k
  exact k2.below hB (pz_ge h hB)
/-- A text that was made behind the pen is off it. -/
theorem pen_text {w w1 : World} {B gp gg gr wd : Nat} {R : List Rw} {Ls : List Ln} {r c : Int} {pd au : Bool} (h : PenAt w B gp gg gr wd R Ls r c pd au) {u : Value} {ys : List Int} (hu : HeldE (intE .i32) (fun b => w.heap.size ≤ b) w1 u ys) : HeldE (intE .i32) (fun b => ¬ PZ w1 gp gr R b) w1 u ys := hu.zone fun b hlt hz e => by
  have hl := h.lt
  have hg := h.2.2.1.lt
  rcases e with e | e | ⟨i, hi, e⟩ | e
  · omega
  · omega
  · have := hg.2.2.2.2.2 i hi; rcases e with e | e <;> omega
  · omega
def wk0 : List Ln := List.replicate 2 (List.replicate 3 zc, false)
def wk1 : List Ln := plcL wk0 3 0 0 false true 1 [97]
def wk2 : List Ln := plcL wk1 3 0 1 false true 1 [98]
def wk3 : List Ln := plcL wk2 3 0 2 false true 2 [19968]
theorem wk_1 : plcR wk0 3 0 0 false true 1 = 0 ∧ plcC 3 0 false true 1 = 0 ∧ plcK 3 1 = 1 ∧ aftC 0 1 3 = 1 ∧ aftP 0 1 3 true = false ∧ wk0.length = 2 ∧ wk1.length = 2 := by decide +kernel
theorem wk_2 : plcR wk1 3 0 1 false true 1 = 0 ∧ plcC 3 1 false true 1 = 1 ∧ plcK 3 1 = 1 ∧ aftC 1 1 3 = 2 ∧ aftP 1 1 3 true = false ∧ wk1.length = 2 ∧ wk2.length = 2 := by decide +kernel
theorem wk_3 : plcR wk2 3 0 2 false true 2 = 1 ∧ plcC 3 2 false true 2 = 0 ∧ plcK 3 2 = 2 ∧ aftC 0 2 3 = 2 ∧ aftP 0 2 3 true = false ∧ wk2.length = 2 ∧ wk3.length = 2 ∧ (wk3.getD 0 zl).2 = true := by decide +kernel
theorem in_num : inI 0 (sideI 2) = ((0 : Nat) : Int) ∧ inI 0 (sideI 3) = ((0 : Nat) : Int) ∧ inI 1 (sideI 3) = ((1 : Nat) : Int) ∧ inI 2 (sideI 3) = ((2 : Nat) : Int) := by decide
set_option maxRecDepth 100000 in
set_option maxHeartbeats 3000000 in
theorem works34_any (w : World) : Calls Tryd.prog 10 #[] w (Yes w) := by
  have HNW := Lib.hid (pnew_any 3 2 w)
  rw [show rowN 3 = 3 from rfl, show rowN 2 = 2 from rfl] at HNW
  go_enter Tryd.func10, Tryd.ntmps10
  go_wp2_with fail
  refine HNW.out.mono ?_
  rintro e w1 ⟨gp, gg, gr, R0, rfl, h1, b1⟩
  have hb := (Below.refl w1.heap.size w1).alloc (Nat.le_refl _) (.cells [Value.int .i32 97].toArray 21)
  have ht := heldE_one (w := w1) (ty := 21) (E := intE .i32) (Y := fun _ => False) (Z := fun b => w1.heap.size ≤ b) [.int .i32 97] 97 rfl (fun _ _ h => h.elim) (Nat.le_refl _)
  have h1' := h1.below hb
  have hp := pput_any w.heap.size gp gg gr 3 R0 wk0 0 0 false true 1 _ [97] _ h1' (pen_text h1 ht) 0 0 false in_num.1 in_num.2.1 rfl (by decide) (by decide)
  rw [wk_1.1, wk_1.2.1, wk_1.2.2.1] at hp
  rw [show aftC ((0 : Nat) : Int) 1 ((3 : Nat) : Int) = 1 from wk_1.2.2.2.1, show aftP ((0 : Nat) : Int) 1 ((3 : Nat) : Int) true = false from wk_1.2.2.2.2.1] at hp
  have HP := Lib.hid hp
  have H1 := Lib.hid h1'
  have B1 := Lib.hid (b1.trans (hb.mono b1.size))
  clear hb ht h1' h1 b1 hp
  go_wp2_with fail
  refine HP.out.mono ?_
  rintro e w2 ⟨rfl, k2⟩
  have B2 := Lib.hid (B1.out.trans (k2.belowB H1.out B1.out.size))
  obtain ⟨R2, h2, _⟩ := k2
  have hb := (Below.refl w2.heap.size w2).alloc (Nat.le_refl _) (.cells [Value.int .i32 98].toArray 21)
  have ht := heldE_one (w := w2) (ty := 21) (E := intE .i32) (Y := fun _ => False) (Z := fun b => w2.heap.size ≤ b) [.int .i32 98] 98 rfl (fun _ _ h => h.elim) (Nat.le_refl _)
  have h2' := h2.below hb
  have hp := pput_any w.heap.size gp gg gr 3 R2 wk1 0 1 false true 1 _ [98] _ h2' (pen_text h2 ht) 0 1 false (by rw [wk_2.2.2.2.2.2.1]; exact in_num.1) in_num.2.2.1 rfl (by rw [wk_2.2.2.2.2.2.1]; decide) (by decide)
  rw [wk_2.1, wk_2.2.1, wk_2.2.2.1] at hp
  rw [show aftC ((1 : Nat) : Int) 1 ((3 : Nat) : Int) = 2 from wk_2.2.2.2.1, show aftP ((1 : Nat) : Int) 1 ((3 : Nat) : Int) true = false from wk_2.2.2.2.2.1] at hp
  have HP2 := Lib.hid hp
  have H2 := Lib.hid h2'
  have B3 := Lib.hid (B2.out.trans (hb.mono B2.out.size))
  clear hb ht h2' h2 hp HP H1 B1 B2
  go_wp2_with fail
  refine HP2.out.mono ?_
  rintro e w3 ⟨rfl, k3⟩
  have B4 := Lib.hid (B3.out.trans (k3.belowB H2.out B3.out.size))
  obtain ⟨R3, h3, _⟩ := k3
  have hb := (Below.refl w3.heap.size w3).alloc (Nat.le_refl _) (.cells [Value.int .i32 19968].toArray 21)
  have ht := heldE_one (w := w3) (ty := 21) (E := intE .i32) (Y := fun _ => False) (Z := fun b => w3.heap.size ≤ b) [.int .i32 19968] 19968 rfl (fun _ _ h => h.elim) (Nat.le_refl _)
  have h3' := h3.below hb
  have hp := pput_any w.heap.size gp gg gr 3 R3 wk2 0 2 false true 2 _ [19968] _ h3' (pen_text h3 ht) 0 2 false (by rw [wk_3.2.2.2.2.2.1]; exact in_num.1) in_num.2.2.2 rfl (by rw [wk_3.2.2.2.2.2.1]; decide) (by decide)
  rw [wk_3.1, wk_3.2.1, wk_3.2.2.1] at hp
  rw [show aftC ((0 : Nat) : Int) 2 ((3 : Nat) : Int) = 2 from wk_3.2.2.2.1, show aftP ((0 : Nat) : Int) 2 ((3 : Nat) : Int) true = false from wk_3.2.2.2.2.1] at hp
  have HP3 := Lib.hid hp
  have H3 := Lib.hid h3'
  have B5 := Lib.hid (B4.out.trans (hb.mono B4.out.size))
  clear hb ht h3' h3 hp HP2 H2 B3 B4
  go_wp2_with fail
  refine HP3.out.mono ?_
  rintro e w4 ⟨rfl, k4⟩
  have B6 := Lib.hid (B5.out.trans (k4.belowB H3.out B5.out.size))
  obtain ⟨R4, h4, _⟩ := k4
  have hb := (Below.refl w4.heap.size w4).alloc (Nat.le_refl _) (.cells [Value.int .i64 1, .int .i64 0, .bool false].toArray 29)
  have H5 := Lib.hid (h4.below hb)
  have B7 := Lib.hid (B6.out.trans (hb.mono B6.out.size))
  have hn := Has.new w4 [Value.int .i64 1, .int .i64 0, .bool false] 29
  have c0 := hn.cell 0 _ rfl
  have c1 := hn.cell 1 _ rfl
  have c2 := hn.cell 2 _ rfl
  have y0 := H5.out.1.cell 0 _ rfl
  have y1 := H5.out.1.cell 1 _ rfl
  have y2 := H5.out.1.cell 2 _ rfl
  have y3 := H5.out.1.cell 3 _ rfl
  have q1 := cur_self 1 0 false
  have q2 := cur_self 1 2 false
  have hrl := H5.out.sizes.2.2.2.2.1
  have hrl2 : R4.length = 2 := by rw [hrl]; exact wk_3.2.2.2.2.2.2.1
  have hrow := H5.out.2.2.1.row (i := 0) (by omega)
  have hwr := (row_line H5.out.2.2.2 0 (by omega)).2
  rw [show (plcL wk2 3 0 2 false true 2 [19968]) = wk3 from rfl, wk_3.2.2.2.2.2.2.2] at hwr
  obtain ⟨gk, hgk⟩ : ∃ gk, gk = (R4.getD 0 r0).g := ⟨_, rfl⟩
  have HRW := Lib.hid (show Calls Tryd.prog 43 #[.pointer (some ⟨gg, 0, none⟩), .int .i64 0] (w4.alloc (.cells [Value.int .i64 1, .int .i64 0, .bool false].toArray 29)) (fun e w' => e = .returned (.pointer (some ⟨gk, 0, none⟩)) ∧ (w4.alloc (.cells [Value.int .i64 1, .int .i64 0, .bool false].toArray 29)) = w') from by rw [hgk]; exact grow_in w.heap.size gg gr 3 R4 0 _ H5.out.2.2.1 (by omega))
  have HWP := Lib.hid (show Calls Tryd.prog 44 #[.pointer (some ⟨gk, 0, none⟩)] (w4.alloc (.cells [Value.int .i64 1, .int .i64 0, .bool false].toArray 29)) (fun e w' => e = .returned (.bool true) ∧ (w4.alloc (.cells [Value.int .i64 1, .int .i64 0, .bool false].toArray 29)) = w') from by rw [hgk, ← hwr]; exact rwrap_any _ _ _ _ _ _ _ hrow)
  clear h4 hb hn hrl hrl2 hrow hwr hgk B5 B6 H3 HP3
  go_wp2_with fail
  refine HRW.out.mono ?_
  rintro e w6 ⟨rfl, rfl⟩
  go_wp2_with fail
  refine HWP.out.mono ?_
  rintro e w6 ⟨rfl, rfl⟩
  go_wp2
  go_ret
  exact ⟨(ret_eq (by first | rfl | (simp <;> omega))), B7.out⟩
end Go.Proofs.YteinppjklhomnaaDoor
/- A pen and the reference's side by side. -/
namespace Go.Proofs.YteinppjklhomnaaDoor
open Go.RowKit Go.ChangeShapes Go.WideShapes
section
variable {w w1 w2 : World} {B gp gg gr wd g : Nat} {R R1 R2 : List Rw} {Ls L2 : List Ln} {r c r2 c2 : Int} {pd au pd2 au2 : Bool}
/-- A block of another type is none that the pen writes. -/
theorem has_off (h : PenAt w1 B gp gg gr wd R1 Ls r c pd au) {C : List Value} {t : TypeId} (hg : Has w1 g C t) (t0 : t ≠ 42) (t1 : t ≠ 102) (t2 : t ≠ 86) (t3 : t ≠ 132) (t4 : t ≠ 85) : ¬ PZ w1 gp gr R1 g := fun e => by
  have ho := h.2.2.1.other hg t1 t2 t3 t4
  have hl := hg.lt
  rcases e with e | e | ⟨i, hi, e⟩ | e
  · subst e; exact other_type hg h.1 t0
  · exact ho.2.1 e
  · rcases e with e | e
    · exact (ho.2.2 i hi).1 e
    · exact (ho.2.2 i hi).2 e
  · omega
/-- A write to a block beside that has no text. -/
theorem PenAt.beside (h : PenAt w1 B gp gg gr wd R1 Ls r c pd au) {C : List Value} {t : TypeId} (hg : Has w1 g C t) (t0 : t ≠ 42) (t1 : t ≠ 102) (t2 : t ≠ 86) (t3 : t ≠ 132) (t4 : t ≠ 85) (hx : NoTx w1 g) (hu : Upd (fun b => b = g) w1 w2) : PenAt w2 B gp gg gr wd R1 Ls r c pd au :=
  ⟨hu.keep.has h.1 (fun e => by subst e; exact other_type hg h.1 t0), h.2.1, h.2.2.1.pen hx (h.2.2.1.other hg t1 t2 t3 t4) hu, h.2.2.2⟩
theorem rp_notx {o : Option Addr} {n k : Nat} (h : Has w g [.slice o n k, .int .i64 r, .int .i64 c, .bool pd, .bool au] 31) : NoTx w g := fun q x e => by
  rw [cell_of_row w g q _ _ (0, 0) h] at e
  match q with
  | 0 => simp at e
  | 1 => simp at e
  | 2 => simp at e
  | 3 => simp at e
  | 4 => simp at e
  | q + 5 => simp at e
def NoSl (w : World) (g : Nat) : Prop := ∀ o a n k, w.cell? ⟨g, o, none⟩ ≠ some (.slice a n k)
theorem cells_off {Z : Zone} {w : World} {v : Value} {L : List Cl} {g : Nat} (h : HeldE cellE Z w v L) (hg : NoTx w g) (hs : NoSl w g) : HeldE cellE (fun b => Z b ∧ b ≠ g) w v L := by
  obtain ⟨ao, cap, rfl, hl, hm, hn, hc⟩ := h
  refine ⟨ao, cap, rfl, hl, hm, hn, fun i hi => ?_⟩
  obtain ⟨b, off, rfl, hb, hz, C, hC, hr⟩ := hc i hi
  obtain ⟨tv, rfl, ht⟩ := cell_rep.1 hr
  refine ⟨b, off, rfl, hb, ⟨hz, fun e => ?_⟩, _, hC, cell_rep.2 ⟨tv, rfl, text_off ht hg⟩⟩
  subst e
  obtain ⟨a, k, rfl⟩ := ht.len
  exact hs _ _ _ _ (hC 1 (by decide))
theorem ln_off {Z : Zone} {w : World} {v : Value} {L : List Ln} {g : Nat} (h : HeldE lineE Z w v L) (hg : NoTx w g) (hs : NoSl w g) : HeldE lineE (fun b => Z b ∧ b ≠ g) w v L := by
  obtain ⟨ao, cap, rfl, hl, hm, hn, hc⟩ := h
  refine ⟨ao, cap, rfl, hl, hm, hn, fun i hi => ?_⟩
  obtain ⟨b, off, rfl, hb, hz, C, hC, hr⟩ := hc i hi
  obtain ⟨cv, rfl, ht⟩ := line_rep.1 hr
  refine ⟨b, off, rfl, hb, ⟨hz, fun e => ?_⟩, _, hC, line_rep.2 ⟨cv, rfl, cells_off ht hg hs⟩⟩
  subst e
  obtain ⟨a, k, rfl⟩ := ht.len
  exact hs _ _ _ _ (hC 0 (by decide))
/-- Lines keep off a cursor's block. -/
theorem lines_off {Z : Zone} {w : World} {g : Nat} {a b : Int} {d : Bool} {v : Value} {Ls : List Ln} (h : HeldE lineE Z w v Ls) (hg : Has w g [.int .i64 a, .int .i64 b, .bool d] 29) : HeldE lineE (fun x => Z x ∧ x ≠ g) w v Ls := by
  refine ln_off h (cur_notx hg) fun o p n k e => ?_
  rw [cell_of_row w g o _ _ (0, 0) hg] at e
  match o with
  | 0 => simp at e
  | 1 => simp at e
  | 2 => simp at e
  | o + 3 => simp at e
/-- The pen (L2 ..) and the reference's box b8 (Ls ..). -/
def QAt (W : World) (B gp gg gr wd b8 : Nat) (R : List Rw) (L2 : List Ln) (r2 c2 : Int) (pd2 au2 : Bool) (Ls : List Ln) (r c : Int) (pd au : Bool) (o : Option Addr) (k : Nat) (wr : World) : Prop :=
  PenAt wr B gp gg gr wd R L2 r2 c2 pd2 au2 ∧ Has wr b8 [.slice o Ls.length k, .int .i64 r, .int .i64 c, .bool pd, .bool au] 31 ∧ HeldE lineE (fun b => ¬ PZ wr gp gr R b ∧ b ≠ b8) wr (.slice o Ls.length k) Ls ∧ Below W.heap.size W wr
end
section
variable {W w1 w2 : World} {B gp gg gr wd b8 : Nat} {R : List Rw} {L2 L3 Ls : List Ln} {r2 c2 r3 c3 r c : Int} {pd2 au2 pd3 au3 pd au : Bool} {o : Option Addr} {k : Nat}
theorem QAt.box (h : QAt W B gp gg gr wd b8 R L2 r2 c2 pd2 au2 Ls r c pd au o k w1) : ¬ PZ w1 gp gr R b8 := has_off h.1 h.2.1 (by decide) (by decide) (by decide) (by decide) (by decide)
theorem QAt.below (h : QAt W B gp gg gr wd b8 R L2 r2 c2 pd2 au2 Ls r c pd au o k w1) (hb : Below w1.heap.size w1 w2) : QAt W B gp gg gr wd b8 R L2 r2 c2 pd2 au2 Ls r c pd au o k w2 :=
  ⟨h.1.below hb, h.2.1.below hb h.2.1.lt, (h.2.2.1.below hb).zone (fun b _ hz => ⟨fun e => hz.1 (PZ.from (RowsFrom.self _ _) hb.size b e), hz.2⟩), h.2.2.2.trans (hb.mono h.2.2.2.size)⟩
/-- The pen took a step. -/
theorem QAt.go (hW : W.heap.size ≤ B) (hB : B ≤ w1.heap.size) (h : QAt W B gp gg gr wd b8 R L2 r2 c2 pd2 au2 Ls r c pd au o k w1) (hd : PDo w1 B gp gg gr wd R L3 r3 c3 pd3 au3 w2) : ∃ R3, QAt W B gp gg gr wd b8 R3 L3 r3 c3 pd3 au3 Ls r c pd au o k w2 := by
  have hb8 := h.box
  obtain ⟨R3, k1, k2, k3⟩ := hd
  refine ⟨R3, k1, k2.keep.has h.2.1 hb8, (h.2.2.1.upd k2 (fun b hz => hz.1)).zone (fun b _ hz => ⟨fun e => hz.1 (PZ.from k3 k2.size b e), hz.2⟩), h.2.2.2.trans (k2.below h.2.2.2.size (fun b e => Nat.le_trans hW (pz_ge h.1 hB b e)))⟩
/-- What was made behind the pen is off it. -/
theorem new_off (h : PenAt w1 B gp gg gr wd R L2 r2 c2 pd2 au2) (b : Nat) (h1 : w1.heap.size ≤ b) (h2 : b < w2.heap.size) : ¬ PZ w2 gp gr R b := fun e => by
  have hl := h.lt
  have hg := h.2.2.1.lt
  rcases e with e | e | ⟨i, hi, e⟩ | e
  · omega
  · omega
  · have := hg.2.2.2.2.2 i hi; rcases e with e | e <;> omega
  · omega
/-- The reference's box takes a pen. -/
theorem QAt.put (hb8 : W.heap.size ≤ b8) (h : QAt W B gp gg gr wd b8 R L2 r2 c2 pd2 au2 Ls r c pd au o k w1) {o' : Option Addr} {k' n' : Nat} (hb : Below w1.heap.size w1 w2) (hv : HeldE lineE (fun b => ((¬ PZ w1 gp gr R b ∧ b ≠ b8) ∧ b < w1.heap.size) ∨ (w1.heap.size ≤ b ∧ b < w2.heap.size)) w2 (.slice o' n' k') L3) : QAt W B gp gg gr wd b8 R L2 r2 c2 pd2 au2 L3 r3 c3 pd3 au3 o' k' (((((w2.setCell ⟨b8, 0, none⟩ (.slice o' n' k')).setCell ⟨b8, 1, none⟩ (.int .i64 r3)).setCell ⟨b8, 2, none⟩ (.int .i64 c3)).setCell ⟨b8, 3, none⟩ (.bool pd3)).setCell ⟨b8, 4, none⟩ (.bool au3)) := by
  have hq := h.below hb
  obtain ⟨o9, k9, e9⟩ := hv.len
  simp only [Value.slice.injEq] at e9
  obtain ⟨rfl, rfl, rfl⟩ := e9
  have hu := pres_upd (W := w2) b8 (.slice o' L3.length k') (.int .i64 r3) (.int .i64 c3) (.bool pd3) (.bool au3)
  have hlt := h.2.1.lt
  have hz : ∀ b, b < w2.heap.size → (((¬ PZ w1 gp gr R b ∧ b ≠ b8) ∧ b < w1.heap.size) ∨ (w1.heap.size ≤ b ∧ b < w2.heap.size)) → (¬ PZ w2 gp gr R b ∧ b ≠ b8) := fun b _ hz => by
    rcases hz with hz | hz
    · exact ⟨fun e => hz.1.1 (PZ.from (RowsFrom.self _ _) hb.size b e), hz.1.2⟩
    · exact ⟨new_off h.1 b hz.1 hz.2, by omega⟩
  have hp := hq.1.beside hq.2.1 (by decide) (by decide) (by decide) (by decide) (by decide) (rp_notx hq.2.1) hu
  refine ⟨hp, pres_has hq.2.1 _ _ _ _ _, ((hv.zone hz).upd hu (fun b hz => hz.2)).zone (fun b hlt' hz => ⟨fun e => hz.1 ?_, hz.2⟩), hq.2.2.2.trans (hu.below hq.2.2.2.size (fun b e => by omega))⟩
  rcases e with e | e | e | e
  · exact .inl e
  · exact .inr (.inl e)
  · exact .inr (.inr (.inl e))
  · exact .inr (.inr (.inr (by have := hu.size; omega)))
/-- The box's cursor, the box's mark. -/
theorem QAt.cur (hb8 : W.heap.size ≤ b8) (h : QAt W B gp gg gr wd b8 R L2 r2 c2 pd2 au2 Ls r c pd au o k w1) (r3 c3 : Int) (pd3 : Bool) : QAt W B gp gg gr wd b8 R L2 r2 c2 pd2 au2 Ls r3 c3 pd3 au o k (((w1.setCell ⟨b8, 1, none⟩ (.int .i64 r3)).setCell ⟨b8, 2, none⟩ (.int .i64 c3)).setCell ⟨b8, 3, none⟩ (.bool pd3)) := by
  have hu : Upd (fun b => b = b8) w1 (((w1.setCell ⟨b8, 1, none⟩ (.int .i64 r3)).setCell ⟨b8, 2, none⟩ (.int .i64 c3)).setCell ⟨b8, 3, none⟩ (.bool pd3)) := (((Upd.refl (fun b => b = b8) w1).setCell (p := ⟨b8, 1, none⟩) (.inl rfl) _).setCell (p := ⟨b8, 2, none⟩) (.inl rfl) _).setCell (p := ⟨b8, 3, none⟩) (.inl rfl) _
  have hp := h.1.beside h.2.1 (by decide) (by decide) (by decide) (by decide) (by decide) (rp_notx h.2.1) hu
  refine ⟨hp, ((h.2.1.set 1 _).set 2 _).set 3 _, (h.2.2.1.upd hu (fun b hz => hz.2)).zone (fun b hlt' hz => ⟨fun e => hz.1 ?_, hz.2⟩), h.2.2.2.trans (hu.below h.2.2.2.size (fun b e => by omega))⟩
  rcases e with e | e | e | e
  · exact .inl e
  · exact .inr (.inl e)
  · exact .inr (.inr (.inl e))
  · exact .inr (.inr (.inr (by have := hu.size; omega)))
theorem QAt.auto (hb8 : W.heap.size ≤ b8) (h : QAt W B gp gg gr wd b8 R L2 r2 c2 pd2 au2 Ls r c pd au o k w1) (au3 : Bool) : QAt W B gp gg gr wd b8 R L2 r2 c2 pd2 au2 Ls r c pd au3 o k (w1.setCell ⟨b8, 4, none⟩ (.bool au3)) := by
  have hu : Upd (fun b => b = b8) w1 (w1.setCell ⟨b8, 4, none⟩ (.bool au3)) := (Upd.refl (fun b => b = b8) w1).setCell (p := ⟨b8, 4, none⟩) (.inl rfl) _
  have hp := h.1.beside h.2.1 (by decide) (by decide) (by decide) (by decide) (by decide) (rp_notx h.2.1) hu
  refine ⟨hp, h.2.1.set 4 _, (h.2.2.1.upd hu (fun b hz => hz.2)).zone (fun b hlt' hz => ⟨fun e => hz.1 ?_, hz.2⟩), h.2.2.2.trans (hu.below h.2.2.2.size (fun b e => by omega))⟩
  rcases e with e | e | e | e
  · exact .inl e
  · exact .inr (.inl e)
  · exact .inr (.inr (.inl e))
  · exact .inr (.inr (.inr (by have := hu.size; omega)))
/-- A cursor's block beside was written. -/
theorem QAt.cursor {g : Nat} {a b : Int} {d : Bool} (_ : W.heap.size ≤ b8) (h : QAt W B gp gg gr wd b8 R L2 r2 c2 pd2 au2 Ls r c pd au o k w1) (hg : Has w1 g [.int .i64 a, .int .i64 b, .bool d] 29) (hW : W.heap.size ≤ g) (hne : g ≠ b8) (hu : Upd (fun x => x = g) w1 w2) : QAt W B gp gg gr wd b8 R L2 r2 c2 pd2 au2 Ls r c pd au o k w2 := by
  have hgg := hg
  have hz : HeldE lineE (fun x => (¬ PZ w1 gp gr R x ∧ x ≠ b8) ∧ x ≠ g) w1 (.slice o Ls.length k) Ls := lines_off h.2.2.1 hg
  refine ⟨h.1.beside hg (by decide) (by decide) (by decide) (by decide) (by decide) (cur_notx hg) hu, hu.keep.has h.2.1 (fun e => hne e.symm), (hz.upd hu (fun x hx => hx.2)).zone (fun x hlt' hx => ⟨fun e => hx.1.1 ?_, hx.1.2⟩), h.2.2.2.trans (hu.below h.2.2.2.size (fun x e => by omega))⟩
  rcases e with e | e | e | e
  · exact .inl e
  · exact .inr (.inl e)
  · exact .inr (.inr (.inl e))
  · exact .inr (.inr (.inr (by have := hu.size; omega)))
/-- The pen's own mark. -/
theorem PDo.auto (h : PenAt w1 B gp gg gr wd R Ls r c pd au) (au3 : Bool) : PDo w1 B gp gg gr wd R Ls r c pd au3 (w1.setCell ⟨gp, 4, none⟩ (.bool au3)) :=
  PDo.turn h (h.1.set 4 _) ((Upd.refl (fun b => b = gp) w1).setCell (p := ⟨gp, 4, none⟩) (.inl rfl) _)
end
theorem in_nat (r : Int) {n : Nat} (h : 0 < n) (hn : n ≤ 1024) : ∃ r2 : Nat, inI r (sideI n) = (r2 : Int) ∧ r2 < n := by
  have hs : sideI n = (n : Int) := by unfold sideI; omega
  rw [hs]
  refine ⟨(inI r n).toNat, ?_, ?_⟩ <;> unfold inI <;> (repeat' split) <;> omega
end Go.Proofs.YteinppjklhomnaaDoor
