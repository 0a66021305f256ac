/- Texts put together: PlcW, PlcY, PlcZ, WidB. -/
import Derived.Test.YtoeggiplcaegoaaGreatDoorPlcX
import Derived.Test.YtoeggiplcaegoaaGreatDoorPlcF
import Derived.Test.YtoeggiplcaegoaaGreatDoorMg7
import Derived.Test.YtoeggiplcaegoaaGreatDoorWidA
import Derived.Test.YtoeggiplcaegoaaGreatDoorMg1
/- Layer 34: the reference's New, Alike, works. -/
namespace Go.Proofs.YtoeggiplcaegoaaGreatDoor
open Go.RowKit Go.ChangeShapes Go.WideShapes
end Go.Proofs.YtoeggiplcaegoaaGreatDoor
/- works of layer 34. -/
namespace Go.Proofs.YtoeggiplcaegoaaGreatDoor
open Go.RowKit Go.ChangeShapes Go.WideShapes
theorem pz_ge {w : World} {B gp gg gr wd : Nat} {R : List Rw} {Ls : List Ln} {r c : Int} {pd au : Bool} (h : PenAt w B gp gg gr wd R Ls r c pd au) (hB : B ≤ w.heap.size) (b : Nat) (hb : PZ w gp gr R b) : B ≤ b := by
  have hl := h.2.2.1.lt
  rcases hb with e | e | ⟨i, hi, e⟩ | e
  · subst e; exact h.2.1
  · omega
  · have := hl.2.2.2.2.2 i hi; rcases e with e | e <;> omega
  · omega
end Go.Proofs.YtoeggiplcaegoaaGreatDoor
/- A pen and the reference's side by side. -/
namespace Go.Proofs.YtoeggiplcaegoaaGreatDoor
open Go.RowKit Go.ChangeShapes Go.WideShapes
section
variable {w w1 w2 : World} {B gp gg gr wd g : Nat} {R R1 R2 : List Rw} {Ls L2 : List Ln} {r c r2 c2 : Int} {pd au pd2 au2 : Bool}
/-- A block of another type is none that the pen writes. -/
theorem has_off (h : PenAt w1 B gp gg gr wd R1 Ls r c pd au) {C : List Value} {t : TypeId} (hg : Has w1 g C t) (t0 : t ≠ 42) (t1 : t ≠ 119) (t2 : t ≠ 113) (t3 : t ≠ 187) (t4 : t ≠ 147) : ¬ PZ w1 gp gr R1 g := fun e => by
  have ho := h.2.2.1.other hg t1 t2 t3 t4
  have hl := hg.lt
  rcases e with e | e | ⟨i, hi, e⟩ | e
  · subst e; exact other_type hg h.1 t0
  · exact ho.2.1 e
  · rcases e with e | e
    · exact (ho.2.2 i hi).1 e
    · exact (ho.2.2 i hi).2 e
  · omega
/-- A write to a block beside that has no text. -/
theorem PenY.beside (h : PenAt w1 B gp gg gr wd R1 Ls r c pd au) {C : List Value} {t : TypeId} (hg : Has w1 g C t) (t0 : t ≠ 42) (t1 : t ≠ 119) (t2 : t ≠ 113) (t3 : t ≠ 187) (t4 : t ≠ 147) (hx : NoTx w1 g) (hu : Upd (fun b => b = g) w1 w2) : PenAt w2 B gp gg gr wd R1 Ls r c pd au :=
  ⟨hu.keep.has h.1 (fun e => by subst e; exact other_type hg h.1 t0), h.2.1, h.2.2.1.pen hx (h.2.2.1.other hg t1 t2 t3 t4) hu, h.2.2.2⟩
theorem rp_notx {o : Option Addr} {n k : Nat} (h : Has w g [.slice o n k, .int .i64 r, .int .i64 c, .bool pd, .bool au] 43) : NoTx w g := fun q x e => by
  rw [cell_of_row w g q _ _ (0, 0) h] at e
  match q with
  | 0 => simp at e
  | 1 => simp at e
  | 2 => simp at e
  | 3 => simp at e
  | 4 => simp at e
  | q + 5 => simp at e
def NoSl (w : World) (g : Nat) : Prop := ∀ o a n k, w.cell? ⟨g, o, none⟩ ≠ some (.slice a n k)
theorem cells_off {Z : Zone} {w : World} {v : Value} {L : List Cl} {g : Nat} (h : HeldE cellE Z w v L) (hg : NoTx w g) (hs : NoSl w g) : HeldE cellE (fun b => Z b ∧ b ≠ g) w v L := by
  obtain ⟨ao, cap, rfl, hl, hm, hn, hc⟩ := h
  refine ⟨ao, cap, rfl, hl, hm, hn, fun i hi => ?_⟩
  obtain ⟨b, off, rfl, hb, hz, C, hC, hr⟩ := hc i hi
  obtain ⟨tv, rfl, ht⟩ := cell_rep.1 hr
  refine ⟨b, off, rfl, hb, ⟨hz, fun e => ?_⟩, _, hC, cell_rep.2 ⟨tv, rfl, text_off ht hg⟩⟩
  subst e
  obtain ⟨a, k, rfl⟩ := ht.len
  exact hs _ _ _ _ (hC 1 (by decide))
theorem ln_off {Z : Zone} {w : World} {v : Value} {L : List Ln} {g : Nat} (h : HeldE lineE Z w v L) (hg : NoTx w g) (hs : NoSl w g) : HeldE lineE (fun b => Z b ∧ b ≠ g) w v L := by
  obtain ⟨ao, cap, rfl, hl, hm, hn, hc⟩ := h
  refine ⟨ao, cap, rfl, hl, hm, hn, fun i hi => ?_⟩
  obtain ⟨b, off, rfl, hb, hz, C, hC, hr⟩ := hc i hi
  obtain ⟨cv, rfl, ht⟩ := line_rep.1 hr
  refine ⟨b, off, rfl, hb, ⟨hz, fun e => ?_⟩, _, hC, line_rep.2 ⟨cv, rfl, cells_off ht hg hs⟩⟩
  subst e
  obtain ⟨a, k, rfl⟩ := ht.len
  exact hs _ _ _ _ (hC 0 (by decide))
/-- Lines keep off a cursor's block. -/
theorem lines_off {Z : Zone} {w : World} {g : Nat} {a b : Int} {d : Bool} {v : Value} {Ls : List Ln} (h : HeldE lineE Z w v Ls) (hg : Has w g [.int .i64 a, .int .i64 b, .bool d] 24) : HeldE lineE (fun x => Z x ∧ x ≠ g) w v Ls := by
  refine ln_off h (cur_notx hg) fun o p n k e => ?_
  rw [cell_of_row w g o _ _ (0, 0) hg] at e
  match o with
  | 0 => simp at e
  | 1 => simp at e
  | 2 => simp at e
  | o + 3 => simp at e
/-- The pen (L2 ..) and the reference's box b8 (Ls ..). -/
def QAt (W : World) (B gp gg gr wd b8 : Nat) (R : List Rw) (L2 : List Ln) (r2 c2 : Int) (pd2 au2 : Bool) (Ls : List Ln) (r c : Int) (pd au : Bool) (o : Option Addr) (k : Nat) (wr : World) : Prop :=
  PenAt wr B gp gg gr wd R L2 r2 c2 pd2 au2 ∧ Has wr b8 [.slice o Ls.length k, .int .i64 r, .int .i64 c, .bool pd, .bool au] 43 ∧ HeldE lineE (fun b => ¬ PZ wr gp gr R b ∧ b ≠ b8) wr (.slice o Ls.length k) Ls ∧ Below W.heap.size W wr
end
section
variable {W w1 w2 : World} {B gp gg gr wd b8 : Nat} {R : List Rw} {L2 L3 Ls : List Ln} {r2 c2 r3 c3 r c : Int} {pd2 au2 pd3 au3 pd au : Bool} {o : Option Addr} {k : Nat}
theorem QAt.box (h : QAt W B gp gg gr wd b8 R L2 r2 c2 pd2 au2 Ls r c pd au o k w1) : ¬ PZ w1 gp gr R b8 := has_off h.1 h.2.1 (by decide) (by decide) (by decide) (by decide) (by decide)
theorem QAt.below (h : QAt W B gp gg gr wd b8 R L2 r2 c2 pd2 au2 Ls r c pd au o k w1) (hb : Below w1.heap.size w1 w2) : QAt W B gp gg gr wd b8 R L2 r2 c2 pd2 au2 Ls r c pd au o k w2 :=
  ⟨h.1.below hb, h.2.1.below hb h.2.1.lt, (h.2.2.1.below hb).zone (fun b _ hz => ⟨fun e => hz.1 (PZ.from (RowsFrom.self _ _) hb.size b e), hz.2⟩), h.2.2.2.trans (hb.mono h.2.2.2.size)⟩
/-- The pen took a step. -/
theorem QAt.go (hW : W.heap.size ≤ B) (hB : B ≤ w1.heap.size) (h : QAt W B gp gg gr wd b8 R L2 r2 c2 pd2 au2 Ls r c pd au o k w1) (hd : PDo w1 B gp gg gr wd R L3 r3 c3 pd3 au3 w2) : ∃ R3, QAt W B gp gg gr wd b8 R3 L3 r3 c3 pd3 au3 Ls r c pd au o k w2 := by
  have hb8 := h.box
  obtain ⟨R3, k1, k2, k3⟩ := hd
  refine ⟨R3, k1, k2.keep.has h.2.1 hb8, (h.2.2.1.upd k2 (fun b hz => hz.1)).zone (fun b _ hz => ⟨fun e => hz.1 (PZ.from k3 k2.size b e), hz.2⟩), h.2.2.2.trans (k2.below h.2.2.2.size (fun b e => Nat.le_trans hW (pz_ge h.1 hB b e)))⟩
/-- What was made behind the pen is off it. -/
theorem new_off (h : PenAt w1 B gp gg gr wd R L2 r2 c2 pd2 au2) (b : Nat) (h1 : w1.heap.size ≤ b) (h2 : b < w2.heap.size) : ¬ PZ w2 gp gr R b := fun e => by
  have hl := h.lt
  have hg := h.2.2.1.lt
  rcases e with e | e | ⟨i, hi, e⟩ | e
  · omega
  · omega
  · have := hg.2.2.2.2.2 i hi; rcases e with e | e <;> omega
  · omega
/-- The reference's box takes a pen. -/
theorem QAt.put (hb8 : W.heap.size ≤ b8) (h : QAt W B gp gg gr wd b8 R L2 r2 c2 pd2 au2 Ls r c pd au o k w1) {o' : Option Addr} {k' n' : Nat} (hb : Below w1.heap.size w1 w2) (hv : HeldE lineE (fun b => ((¬ PZ w1 gp gr R b ∧ b ≠ b8) ∧ b < w1.heap.size) ∨ (w1.heap.size ≤ b ∧ b < w2.heap.size)) w2 (.slice o' n' k') L3) : QAt W B gp gg gr wd b8 R L2 r2 c2 pd2 au2 L3 r3 c3 pd3 au3 o' k' (((((w2.setCell ⟨b8, 0, none⟩ (.slice o' n' k')).setCell ⟨b8, 1, none⟩ (.int .i64 r3)).setCell ⟨b8, 2, none⟩ (.int .i64 c3)).setCell ⟨b8, 3, none⟩ (.bool pd3)).setCell ⟨b8, 4, none⟩ (.bool au3)) := by
  have hq := h.below hb
  obtain ⟨o9, k9, e9⟩ := hv.len
  simp only [Value.slice.injEq] at e9
  obtain ⟨rfl, rfl, rfl⟩ := e9
  have hu := pres_upd (W := w2) b8 (.slice o' L3.length k') (.int .i64 r3) (.int .i64 c3) (.bool pd3) (.bool au3)
  have hlt := h.2.1.lt
  have hz : ∀ b, b < w2.heap.size → (((¬ PZ w1 gp gr R b ∧ b ≠ b8) ∧ b < w1.heap.size) ∨ (w1.heap.size ≤ b ∧ b < w2.heap.size)) → (¬ PZ w2 gp gr R b ∧ b ≠ b8) := fun b _ hz => by
    rcases hz with hz | hz
    · exact ⟨fun e => hz.1.1 (PZ.from (RowsFrom.self _ _) hb.size b e), hz.1.2⟩
    · exact ⟨new_off h.1 b hz.1 hz.2, by omega⟩
  have hp := hq.1.beside hq.2.1 (by decide) (by decide) (by decide) (by decide) (by decide) (rp_notx hq.2.1) hu
  refine ⟨hp, pres_has hq.2.1 _ _ _ _ _, ((hv.zone hz).upd hu (fun b hz => hz.2)).zone (fun b hlt' hz => ⟨fun e => hz.1 ?_, hz.2⟩), hq.2.2.2.trans (hu.below hq.2.2.2.size (fun b e => by omega))⟩
  rcases e with e | e | e | e
  · exact .inl e
  · exact .inr (.inl e)
  · exact .inr (.inr (.inl e))
  · exact .inr (.inr (.inr (by have := hu.size; omega)))
/-- The box's cursor, the box's mark. -/
theorem QAt.cur (hb8 : W.heap.size ≤ b8) (h : QAt W B gp gg gr wd b8 R L2 r2 c2 pd2 au2 Ls r c pd au o k w1) (r3 c3 : Int) (pd3 : Bool) : QAt W B gp gg gr wd b8 R L2 r2 c2 pd2 au2 Ls r3 c3 pd3 au o k (((w1.setCell ⟨b8, 1, none⟩ (.int .i64 r3)).setCell ⟨b8, 2, none⟩ (.int .i64 c3)).setCell ⟨b8, 3, none⟩ (.bool pd3)) := by
  have hu : Upd (fun b => b = b8) w1 (((w1.setCell ⟨b8, 1, none⟩ (.int .i64 r3)).setCell ⟨b8, 2, none⟩ (.int .i64 c3)).setCell ⟨b8, 3, none⟩ (.bool pd3)) := (((Upd.refl (fun b => b = b8) w1).setCell (p := ⟨b8, 1, none⟩) (.inl rfl) _).setCell (p := ⟨b8, 2, none⟩) (.inl rfl) _).setCell (p := ⟨b8, 3, none⟩) (.inl rfl) _
  have hp := h.1.beside h.2.1 (by decide) (by decide) (by decide) (by decide) (by decide) (rp_notx h.2.1) hu
  refine ⟨hp, ((h.2.1.set 1 _).set 2 _).set 3 _, (h.2.2.1.upd hu (fun b hz => hz.2)).zone (fun b hlt' hz => ⟨fun e => hz.1 ?_, hz.2⟩), h.2.2.2.trans (hu.below h.2.2.2.size (fun b e => by omega))⟩
  rcases e with e | e | e | e
  · exact .inl e
  · exact .inr (.inl e)
  · exact .inr (.inr (.inl e))
  · exact .inr (.inr (.inr (by have := hu.size; omega)))
/-- A cursor's block beside was written. -/
theorem QAt.cursor {g : Nat} {a b : Int} {d : Bool} (_ : W.heap.size ≤ b8) (h : QAt W B gp gg gr wd b8 R L2 r2 c2 pd2 au2 Ls r c pd au o k w1) (hg : Has w1 g [.int .i64 a, .int .i64 b, .bool d] 24) (hW : W.heap.size ≤ g) (hne : g ≠ b8) (hu : Upd (fun x => x = g) w1 w2) : QAt W B gp gg gr wd b8 R L2 r2 c2 pd2 au2 Ls r c pd au o k w2 := by
  have hgg := hg
  have hz : HeldE lineE (fun x => (¬ PZ w1 gp gr R x ∧ x ≠ b8) ∧ x ≠ g) w1 (.slice o Ls.length k) Ls := lines_off h.2.2.1 hg
  refine ⟨h.1.beside hg (by decide) (by decide) (by decide) (by decide) (by decide) (cur_notx hg) hu, hu.keep.has h.2.1 (fun e => hne e.symm), (hz.upd hu (fun x hx => hx.2)).zone (fun x hlt' hx => ⟨fun e => hx.1.1 ?_, hx.1.2⟩), h.2.2.2.trans (hu.below h.2.2.2.size (fun x e => by omega))⟩
  rcases e with e | e | e | e
  · exact .inl e
  · exact .inr (.inl e)
  · exact .inr (.inr (.inl e))
  · exact .inr (.inr (.inr (by have := hu.size; omega)))
end
theorem in_nat (r : Int) {n : Nat} (h : 0 < n) (hn : n ≤ 1024) : ∃ r2 : Nat, inI r (sideI n) = (r2 : Int) ∧ r2 < n := by
  have hs : sideI n = (n : Int) := by unfold sideI; omega
  rw [hs]
  refine ⟨(inI r n).toNat, ?_, ?_⟩ <;> unfold inI <;> (repeat' split) <;> omega
end Go.Proofs.YtoeggiplcaegoaaGreatDoor
/- widen: grow; a pen beside an open cluster. -/
namespace Go.Proofs.YtoeggiplcaegoaaGreatDoor
open Go.RowKit Go.ChangeShapes Go.WideShapes
/-- A write to a block that has none of the grid's texts, and is of another type. -/
theorem GridY.apart {Yo : Zone} {w w' : World} {B gg gr wd g : Nat} {Rs : List Rw} {C : List Value} (h : GridY Yo w B gg gr wd Rs) (hne : ∀ b, Yo b → b ≠ g) (hg : Has w g C 130) (hu : Upd (fun b => b = g) w w') : GridY Yo w' B gg gr wd Rs := by
  have ho := h.other hg (by decide) (by decide) (by decide) (by decide)
  obtain ⟨Z, cap, h1, h2, h3, h4, h5, h6, h7, h8, h9, h10, hY⟩ := h
  have hk := hu.keep
  refine ⟨Z, cap, fun b hz => ⟨(h1 b hz).1, Nat.lt_of_lt_of_le (h1 b hz).2 hu.size⟩, hk.has h2 (fun e => ho.1 e.symm), h3, ?_, h5, h6, h7.upd hu (fun b hz e => hne b (hY b (.inl hz)) e) (fun i hi => ⟨fun e => (ho.2.2 i hi).1 e.symm, fun e => (ho.2.2 i hi).2 e.symm⟩), h8, h9, h10, fun b hb => hY b (hb.imp id (Nat.le_trans hu.size))⟩
  exact own_ptrs (hk.own h4.ptrs fun b hb e => by
    have : gr = b := by simpa [Value.ownBlock] using hb
    exact ho.2.1 (by rw [this]; exact e.symm))
theorem PenY.apart {Yo : Zone} {w w' : World} {B gp gg gr wd g : Nat} {Rs : List Rw} {Ls : List Ln} {r c : Int} {pd au : Bool} {C : List Value} (h : PenY Yo w B gp gg gr wd Rs Ls r c pd au) (hne : ∀ b, Yo b → b ≠ g) (hg : Has w g C 130) (hu : Upd (fun b => b = g) w w') : PenY Yo w' B gp gg gr wd Rs Ls r c pd au :=
  ⟨hu.keep.has h.1 (fun e => by subst e; exact other_type hg h.1 (by decide)), h.2.1, h.2.2.1.apart hne hg hu, h.2.2.2⟩
/-- A block that is made behind the grid has none of its texts, whatever else has none. -/
theorem GridY.new2 {Yo : Zone} {w : World} {B gg gr wd : Nat} {Rs : List Rw} (h : GridY Yo w B gg gr wd Rs) (o : Obj) : GridY (fun b => Yo b ∧ b ≠ w.heap.size) (w.alloc o) B gg gr wd Rs := by
  have hb := (Below.refl w.heap.size w).alloc (Nat.le_refl _) o
  obtain ⟨Z', cap', k1, k2, k3, k4, k5, k6, k7, k8, k9, k10, kY⟩ := h
  have hs : (w.alloc o).heap.size = w.heap.size + 1 := by simp
  refine ⟨Z', cap', fun b hz => ⟨(k1 b hz).1, by have := (k1 b hz).2; omega⟩, k2.below hb k2.lt, k3, k4.below hb, k5, k6, k7.below hb, k8, k9, k10, fun b hz => ?_⟩
  rcases hz with hz | hz
  · exact ⟨kY b (.inl hz), by have := (k1 b hz).2; omega⟩
  · exact ⟨kY b (.inr (by omega)), by omega⟩
/-- A pen's block is none that the pen of another type writes. -/
theorem wid_off {w1 : World} {B gp gg gr wd g : Nat} {R1 : List Rw} {Ls : List Ln} {r c : Int} {pd au : Bool} {Yo : Zone} (h : PenY Yo w1 B gp gg gr wd R1 Ls r c pd au) {C : List Value} (hg : Has w1 g C 130) : ¬ PZ w1 gp gr R1 g := fun e => by
  have ho := h.2.2.1.other hg (by decide) (by decide) (by decide) (by decide)
  have hl := hg.lt
  rcases e with e | e | ⟨i, hi, e⟩ | e
  · subst e; exact other_type hg h.1 (by decide)
  · exact ho.2.1 e
  · rcases e with e | e
    · exact (ho.2.2 i hi).1 e
    · exact (ho.2.2 i hi).2 e
  · omega
/-- A text that was made behind the pen is off it. -/
theorem wid_text {w w1 : World} {B gp gg gr wd : Nat} {R : List Rw} {Ls : List Ln} {r c : Int} {pd au : Bool} {Yo : Zone} (h : PenY Yo w B gp gg gr wd R Ls r c pd au) {u : Value} {ys : List Int} (hu : HeldE (intE .i32) (fun b => w.heap.size ≤ b) w1 u ys) : HeldE (intE .i32) (fun b => ¬ PZ w1 gp gr R b) w1 u ys := hu.zone fun b hlt hz e => by
  have hl := h.lt
  have hg := h.2.2.1.lt
  rcases e with e | e | ⟨i, hi, e⟩ | e
  · omega
  · omega
  · have := hg.2.2.2.2.2 i hi; rcases e with e | e <;> omega
  · omega
def gwI (c : Bool) : Int := if c = true then 2 else 1
set_option maxRecDepth 100000 in
set_option maxHeartbeats 3000000 in
theorem wgrow_any (g : Nat) (l : List Int) (a b c : Bool) (wd rr k : Int) (p : Bool) (x br : Int) (pc : Bool) (cv ea : Int) (w : World) (h : WAt w g l a b c wd rr k p) (hl : l.length < 16) :
    Calls Tryz.prog 72 #[.pointer (some ⟨g, 0, none⟩), .int .i32 x, .agg #[.int .i64 br, .bool pc, .int .i64 cv, .int .i64 ea]] w (fun e w' => e = .returned (.tuple #[]) ∧ WAt w' g (l ++ [repl x]) true pc (c || widB a b (repl x) br pc ea) (gwI (c || widB a b (repl x) br pc ea)) rr k p ∧ But g w.heap.size w w') := by
  obtain ⟨W1, hW1, hp, hb⟩ := wgbox w br pc cv ea
  obtain ⟨gq, hgq⟩ : ∃ gq, gq = w.heap.size := ⟨_, rfl⟩
  rw [← hgq] at hp
  have HGQ := Lib.hid hgq
  have HGG := Lib.hid (show g ≠ gq from by have := h.lt; omega)
  have H1 := Lib.hid (h.below hb)
  have HP := Lib.hid hp
  have HB := Lib.hid hb
  have hb2 := (Below.refl W1.heap.size W1).alloc (Nat.le_refl _) (.cells [Value.int .i32 x].toArray 21)
  have ht := held_new .i32 W1 [Value.int .i32 x] 21 1 1 [x] rfl rfl
  have HRP := Lib.hid (replace_any _ [x] _ ht (by simp))
  have HB2 := Lib.hid hb2
  obtain ⟨y, hy⟩ : ∃ y, y = repl x := ⟨_, rfl⟩
  have HY := Lib.hid hy
  have HLL := Lib.hid hl
  clear h hp hb hb2 ht hgq hl
  rw [← hy]
  clear hy
  go_enter Tryz.func72, Tryz.ntmps72
  go_upto_region 1 with (fail)
  rw [← hW1, ← HGQ.out]
  clear hW1
  go_wp2_with fail
  refine HRP.out.mono ?_
  rintro e w3 ⟨v3, rfl, h3, b3⟩
  have h3 : Held .i32 w3 v3 [y] := by rw [HY.out]; exact h3
  obtain ⟨o3, k3, e3, hc3⟩ := h3.view
  rw [show [y].length = 1 from rfl] at e3
  obtain ⟨bt, ot, eo, hbt, hct⟩ := hc3 0 (by simp)
  subst eo
  subst e3
  rw [Nat.add_zero] at hct
  have hct : w3.cell? ⟨bt, ot, none⟩ = some (.int .i32 y) := hct
  have h13 := (H1.out.below HB2.out).below b3
  have B3 := Lib.hid (HB.out.trans ((HB2.out.trans (b3.mono HB2.out.size)).mono HB.out.size))
  have HP3 := Lib.hid ((HP.out.below HB2.out HP.out.lt).below b3 (Nat.lt_of_lt_of_le HP.out.lt HB2.out.size))
  have HAD := Lib.hid (wadd_any h13 y HLL.out)
  clear h13 h3 hc3 hbt b3 HRP H1 HP HB HB2
  go_wp2_with fail
  refine HAD.out.mono ?_
  rintro e w4 ⟨rfl, h4, u4⟩
  have H4 := Lib.hid h4
  have HP4 := Lib.hid (HP3.out.but u4 HP3.out.lt (fun e => HGG.out e.symm))
  have B4 := Lib.hid ((But.ofBelow (g := g) B3.out).trans (u4.mono B3.out.size))
  clear h4 u4 hct HAD HP3 B3
  obtain ⟨c2, hc2⟩ : ∃ c2, c2 = (c || widB a b y br pc ea) := ⟨_, rfl⟩
  have HST := Lib.hid (show ∀ w', WAt w' g (l ++ [y]) a b c wd rr k p → Calls Tryz.prog 137 #[.pointer (some ⟨g, 17, none⟩), .int .i32 y, .agg #[.int .i64 br, .bool pc, .int .i64 cv, .int .i64 ea]] w' (fun e w2 => e = .returned (.int .i64 (gwI c2)) ∧ WAt w2 g (l ++ [y]) true pc c2 wd rr k p ∧ But g w'.heap.size w' w2) from fun w' h => by
    rw [hc2]
    exact wstep_any g (l ++ [y]) a b c wd rr k p y br pc cv ea w' h)
  have HC2 := Lib.hid hc2
  obtain ⟨wv, hwv⟩ : ∃ wv, wv = gwI c2 := ⟨_, rfl⟩
  have HWV := Lib.hid hwv
  rw [← hwv] at HST
  clear hc2 hwv
  go_upto_region 3 with (fail)
  obtain ⟨Erg, hErg⟩ : ∃ EE : Nat → Value → World → Prop, EE = fun jj xx ww => match jj with
      | 0 => xx = .pointer (some ⟨g, 0, none⟩)
      | 1 => xx = .pointer (some ⟨g, 0, none⟩)
      | 2 => xx = .pointer (some ⟨g, 0, none⟩)
      | 3 => xx = .pointer (some ⟨g, 17, none⟩)
      | 4 => xx = .int .i32 y
      | 5 => xx = .agg #[.int .i64 br, .bool pc, .int .i64 cv, .int .i64 ea]
      | 6 => xx = .int .i64 wv
      | 7 => xx = .pointer (some ⟨g, 0, none⟩)
      | 8 => xx = .pointer (some ⟨g, 20, none⟩)
      | 9 => xx = undef
      | _ => True := ⟨_, rfl⟩
  have erg0 : ∀ xx ww, Erg 0 xx ww = (xx = .pointer (some ⟨g, 0, none⟩)) := fun xx ww => congrFun (congrFun (congrFun hErg 0) xx) ww
  have erg1 : ∀ xx ww, Erg 1 xx ww = (xx = .pointer (some ⟨g, 0, none⟩)) := fun xx ww => congrFun (congrFun (congrFun hErg 1) xx) ww
  have erg2 : ∀ xx ww, Erg 2 xx ww = (xx = .pointer (some ⟨g, 0, none⟩)) := fun xx ww => congrFun (congrFun (congrFun hErg 2) xx) ww
  have erg3 : ∀ xx ww, Erg 3 xx ww = (xx = .pointer (some ⟨g, 17, none⟩)) := fun xx ww => congrFun (congrFun (congrFun hErg 3) xx) ww
  have erg4 : ∀ xx ww, Erg 4 xx ww = (xx = .int .i32 y) := fun xx ww => congrFun (congrFun (congrFun hErg 4) xx) ww
  have erg5 : ∀ xx ww, Erg 5 xx ww = (xx = .agg #[.int .i64 br, .bool pc, .int .i64 cv, .int .i64 ea]) := fun xx ww => congrFun (congrFun (congrFun hErg 5) xx) ww
  have erg6 : ∀ xx ww, Erg 6 xx ww = (xx = .int .i64 wv) := fun xx ww => congrFun (congrFun (congrFun hErg 6) xx) ww
  have erg7 : ∀ xx ww, Erg 7 xx ww = (xx = .pointer (some ⟨g, 0, none⟩)) := fun xx ww => congrFun (congrFun (congrFun hErg 7) xx) ww
  have erg8 : ∀ xx ww, Erg 8 xx ww = (xx = .pointer (some ⟨g, 20, none⟩)) := fun xx ww => congrFun (congrFun (congrFun hErg 8) xx) ww
  have erg9 : ∀ xx ww, Erg 9 xx ww = (xx = undef) := fun xx ww => congrFun (congrFun (congrFun hErg 9) xx) ww
  obtain ⟨Crg, hCrg⟩ : ∃ CC : Array Bool → World → Prop, CC = fun L8 w' => But g w4.heap.size w4 w' ∧ (Mix.one L8 6 = 0 → WAt w' g (l ++ [y]) a b c wd rr k p) ∧ (Mix.one L8 6 = 1 → Mix.one L8 9 = 0 → WAt w' g (l ++ [y]) true pc c2 wd rr k p) ∧ (Mix.one L8 9 = 1 → WAt w' g (l ++ [y]) true pc c2 wv rr k p) := ⟨_, rfl⟩
  have krg : ∀ i L w, i ≠ 6 → i ≠ 9 →  Crg L w → Crg (L.setIfInBounds i true) w := by
    intro i L w q6 q9 h
    rw [hCrg] at h ⊢
    simp only [Mix.one_ne q6, Mix.one_ne q9]; exact h
  obtain ⟨Xrg, hXrg⟩ : ∃ XX : World → World → Prop, XX = fun _ _ => True := ⟨_, rfl⟩
  have xrg : ∀ w, Xrg w w := fun w => by rw [hXrg]; exact trivial
  have strg : ∀ j x w w1, Xrg w w1 → Erg j x w → Erg j x w1 := by
    intro j x w w1 hx h
    rw [hXrg] at hx
    match j with
    | 0 => rw [erg0] at h ⊢; exact h
    | 1 => rw [erg1] at h ⊢; exact h
    | 2 => rw [erg2] at h ⊢; exact h
    | 3 => rw [erg3] at h ⊢; exact h
    | 4 => rw [erg4] at h ⊢; exact h
    | 5 => rw [erg5] at h ⊢; exact h
    | 6 => rw [erg6] at h ⊢; exact h
    | 7 => rw [erg7] at h ⊢; exact h
    | 8 => rw [erg8] at h ⊢; exact h
    | 9 => rw [erg9] at h ⊢; exact h
    | j + 10 => rw [hErg]; trivial
  have crg : Crg (Array.replicate 10 false) w4.drew := by rw [hCrg]; exact ⟨(But.refl _ _ _).drewN 1, fun _ => H4.out.below (Below.refl _ _).drew, fun e => absurd e (by decide), fun e => absurd e (by decide)⟩
  have brg : ∀ L w w1, Crg L w → Below w.heap.size w w1 → Crg L w1 := by
    intro L w w1 h hb
    rw [hCrg] at h ⊢
    (obtain ⟨q1, q2, q3, q4⟩ := h; exact ⟨q1.trans ((But.ofBelow hb).mono q1.size), fun e => (q2 e).below hb, fun e f => (q3 e f).below hb, fun e => (q4 e).below hb⟩)
  have xbrg : ∀ w w1, Below w.heap.size w w1 → Xrg w w1 := by
    intro w w1 hb
    rw [hXrg]
    trivial
  have Hrgb := Lib.hid brg
  have Hrgxb := Lib.hid xbrg
  clear brg xbrg
  clear hErg
  have Hrgk := Lib.hid krg
  have Hrgx := Lib.hid xrg
  have Hrgst := Lib.hid strg
  have Hrgc := Lib.hid crg
  have HrghC := Lib.hid hCrg
  have HrghX := Lib.hid hXrg
  have Hrge0 := Lib.hid erg0
  have Hrge1 := Lib.hid erg1
  have Hrge2 := Lib.hid erg2
  have Hrge3 := Lib.hid erg3
  have Hrge4 := Lib.hid erg4
  have Hrge5 := Lib.hid erg5
  have Hrge6 := Lib.hid erg6
  have Hrge7 := Lib.hid erg7
  have Hrge8 := Lib.hid erg8
  have Hrge9 := Lib.hid erg9
  clear krg xrg strg crg hCrg hXrg erg0 erg1 erg2 erg3 erg4 erg5 erg6 erg7 erg8 erg9
  go_wp2_with fail
  refine Reg.regionF Erg Crg Xrg Hrgst.out (by kernel_rfl) (by kernel_rfl) (by kernel_rfl) Hrgc.out (fun Frg hFrg => ?_)
  simp only [Reg.frame, Reg.dsts, List.map_cons, List.map_nil, Mix.put_lit, Reg.put_none, List.set_cons_succ, List.set_cons_zero, Nat.zero_add, Nat.reduceAdd] at hFrg
  refine ⟨?_, ?_⟩
  · refine ⟨?_, ?_, ?_, ?_, ?_, ?_, ?_, ?_, ?_, ?_, trivial⟩
    · intro Lq wq xq hh
      simp only [hFrg]
      refine .inl ⟨rfl, ?_⟩
      unfold Reg.upon
      have hk := Hrgk.out 0 Lq wq (by decide) (by decide)  hh.cls
      have hx := Hrgx.out wq
      have he : Erg 0 (.pointer (some ⟨g, 0, none⟩)) wq := by rw [Hrge0.out]
      have HK := Lib.hid (And.intro hk (And.intro he hx))
      clear hk hx he
      go_simp
      exact HK.out
    · intro Lq wq xq hh
      simp only [hFrg]
      refine .inl ⟨rfl, ?_⟩
      unfold Reg.upon
      have hk := Hrgk.out 1 Lq wq (by decide) (by decide)  hh.cls
      have hx := Hrgx.out wq
      have he : Erg 1 (.pointer (some ⟨g, 0, none⟩)) wq := by rw [Hrge1.out]
      have HK := Lib.hid (And.intro hk (And.intro he hx))
      clear hk hx he
      go_simp
      exact HK.out
    · intro Lq wq xq hh
      have d1 : Erg 1 (xq 1) wq := hh.val 1 (by kernel_rfl) (by kernel_rfl)
      rw [Hrge1.out] at d1
      simp only [hFrg, d1]
      clear d1
      refine .inl ⟨rfl, ?_⟩
      unfold Reg.upon
      have hk := Hrgk.out 2 Lq wq (by decide) (by decide)  hh.cls
      have hx := Hrgx.out wq
      have he : Erg 2 (.pointer (some ⟨g, 0, none⟩)) wq := by rw [Hrge2.out]
      have HK := Lib.hid (And.intro hk (And.intro he hx))
      clear hk hx he
      go_simp
      exact HK.out
    · intro Lq wq xq hh
      have d2 : Erg 2 (xq 2) wq := hh.val 2 (by kernel_rfl) (by kernel_rfl)
      rw [Hrge2.out] at d2
      simp only [hFrg, d2]
      clear d2
      refine .inl ⟨rfl, ?_⟩
      unfold Reg.upon
      have hk := Hrgk.out 3 Lq wq (by decide) (by decide)  hh.cls
      have hx := Hrgx.out wq
      have he : Erg 3 (.pointer (some ⟨g, 17, none⟩)) wq := by rw [Hrge3.out]
      have HK := Lib.hid (And.intro hk (And.intro he hx))
      clear hk hx he
      go_simp
      exact HK.out
    · intro Lq wq xq hh
      simp only [hFrg]
      refine .inl ⟨rfl, ?_⟩
      unfold Reg.upon
      have hk := Hrgk.out 4 Lq wq (by decide) (by decide)  hh.cls
      have hx := Hrgx.out wq
      have he : Erg 4 (.int .i32 y) wq := by rw [Hrge4.out]
      have HK := Lib.hid (And.intro hk (And.intro he hx))
      clear hk hx he
      go_simp
      exact HK.out
    · intro Lq wq xq hh
      simp only [hFrg]
      refine .inl ⟨rfl, ?_⟩
      unfold Reg.upon
      have hc : Crg Lq wq := hh.cls
      rw [HrghC.out] at hc
      have hq := HP4.out.but hc.1 HP4.out.lt (fun e => HGG.out e.symm)
      have q0 := hq.cell 0 _ rfl
      have q1 := hq.cell 1 _ rfl
      have q2 := hq.cell 2 _ rfl
      have q3 := hq.cell 3 _ rfl
      clear hc
      have hk := Hrgk.out 5 Lq wq (by decide) (by decide)  hh.cls
      have hx := Hrgx.out wq
      have he : Erg 5 (.agg #[.int .i64 br, .bool pc, .int .i64 cv, .int .i64 ea]) wq := by rw [Hrge5.out]
      have HK := Lib.hid (And.intro hk (And.intro he hx))
      clear hk hx he
      go_simp
      exact HK.out
    · intro Lq wq xq hh
      have d3 : Erg 3 (xq 3) wq := hh.val 3 (by kernel_rfl) (by kernel_rfl)
      rw [Hrge3.out] at d3
      have d4 : Erg 4 (xq 4) wq := hh.val 4 (by kernel_rfl) (by kernel_rfl)
      rw [Hrge4.out] at d4
      have d5 : Erg 5 (xq 5) wq := hh.val 5 (by kernel_rfl) (by kernel_rfl)
      rw [Hrge5.out] at d5
      simp only [hFrg, d3, d4, d5]
      clear d3 d4 d5
      refine .inl ⟨rfl, ?_⟩
      unfold Reg.upon
      have hc : Crg Lq wq := hh.cls
      rw [HrghC.out] at hc
      have hq := hc.2.1 hh.un
      go_simp
      refine (HST.out wq hq).mono ?_
      rintro e w2 ⟨rfl, h9, u9⟩
      have hF : Crg (Lq.setIfInBounds 6 true) w2 := by
        rw [HrghC.out]
        refine ⟨hc.1.trans (u9.mono hc.1.size), fun e => ?_, fun _ _ => h9, fun e => ?_⟩
        · rw [Mix.one_set (by rw [hh.size]; decide)] at e
          exact absurd e (by decide)
        · rw [Mix.one_ne (by decide), Mix.one_un (hh.notYet 9 (by kernel_rfl))] at e
          exact absurd e (by decide)
      exact ⟨_, rfl, hF, (by rw [Hrge6.out]), (by rw [HrghX.out]; trivial)⟩
    · intro Lq wq xq hh
      have d0 : Erg 0 (xq 0) wq := hh.val 0 (by kernel_rfl) (by kernel_rfl)
      rw [Hrge0.out] at d0
      simp only [hFrg, d0]
      clear d0
      refine .inl ⟨rfl, ?_⟩
      unfold Reg.upon
      have hk := Hrgk.out 7 Lq wq (by decide) (by decide)  hh.cls
      have hx := Hrgx.out wq
      have he : Erg 7 (.pointer (some ⟨g, 0, none⟩)) wq := by rw [Hrge7.out]
      have HK := Lib.hid (And.intro hk (And.intro he hx))
      clear hk hx he
      go_simp
      exact HK.out
    · intro Lq wq xq hh
      have d7 : Erg 7 (xq 7) wq := hh.val 7 (by kernel_rfl) (by kernel_rfl)
      rw [Hrge7.out] at d7
      simp only [hFrg, d7]
      clear d7
      refine .inl ⟨rfl, ?_⟩
      unfold Reg.upon
      have hk := Hrgk.out 8 Lq wq (by decide) (by decide)  hh.cls
      have hx := Hrgx.out wq
      have he : Erg 8 (.pointer (some ⟨g, 20, none⟩)) wq := by rw [Hrge8.out]
      have HK := Lib.hid (And.intro hk (And.intro he hx))
      clear hk hx he
      go_simp
      exact HK.out
    · intro Lq wq xq hh
      have d6 : Erg 6 (xq 6) wq := hh.val 6 (by kernel_rfl) (by kernel_rfl)
      rw [Hrge6.out] at d6
      have d8 : Erg 8 (xq 8) wq := hh.val 8 (by kernel_rfl) (by kernel_rfl)
      rw [Hrge8.out] at d8
      simp only [hFrg, d6, d8]
      clear d6 d8
      refine .inl ⟨rfl, ?_⟩
      unfold Reg.upon
      have hc : Crg Lq wq := hh.cls
      rw [HrghC.out] at hc
      have hq := hc.2.2.1 (hh.isDone 6 (by kernel_rfl)) hh.un
      have s0 := hq.cells.2.2.2.2.1
      have f0 := hq.1.free 20
      have hw9 := hq.wide wv
      have hF : Crg (Lq.setIfInBounds 9 true) (wq.setCell ⟨g, 20, none⟩ (.int .i64 wv)) := by
        rw [HrghC.out]
        refine ⟨hc.1.trans (hw9.2.mono hc.1.size), fun e => ?_, fun _ e => ?_, fun _ => hw9.1⟩
        · rw [Mix.one_ne (by decide), hh.isDone 6 (by kernel_rfl)] at e
          exact absurd e (by decide)
        · rw [Mix.one_set (by rw [hh.size]; decide)] at e
          exact absurd e (by decide)
      have hE : Erg 9 undef (wq.setCell ⟨g, 20, none⟩ (.int .i64 wv)) := by rw [Hrge9.out]
      have hX : Xrg wq (wq.setCell ⟨g, 20, none⟩ (.int .i64 wv)) := by rw [HrghX.out]; trivial
      clear hc hq hw9
      go_simp
      exact ⟨hF, hE, hX⟩
  intro xq wrg hcrg hvrg
  rw [HrghC.out] at hcrg
  simp only [hFrg]
  clear hvrg hFrg Hrgk Hrgx Hrgst Hrgc HrghC HrghX Hrgb Hrgxb Hrge0 Hrge1 Hrge2 Hrge3 Hrge4 Hrge5 Hrge6 Hrge7 Hrge8 Hrge9
  obtain ⟨hbw, _, _, h9⟩ := hcrg
  have HF := Lib.hid (And.intro (h9 (by kernel_rfl)) (B4.out.trans (hbw.mono B4.out.size)))
  clear hbw h9
  go_wp2
  exact bodyPost_end (by kernel_rfl) rfl ⟨rfl, by rw [← HC2.out, ← HWV.out]; exact HF.out.1, HF.out.2⟩
end Go.Proofs.YtoeggiplcaegoaaGreatDoor
