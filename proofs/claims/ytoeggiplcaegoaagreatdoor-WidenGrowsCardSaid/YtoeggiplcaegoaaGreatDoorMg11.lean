/- Texts put together: WidG, WidQ, WidW. -/
import Derived.Test.YtoeggiplcaegoaaGreatDoorWidC
import Derived.Test.YtoeggiplcaegoaaGreatDoorMg8
import Derived.Test.YtoeggiplcaegoaaGreatDoorWidR
import Derived.Test.YtoeggiplcaegoaaGreatDoorCwidA
import Derived.Test.YtoeggiplcaegoaaGreatDoorMg6
import Derived.Test.YtoeggiplcaegoaaGreatDoorMg10
import Derived.Test.YtoeggiplcaegoaaGreatDoorUcdK
/- A cluster that grows: what stands behind so many numbers. -/
namespace Go.Proofs.YtoeggiplcaegoaaGreatDoor
open Go.RowKit Go.ChangeShapes Go.WideShapes
theorem anyW_cong {xs ys : List Int} {ps qs : List Pr} (k : Nat) (h : ∀ i, i < k → xs.getD i 0 = ys.getD i 0 ∧ ps.getD i Pr.none = qs.getD i Pr.none) : anyW xs ps k = anyW ys qs k := by
  induction k with
  | zero => rfl
  | succ k ih =>
    show (anyW xs ps k || condW xs ps k) = (anyW ys qs k || condW ys qs k)
    rw [ih fun i hi => h i (by omega)]
    have e1 := h k (by omega)
    have e2 : picAt ps k = picAt qs k := by
      cases k with
      | zero => rfl
      | succ j => show (ps.getD j Pr.none).pc = (qs.getD j Pr.none).pc; rw [(h j (by omega)).2]
    unfold condW
    rw [e1.1, e1.2, e2]
/-- Is the cluster of the first k numbers wide? -/
def cwW (xs : List Int) (ps : List Pr) (k : Nat) : Bool := anyW (xs.map repl) ps k
theorem map_repl_get (xs : List Int) (i : Nat) (h : i < xs.length) : (xs.map repl).getD i 0 = repl (xs.getD i 0) := by
  simp [List.getD, List.getElem?_eq_getElem h]
theorem getD_takeW {α : Type} (l : List α) (d : α) (n i : Nat) (h : i < n) : (l.take n).getD i d = l.getD i d := by
  simp [List.getD, List.getElem?_take, h]
theorem cwW_row (xs : List Int) (ps : List Pr) (n N : Nat) (hn : n ≤ xs.length) (hp : n ≤ ps.length) (hN : N = min n 16) : rowW (numT (xs.take n) N) ((ps.take n).take N) N = gwI (cwW xs ps N) ∧ numT (xs.take n) N = numT xs N := by
  have e1 : numT (xs.take n) N = numT xs N := by unfold numT; rw [List.take_take, show min N n = N by omega]
  refine ⟨?_, e1⟩
  rw [e1, List.take_take, show min N n = N by omega]
  unfold rowW gwI cwW
  rw [anyW_cong (ys := xs.map repl) (qs := ps) N fun i hi => ⟨by unfold numT; rw [List.map_take, getD_takeW _ _ _ _ hi], getD_takeW _ _ _ _ hi⟩]
theorem cwW_one (xs : List Int) (ps : List Pr) (h : 0 < xs.length) : cwW xs ps 1 = widB false false (repl (xs.getD 0 0)) (ps.getD 0 Pr.none).br (ps.getD 0 Pr.none).pc (ps.getD 0 Pr.none).ea := by
  show (false || condW (xs.map repl) ps 0) = _
  unfold condW picAt
  rw [map_repl_get xs 0 h]
  rfl
theorem cwW_succ (xs : List Int) (ps : List Pr) (k : Nat) (h0 : 0 < k) (h : k < xs.length) : cwW xs ps (k + 1) = (cwW xs ps k || widB true (picAt ps k) (repl (xs.getD k 0)) (ps.getD k Pr.none).br (ps.getD k Pr.none).pc (ps.getD k Pr.none).ea) := by
  show (anyW (xs.map repl) ps k || condW (xs.map repl) ps k) = _
  unfold condW
  rw [map_repl_get xs k h, decide_eq_true h0]
  rfl
theorem numT_succ (xs : List Int) (k : Nat) (h : k < xs.length) : numT xs (k + 1) = numT xs k ++ [repl (xs.getD k 0)] := takerepl_succ xs k h
theorem numT_one (xs : List Int) (h : 0 < xs.length) : numT xs 1 = [repl (xs.getD 0 0)] := by rw [numT_succ xs 0 h]; rfl
/-- The cluster of the first K numbers stands on the pen, as it were put at once. -/
def GrowAt (Yo : Zone) (w : World) (B gp gg gr wd g : Nat) (R : List Rw) (Ls : List Ln) (r2 c2 : Nat) (pd2 au : Bool) (xs : List Int) (ps : List Pr) (K : Nat) : Prop :=
  PenY Yo w B gp gg gr wd R (plcL Ls wd r2 c2 pd2 au (gwI (cwW xs ps K)) (numT xs K)) (plcR Ls wd r2 c2 pd2 au (gwI (cwW xs ps K)) : Nat) (aftC (plcC wd c2 pd2 au (gwI (cwW xs ps K)) : Nat) (plcK wd (gwI (cwW xs ps K))) wd) (aftP (plcC wd c2 pd2 au (gwI (cwW xs ps K)) : Nat) (plcK wd (gwI (cwW xs ps K))) wd au) au ∧
  WAt w g (numT xs K) true (picAt ps K) (cwW xs ps K) (gwI (cwW xs ps K)) (plcR Ls wd r2 c2 pd2 au (gwI (cwW xs ps K)) : Nat) (plcC wd c2 pd2 au (gwI (cwW xs ps K)) : Nat) false
section
variable {Yo : Zone} {w w' : World} {B gp gg gr wd g : Nat} {R : List Rw} {Ls : List Ln} {r2 c2 : Nat} {pd2 au : Bool} {xs : List Int} {ps : List Pr} {K : Nat}
theorem GrowAt.below (h : GrowAt Yo w B gp gg gr wd g R Ls r2 c2 pd2 au xs ps K) (hb : Below w.heap.size w w') : GrowAt Yo w' B gp gg gr wd g R Ls r2 c2 pd2 au xs ps K := ⟨h.1.below hb, h.2.below hb⟩
theorem GrowAt.first (hx : 0 < xs.length) (h : WDo Yo w B gp gg gr wd g R Ls au [repl (xs.getD 0 0)] (ps.getD 0 Pr.none).pc (widB false false (repl (xs.getD 0 0)) (ps.getD 0 Pr.none).br (ps.getD 0 Pr.none).pc (ps.getD 0 Pr.none).ea) r2 c2 pd2 w') : ∃ R1, GrowAt Yo w' B gp gg gr wd g R1 Ls r2 c2 pd2 au xs ps 1 ∧ Upd (fun q => PZ w gp gr R q ∨ q = g) w w' ∧ RowsFrom w R R1 := by
  obtain ⟨R1, h1, h2, h3, h4⟩ := h
  rw [← cwW_one xs ps hx, ← numT_one xs hx] at h1
  rw [← cwW_one xs ps hx, ← numT_one xs hx] at h2
  exact ⟨R1, ⟨h1, h2⟩, h3, h4⟩
theorem gwI_mono (a b : Bool) : gwI a ≤ gwI (a || b) := by cases a <;> cases b <;> decide
theorem GrowAt.next (hr : r2 < Ls.length) (hc : c2 < wd) (h0 : 0 < K) (hx : K < xs.length) (h : WDo Yo w B gp gg gr wd g R (plcL Ls wd r2 c2 pd2 au (gwI (cwW xs ps K)) (numT xs K)) au (numT xs K ++ [repl (xs.getD K 0)]) (ps.getD K Pr.none).pc (cwW xs ps K || widB true (picAt ps K) (repl (xs.getD K 0)) (ps.getD K Pr.none).br (ps.getD K Pr.none).pc (ps.getD K Pr.none).ea) (plcR Ls wd r2 c2 pd2 au (gwI (cwW xs ps K))) (plcC wd c2 pd2 au (gwI (cwW xs ps K))) false w') :
    ∃ R1, GrowAt Yo w' B gp gg gr wd g R1 Ls r2 c2 pd2 au xs ps (K + 1) ∧ Upd (fun q => PZ w gp gr R q ∨ q = g) w w' ∧ RowsFrom w R R1 := by
  obtain ⟨R1, h1, h2, h3, h4⟩ := h
  have hm : gwI (cwW xs ps K) ≤ gwI (cwW xs ps (K + 1)) := by rw [cwW_succ xs ps K h0 hx]; exact gwI_mono _ _
  rw [← cwW_succ xs ps K h0 hx, ← numT_succ xs K hx] at h1 h2
  obtain ⟨e1, e2, e3⟩ := plc_again Ls wd r2 c2 pd2 au (gwI (cwW xs ps K)) (gwI (cwW xs ps (K + 1))) (numT xs K) (numT xs (K + 1)) hr hc hm
  rw [e1, e2, e3] at h1
  rw [e2, e3] at h2
  exact ⟨R1, ⟨h1, h2⟩, h3, h4⟩
/-- A block of another sort keeps what it holds when the cluster grows. -/
theorem grow_keeps {L : List Ln} {r c : Int} {pd : Bool} (h : PenY Yo w B gp gg gr wd R L r c pd au) (hu : Upd (fun q => PZ w gp gr R q ∨ q = g) w w') {b : Nat} {C : List Value} {t : TypeId} (hb : Has w b C t) (hg : b ≠ g) (t0 : t ≠ 42) (t1 : t ≠ 119) (t2 : t ≠ 113) (t3 : t ≠ 187) (t4 : t ≠ 147) : Has w' b C t :=
  hu.keep.has hb fun e => by rcases e with e | e; exact has_off h.any hb t0 t1 t2 t3 t4 e; exact hg e
theorem grow_zone {L : List Ln} {r c : Int} {pd : Bool} {W : World} (h : PenY Yo w B gp gg gr wd R L r c pd au) (hW : W.heap.size ≤ B) (hg : W.heap.size ≤ g) (hB : Below W.heap.size W w) (hu : Upd (fun q => PZ w gp gr R q ∨ q = g) w w') : Below W.heap.size W w' :=
  hB.trans (hu.below hB.size fun b e => by
    rcases e with e | e
    · exact Nat.le_trans hW (pz_ge h.any (Nat.le_trans h.2.1 (Nat.le_of_lt h.lt)) b e)
    · rw [e]; exact hg)
end
/-- What the law's loop knows: so many numbers stand, the first pen's box is as it was. -/
def LoopAt (W1 : World) (BP gp gg gr wd b8 : Nat) (Ls : List Ln) (r2 c2 : Nat) (pd2 au : Bool) (xs : List Int) (ps : List Pr) (bx : List Value) (K g : Nat) (w : World) : Prop :=
  (∃ R, GrowAt (fun b => True ∧ b ≠ g) w BP gp gg gr wd g R Ls r2 c2 pd2 au xs ps K) ∧ Has w b8 bx 43 ∧ Below W1.heap.size W1 w ∧ g ≠ b8 ∧ BP ≤ g
section
variable {W1 w w' : World} {BP gp gg gr wd b8 : Nat} {Ls : List Ln} {r2 c2 : Nat} {pd2 au : Bool} {xs : List Int} {ps : List Pr} {bx : List Value} {K g : Nat}
theorem LoopAt.below (h : LoopAt W1 BP gp gg gr wd b8 Ls r2 c2 pd2 au xs ps bx K g w) (hb : Below w.heap.size w w') : LoopAt W1 BP gp gg gr wd b8 Ls r2 c2 pd2 au xs ps bx K g w' := by
  obtain ⟨⟨R, h1⟩, h2, h3, h4, h5⟩ := h
  exact ⟨⟨R, h1.below hb⟩, h2.below hb h2.lt, h3.trans (hb.mono h3.size), h4, h5⟩
theorem begin_loop {R : List Rw} {P Q : Int} {S : Bool} (hpen : PenAt w BP gp gg gr wd R Ls P Q S au) (hr2 : inI P (sideI Ls.length) = (r2 : Int)) (hc2 : inI Q (sideI wd) = (c2 : Int)) (hpd : holdP Q S wd = pd2) (hlr : r2 < Ls.length) (hlc : c2 < wd) (hb : Has w b8 bx 43) (hB : Below W1.heap.size W1 w) (hWB : W1.heap.size ≤ BP) (hx : 0 < xs.length) (q : Pr) (hq : q = ps.getD 0 Pr.none) (x : Int) (hx0 : x = xs.getD 0 0) :
    Calls Tryz.prog 15 #[.pointer (some ⟨gp, 0, none⟩), .int .i32 x, .agg #[.int .i64 q.br, .bool q.pc, .int .i64 q.cv, .int .i64 q.ea]] w (fun e w' => ∃ g, e = .returned (.pointer (some ⟨g, 0, none⟩)) ∧ LoopAt W1 BP gp gg gr wd b8 Ls r2 c2 pd2 au xs ps bx 1 g w') := by
  subst hq; subst hx0
  refine (wbegin_any BP gp gg gr wd R Ls P Q S au _ _ _ _ _ w hpen r2 c2 pd2 hr2 hc2 hpd hlr hlc).mono ?_
  rintro e w' ⟨g, rfl, hge, hd⟩
  obtain ⟨R1, hg1, hu, _⟩ := GrowAt.first (ps := ps) hx hd
  have hBP : BP ≤ g := Nat.le_trans (Nat.le_trans hpen.2.1 (Nat.le_of_lt hpen.lt)) hge
  have hne : b8 ≠ g := by have := hb.lt; omega
  exact ⟨g, rfl, ⟨R1, hg1⟩, grow_keeps hpen hu hb hne (by decide) (by decide) (by decide) (by decide) (by decide), grow_zone hpen hWB (Nat.le_trans hWB hBP) hB hu, hne.symm, hBP⟩
theorem join_loop (h : LoopAt W1 BP gp gg gr wd b8 Ls r2 c2 pd2 au xs ps bx K g w) (hlr : r2 < Ls.length) (hlc : c2 < wd) (hWB : W1.heap.size ≤ BP) (h0 : 0 < K) (h16 : K < 16) (hx : K < xs.length) (q : Pr) (hq : q = ps.getD K Pr.none) (x : Int) (hx0 : x = xs.getD K 0) :
    Calls Tryz.prog 16 #[.pointer (some ⟨g, 0, none⟩), .pointer (some ⟨gp, 0, none⟩), .int .i32 x, .agg #[.int .i64 q.br, .bool q.pc, .int .i64 q.cv, .int .i64 q.ea]] w (fun e w' => e = .returned (.bool true) ∧ LoopAt W1 BP gp gg gr wd b8 Ls r2 c2 pd2 au xs ps bx (K + 1) g w') := by
  subst hq; subst hx0
  obtain ⟨⟨R, h1⟩, h2, h3, h4, h5⟩ := h
  have hpl := plc_lt (Ls := Ls) pd2 au (gwI (cwW xs ps K)) (numT xs K) hlr hlc
  refine (wjoin_any BP gp gg gr wd R _ _ _ _ au g (numT xs K) true (picAt ps K) (cwW xs ps K) _ _ _ _ _ _ _ _ w h1.1 h1.2 (by rw [numT_len xs K (by omega)]; exact h16) (by rw [hpl.2.2.2]; exact hpl.1) hpl.2.1 (fun _ e => e.2)).mono ?_
  rintro e w' ⟨rfl, hd⟩
  obtain ⟨R1, hg1, hu, _⟩ := GrowAt.next hlr hlc h0 hx hd
  exact ⟨rfl, ⟨R1, hg1⟩, grow_keeps h1.1 hu h2 (Ne.symm h4) (by decide) (by decide) (by decide) (by decide) (by decide), grow_zone h1.1 hWB (Nat.le_trans hWB h5) h3 hu, h4, h5⟩
theorem join_none (h : LoopAt W1 BP gp gg gr wd b8 Ls r2 c2 pd2 au xs ps bx 16 g w) (hx : 16 ≤ xs.length) (p : Option Addr) (x br : Int) (pc : Bool) (cv ea : Int) : Calls Tryz.prog 16 #[.pointer (some ⟨g, 0, none⟩), .pointer p, .int .i32 x, .agg #[.int .i64 br, .bool pc, .int .i64 cv, .int .i64 ea]] w (Gives w (.bool false)) := by
  obtain ⟨⟨R, h1⟩, _⟩ := h
  exact wjoin_full g _ _ _ _ _ _ _ _ p x br pc cv ea w h1.2 (numT_len xs 16 hx)
end
end Go.Proofs.YtoeggiplcaegoaaGreatDoor
/- A region that calls, makes a pen's and a cursor's box, and fills them with what the call gave, in whatever order. -/
namespace Go.Proofs.YtoeggiplcaegoaaGreatDoor
open Go.RowKit Go.ChangeShapes Go.WideShapes
section
variable {pb : Value → List Value} {cb : List Value} {LL : List Ln} {TT : List Int} {wx w w' : World} {a15 a16 a17 a18 : Nat} {y z : Value}
def zeP : List Value := [.slice none 0 0, .int .i64 0, .int .i64 0, .bool false, .bool false]
def zeC : List Value := [.int .i64 0, .int .i64 0, .bool false]
theorem pen_at {g q : Nat} {o : Option Addr} {n k : Nat} {r c : Int} {pd au : Bool} (h : Has w g [.slice o n k, .int .i64 r, .int .i64 c, .bool pd, .bool au] 43) {v : Value} (e : w.cell? ⟨g, q, none⟩ = some v) : (q = 0 ∧ v = .slice o n k) ∨ (q = 1 ∧ v = .int .i64 r) ∨ (q = 2 ∧ v = .int .i64 c) ∨ (q = 3 ∧ v = .bool pd) ∨ (q = 4 ∧ v = .bool au) := by
  rw [cell_of_row w g q _ _ (0, 0) h] at e
  match q with
  | 0 => simp at e; exact .inl ⟨rfl, e.symm⟩
  | 1 => simp at e; exact .inr (.inl ⟨rfl, e.symm⟩)
  | 2 => simp at e; exact .inr (.inr (.inl ⟨rfl, e.symm⟩))
  | 3 => simp at e; exact .inr (.inr (.inr (.inl ⟨rfl, e.symm⟩)))
  | 4 => simp at e; exact .inr (.inr (.inr (.inr ⟨rfl, e.symm⟩)))
  | q + 5 => simp at e
theorem cells_pen {Z : Zone} {v : Value} {L : List Cl} {g : Nat} {o : Option Addr} {n k : Nat} {r c : Int} {pd au : Bool} (h : HeldE cellE Z w v L) (hg : Has w g [.slice o n k, .int .i64 r, .int .i64 c, .bool pd, .bool au] 43) : HeldE cellE (fun b => Z b ∧ b ≠ g) w v L := by
  obtain ⟨ao, cap, rfl, hl, hm, hn, hc⟩ := h
  refine ⟨ao, cap, rfl, hl, hm, hn, fun i hi => ?_⟩
  obtain ⟨b, off, rfl, hb, hz, C, hC, hr⟩ := hc i hi
  obtain ⟨tv, rfl, ht⟩ := cell_rep.1 hr
  refine ⟨b, off, rfl, hb, ⟨hz, fun e => ?_⟩, _, hC, cell_rep.2 ⟨tv, rfl, text_off ht (rp_notx hg)⟩⟩
  subst e
  obtain ⟨a, k2, rfl⟩ := ht.len
  have e1 := pen_at hg (hC 1 (by decide))
  simp at e1
theorem lines_pen {Z : Zone} {v : Value} {L : List Ln} {g : Nat} {o : Option Addr} {n k : Nat} {r c : Int} {pd au : Bool} (h : HeldE lineE Z w v L) (hg : Has w g [.slice o n k, .int .i64 r, .int .i64 c, .bool pd, .bool au] 43) : HeldE lineE (fun b => Z b ∧ b ≠ g) w v L := by
  obtain ⟨ao, cap, rfl, hl, hm, hn, hc⟩ := h
  refine ⟨ao, cap, rfl, hl, hm, hn, fun i hi => ?_⟩
  obtain ⟨b, off, rfl, hb, hz, C, hC, hr⟩ := hc i hi
  obtain ⟨cv, rfl, ht⟩ := line_rep.1 hr
  refine ⟨b, off, rfl, hb, ⟨hz, fun e => ?_⟩, _, hC, line_rep.2 ⟨cv, rfl, cells_pen ht hg⟩⟩
  subst e
  obtain ⟨a, k2, rfl⟩ := ht.len
  have e0 := pen_at hg (hC 0 (by decide))
  have e1 := pen_at hg (hC 1 (by decide))
  simp at e0 e1
  omega
/-- Lines and numbers stay, wherever they lie. -/
def KeepH (w w' : World) : Prop := (∀ v L, HeldE lineE (fun _ => True) w v L → HeldE lineE (fun _ => True) w' v L) ∧ ∀ v L, HeldE (intE .i32) (fun _ => True) w v L → HeldE (intE .i32) (fun _ => True) w' v L
theorem KeepH.refl (w : World) : KeepH w w := ⟨fun _ _ h => h, fun _ _ h => h⟩
theorem KeepH.ofBelow (hb : Below w.heap.size w w') : KeepH w w' := ⟨fun _ _ h => h.below hb, fun _ _ h => h.below hb⟩
theorem KeepH.pen {g : Nat} {o : Option Addr} {n k : Nat} {r c : Int} {pd au : Bool} (hg : Has w g [.slice o n k, .int .i64 r, .int .i64 c, .bool pd, .bool au] 43) (hu : Upd (fun b => b = g) w w') : KeepH w w' :=
  ⟨fun _ _ h => ((lines_pen h hg).upd hu fun _ hz e => hz.2 e).zone fun _ _ _ => trivial, fun _ _ h => ((text_off h (rp_notx hg)).upd hu fun _ hz e => hz.2 e).zone fun _ _ _ => trivial⟩
theorem KeepH.cur {g : Nat} {r c : Int} {pd : Bool} (hg : Has w g [.int .i64 r, .int .i64 c, .bool pd] 24) (hu : Upd (fun b => b = g) w w') : KeepH w w' :=
  ⟨fun _ _ h => ((lines_off h hg).upd hu fun _ hz e => hz.2 e).zone fun _ _ _ => trivial, fun _ _ h => ((text_off h (cur_notx hg)).upd hu fun _ hz e => hz.2 e).zone fun _ _ _ => trivial⟩
def Tw (pb : Value → List Value) (cb : List Value) (LL : List Ln) (wx : World) (a15 a16 a17 a18 : Nat) (y z : Value) (w : World) : Prop :=
  Below wx.heap.size wx w ∧
  (a15 = 1 → ∃ g, y = .pointer (some ⟨g, 0, none⟩) ∧ wx.heap.size ≤ g ∧ (a17 = 0 → Has w g zeP 43) ∧ (a17 = 1 → ∃ v, Has w g (pb v) 43 ∧ HeldE lineE (fun _ => True) w v LL)) ∧
  (a16 = 1 → ∃ g, z = .pointer (some ⟨g, 0, none⟩) ∧ wx.heap.size ≤ g ∧ (a18 = 0 → Has w g zeC 24) ∧ (a18 = 1 → Has w g cb 24))
theorem Tw.below (h : Tw pb cb LL wx a15 a16 a17 a18 y z w) (hb : Below w.heap.size w w') : Tw pb cb LL wx a15 a16 a17 a18 y z w' := by
  obtain ⟨h1, h3, h4⟩ := h
  refine ⟨h1.trans (hb.mono h1.size), fun e => ?_, fun e => ?_⟩
  · obtain ⟨g, e1, e2, e4, e5⟩ := h3 e
    refine ⟨g, e1, e2, fun f => (e4 f).below hb (e4 f).lt, fun f => ?_⟩
    obtain ⟨v, f1, f2⟩ := e5 f
    exact ⟨v, f1.below hb f1.lt, f2.below hb⟩
  · obtain ⟨g, e1, e2, e4, e5⟩ := h4 e
    exact ⟨g, e1, e2, fun f => (e4 f).below hb (e4 f).lt, fun f => (e5 f).below hb (e5 f).lt⟩
theorem Tw.start (hb : Below wx.heap.size wx w) : Tw pb cb LL wx 0 0 0 0 y z w := ⟨hb, fun e => absurd e (by decide), fun e => absurd e (by decide)⟩
theorem Tw.pen (h : Tw pb cb LL wx 0 a16 0 a18 y z w) : Tw pb cb LL wx 1 a16 0 a18 (.pointer (some ⟨w.heap.size, 0, none⟩)) z (w.alloc (.cells zeP.toArray 43)) ∧ KeepH w (w.alloc (.cells zeP.toArray 43)) := by
  have hb := (Below.refl w.heap.size w).alloc (Nat.le_refl _) (.cells zeP.toArray 43)
  obtain ⟨h1, _, h4⟩ := h.below hb
  exact ⟨⟨h1, fun _ => ⟨_, rfl, h.1.size, fun _ => Has.new w zeP _, fun f => absurd f (by decide)⟩, h4⟩, .ofBelow hb⟩
theorem Tw.cursor (h : Tw pb cb LL wx a15 0 a17 0 y z w) : Tw pb cb LL wx a15 1 a17 0 y (.pointer (some ⟨w.heap.size, 0, none⟩)) (w.alloc (.cells zeC.toArray 24)) ∧ KeepH w (w.alloc (.cells zeC.toArray 24)) := by
  have hb := (Below.refl w.heap.size w).alloc (Nat.le_refl _) (.cells zeC.toArray 24)
  obtain ⟨h1, h3, _⟩ := h.below hb
  exact ⟨⟨h1, h3, fun _ => ⟨_, rfl, h.1.size, fun _ => Has.new w zeC _, fun f => absurd f (by decide)⟩⟩, .ofBelow hb⟩
theorem Tw.putPen {v : Value} (h : Tw pb cb LL wx 1 a16 0 a18 y z w) (hv : HeldE lineE (fun _ => True) w v LL) : ∃ g, y = .pointer (some ⟨g, 0, none⟩) ∧ Has w g zeP 43 ∧ ∀ w', Upd (fun b => b = g) w w' → Has w' g (pb v) 43 → Tw pb cb LL wx 1 a16 1 a18 y z w' ∧ KeepH w w' := by
  obtain ⟨h1, h3, h4⟩ := h
  obtain ⟨g, e1, e2, e4, _⟩ := h3 rfl
  have hg := e4 rfl
  refine ⟨g, e1, hg, fun w' hu hh => ?_⟩
  have kh : KeepH w w' := .pen hg hu
  refine ⟨⟨h1.trans (hu.below h1.size fun b e => by omega), fun _ => ⟨g, e1, e2, fun f => absurd f (by decide), fun _ => ⟨v, hh, kh.1 _ _ hv⟩⟩, fun e => ?_⟩, kh⟩
  obtain ⟨g3, f1, f2, f4, f5⟩ := h4 e
  refine ⟨g3, f1, f2, fun f => hu.keep.has (f4 f) (fun e => ?_), fun f => hu.keep.has (f5 f) (fun e => ?_)⟩
  · subst e; exact other_type (f4 f) hg (by decide)
  · subst e; exact other_type (f5 f) hg (by decide)
theorem Tw.putCur (h : Tw pb cb LL wx a15 1 a17 0 y z w) : ∃ g, z = .pointer (some ⟨g, 0, none⟩) ∧ Has w g zeC 24 ∧ ∀ w', Upd (fun b => b = g) w w' → Has w' g cb 24 → Tw pb cb LL wx a15 1 a17 1 y z w' ∧ KeepH w w' := by
  obtain ⟨h1, h3, h4⟩ := h
  obtain ⟨g, e1, e2, e4, _⟩ := h4 rfl
  have hg := e4 rfl
  refine ⟨g, e1, hg, fun w' hu hh => ?_⟩
  have kh : KeepH w w' := .cur hg hu
  refine ⟨⟨h1.trans (hu.below h1.size fun b e => by omega), fun e => ?_, fun _ => ⟨g, e1, e2, fun f => absurd f (by decide), fun _ => hh⟩⟩, kh⟩
  obtain ⟨g3, f1, f2, f4, f5⟩ := h3 e
  refine ⟨g3, f1, f2, fun f => hu.keep.has (f4 f) (fun e => ?_), fun f => ?_⟩
  · subst e; exact other_type (f4 f) hg (by decide)
  · obtain ⟨v, q1, q2⟩ := f5 f
    exact ⟨v, hu.keep.has q1 (fun e => by subst e; exact other_type q1 hg (by decide)), kh.1 _ _ q2⟩
theorem Tw.done (h : Tw pb cb LL wx 1 1 1 1 y z w) : ∃ v gP gQ, y = .pointer (some ⟨gP, 0, none⟩) ∧ z = .pointer (some ⟨gQ, 0, none⟩) ∧ HeldE lineE (fun _ => True) w v LL ∧ Has w gP (pb v) 43 ∧ Has w gQ cb 24 ∧ Below wx.heap.size wx w := by
  obtain ⟨h1, h3, h4⟩ := h
  obtain ⟨g, e1, _, _, e5⟩ := h3 rfl
  obtain ⟨g3, f1, _, _, f5⟩ := h4 rfl
  obtain ⟨v, q2, q3⟩ := e5 rfl
  exact ⟨v, g, g3, e1, f1, q3, q2, f5 rfl, h1⟩
end
theorem heldw_take {k : IntKind} {w : World} {ao : Option Addr} {cap : Nat} {xs : List Int} (h : Held k w (.slice ao xs.length cap) xs) (n : Nat) (hn : n ≤ xs.length) : Held k w (.slice ao n cap) (xs.take n) := by
  obtain ⟨a2, c2, e, hl, hh⟩ := h
  cases e
  refine ⟨ao, cap, by rw [List.length_take, Nat.min_eq_left hn], fun e => by obtain ⟨rfl, rfl⟩ := hl e; exact ⟨by simp, rfl⟩, fun i hi => ?_⟩
  have hi2 : i < n ∧ i < xs.length := by rw [List.length_take] at hi; omega
  have := hh i hi2.2
  rw [show (xs.take n).getD i 0 = xs.getD i 0 from by simp [List.getD, List.getElem?_take, hi2.1]]
  exact this
end Go.Proofs.YtoeggiplcaegoaaGreatDoor
/- works of layer 35. -/
namespace Go.Proofs.YtoeggiplcaegoaaGreatDoor
open Go.RowKit Go.ChangeShapes Go.WideShapes
def wn0 : List Ln := List.replicate 2 (List.replicate 2 zc, false)
def wn1 : List Ln := plcL wn0 2 0 0 false true 1 [97]
def wn2 : List Ln := plcL wn1 2 0 1 false true 1 [10084]
def wn3 : List Ln := plcL wn2 2 0 1 false true 2 [10084, 65039]
theorem wn_1 : plcR wn0 2 0 0 false true 1 = 0 ∧ plcC 2 0 false true 1 = 0 ∧ plcK 2 1 = 1 ∧ aftC 0 1 2 = 1 ∧ aftP 0 1 2 true = false ∧ wn0.length = 2 ∧ wn1.length = 2 := by decide +kernel
theorem wn_2 : plcR wn1 2 0 1 false true 1 = 0 ∧ plcC 2 1 false true 1 = 1 ∧ wn2.length = 2 := by decide +kernel
theorem wn_3 : plcR wn2 2 0 1 false true 2 = 1 ∧ plcC 2 1 false true 2 = 0 ∧ wn3.length = 2 ∧ (wn3.getD 0 zl).2 = true := by decide +kernel
theorem wn_in : inI 0 (sideI 2) = ((0 : Nat) : Int) ∧ inI 1 (sideI 2) = ((1 : Nat) : Int) := by decide
theorem wn_wid : widB false false 10084 (gcbI 10084) (inTab tPict 10084) (eastI 10084) = false ∧ inTab tPict 10084 = true ∧ repl 10084 = 10084 ∧ repl 65039 = 65039 := by decide +kernel
theorem wn_wid2 (br : Int) (pc : Bool) (ea : Int) : widB true true 65039 br pc ea = true := by unfold widB; simp
set_option maxRecDepth 100000 in
set_option maxHeartbeats 6000000 in
theorem works35_any (w : World) : Calls Tryz.prog 12 #[] w (Yes w) := by
  have HNW := Lib.hid (pnew_any 2 2 w)
  rw [show rowN 2 = 2 from rfl] at HNW
  go_enter Tryz.func12, Tryz.ntmps12
  go_wp2_with fail
  refine HNW.out.mono ?_
  rintro e w1 ⟨gp, gg, gr, R0, rfl, h1, b1⟩
  have hb := (Below.refl w1.heap.size w1).alloc (Nat.le_refl _) (.cells [Value.int .i32 97].toArray 21)
  have ht := heldE_one (w := w1) (ty := 21) (E := intE .i32) (Y := fun _ => False) (Z := fun b => w1.heap.size ≤ b) [.int .i32 97] 97 rfl (fun _ _ h => h.elim) (Nat.le_refl _)
  have h1' := h1.below hb
  have hp := pput_any w.heap.size gp gg gr 2 R0 wn0 0 0 false true 1 _ [97] _ h1' (wid_text h1 ht) 0 0 false wn_in.1 wn_in.1 rfl (by decide) (by decide)
  rw [wn_1.1, wn_1.2.1, wn_1.2.2.1] at hp
  rw [show aftC ((0 : Nat) : Int) 1 ((2 : Nat) : Int) = 1 from wn_1.2.2.2.1, show aftP ((0 : Nat) : Int) 1 ((2 : Nat) : Int) true = false from wn_1.2.2.2.2.1] at hp
  have HP := Lib.hid hp
  have H1 := Lib.hid h1'
  have B1 := Lib.hid (b1.trans (hb.mono b1.size))
  clear hb ht h1' h1 b1 hp
  go_wp2_with fail
  refine HP.out.mono ?_
  rintro e w2 ⟨rfl, k2⟩
  have B2 := Lib.hid (B1.out.trans (k2.belowB H1.out B1.out.size))
  obtain ⟨R2, h2, _⟩ := k2
  have H2 := Lib.hid h2
  have HK := Lib.hid (show ∀ w', Calls Tryz.prog 13 #[.int .i32 10084] w' (Gives w' (.agg #[.int .i64 (gcbI 10084), .bool (inTab tPict 10084), .int .i64 (conjO 10084), .int .i64 (eastI 10084)])) from fun w' => rucdof_any 10084 w' (by decide) (by decide))
  have HK2 := Lib.hid (show ∀ w', Calls Tryz.prog 13 #[.int .i32 65039] w' (Gives w' (.agg #[.int .i64 (gcbI 65039), .bool (inTab tPict 65039), .int .i64 (conjO 65039), .int .i64 (eastI 65039)])) from fun w' => rucdof_any 65039 w' (by decide) (by decide))
  clear h2 HP H1 B1
  go_wp2_with fail
  refine (HK.out _).mono ?_
  rintro e w3 ⟨rfl, b3⟩
  have h3 := H2.out.below b3
  have B3 := Lib.hid (B2.out.trans (b3.mono B2.out.size))
  have hbg := wbegin_any w.heap.size gp gg gr 2 R2 wn1 0 1 false true 10084 (gcbI 10084) (inTab tPict 10084) (conjO 10084) (eastI 10084) w3 h3 0 1 false (by rw [wn_1.2.2.2.2.2.2]; exact wn_in.1) wn_in.2 rfl (by rw [wn_1.2.2.2.2.2.2]; decide) (by decide)
  rw [wn_wid.2.2.1, wn_wid.1] at hbg
  have HBG := Lib.hid hbg
  have H3 := Lib.hid h3
  clear h3 b3 hbg HK H2 B2
  go_wp2_with fail
  refine HBG.out.mono ?_
  rintro e w4 ⟨g, rfl, hgw, R4, h4, k4, u4, f4⟩
  have hge : ∀ b, PZ w3 gp gr R2 b ∨ b = g → w.heap.size ≤ b := fun b e => by
    rcases e with e | e
    · exact pz_ge H3.out B3.out.size b e
    · rw [e]; exact Nat.le_trans B3.out.size hgw
  have B4 := Lib.hid (B3.out.trans (u4.below B3.out.size hge))
  rw [show gwI false = 1 from rfl, wn_2.1, wn_2.2.1, wn_wid.2.1] at k4
  rw [show gwI false = 1 from rfl] at h4
  have HGW := Lib.hid (show w.heap.size ≤ g from Nat.le_trans B3.out.size hgw)
  have H4 := Lib.hid (show PenY (fun b => True ∧ b ≠ g) w4 w.heap.size gp gg gr 2 R4 wn2 _ _ _ true from h4)
  have K4 := Lib.hid (show WAt w4 g [10084] true true false 1 ((0 : Nat) : Int) ((1 : Nat) : Int) false from k4)
  have HAT := Lib.hid (wat_any g [10084] true true false 1 ((0 : Nat) : Int) ((1 : Nat) : Int) false w4 K4.out)
  have q1 := cur_self 0 1 false
  have q2 := cur_self 1 0 false
  clear hge u4 f4 h4 k4 HBG H3 B3 hgw
  go_wp2_with fail
  refine HAT.out.mono ?_
  rintro e w5 ⟨rfl, b5⟩
  have HP5 := Lib.hid (H4.out.below b5)
  have K5 := Lib.hid (K4.out.below b5)
  have B5 := Lib.hid (B4.out.trans (b5.mono B4.out.size))
  clear b5 H4 K4 HAT B4
  go_wp2_with fail
  refine (HK2.out _).mono ?_
  rintro e w6 ⟨rfl, b6⟩
  have h6 := HP5.out.below b6
  have k6 := K5.out.below b6
  have B6 := Lib.hid (B5.out.trans (b6.mono B5.out.size))
  have hj := wjoin_any w.heap.size gp gg gr 2 R4 wn2 _ _ _ true g [10084] true true false 1 0 1 65039 (gcbI 65039) (inTab tPict 65039) (conjO 65039) (eastI 65039) w6 h6 k6 (by decide) (by rw [wn_2.2.2]; decide) (by decide) (fun _ e => e.2)
  rw [wn_wid.2.2.2, wn_wid2, Bool.false_or] at hj
  have HJ := Lib.hid hj
  have H6 := Lib.hid h6
  clear h6 k6 b6 hj HP5 K5 B5 HK2
  go_wp2_with fail
  refine HJ.out.mono ?_
  rintro e w7 ⟨rfl, R7, h7, k7, u7, f7⟩
  have hge : ∀ b, PZ w6 gp gr R4 b ∨ b = g → w.heap.size ≤ b := fun b e => by
    rcases e with e | e
    · exact pz_ge H6.out.any B6.out.size b e
    · rw [e]; exact HGW.out
  have B7 := Lib.hid (B6.out.trans (u7.below B6.out.size hge))
  rw [show gwI true = 2 from rfl, wn_3.1, wn_3.2.1] at k7
  rw [show gwI true = 2 from rfl] at h7
  have H7 := Lib.hid (show PenY (fun b => True ∧ b ≠ g) w7 w.heap.size gp gg gr 2 R7 wn3 _ _ _ true from h7)
  have K7 := Lib.hid (show WAt w7 g [10084, 65039] true (inTab tPict 65039) true 2 ((1 : Nat) : Int) ((0 : Nat) : Int) false from k7)
  have HAT := Lib.hid (wat_any g _ _ _ _ _ _ _ _ w7 K7.out)
  clear hge u7 f7 h7 k7 HJ H6 B6
  go_wp2_with fail
  refine HAT.out.mono ?_
  rintro e w8 ⟨rfl, b8⟩
  have h8 := H7.out.below b8
  have k8 := K7.out.below b8
  have B8 := Lib.hid (B7.out.trans (b8.mono B7.out.size))
  have z0 := h8.1.cell 0 _ rfl
  have hrl := h8.sizes.2.2.2.2.1
  have hrl2 : R7.length = 2 := by rw [hrl]; exact wn_3.2.2.1
  have hrow := h8.2.2.1.row (i := 0) (by omega)
  have hwr := (row_line h8.2.2.2 0 (by omega)).2
  rw [wn_3.2.2.2] at hwr
  obtain ⟨gk, hgk⟩ : ∃ gk, gk = (R7.getD 0 r0).g := ⟨_, rfl⟩
  have HRW := Lib.hid (show Calls Tryz.prog 62 #[.pointer (some ⟨gg, 0, none⟩), .int .i64 0] w8 (fun e w' => e = .returned (.pointer (some ⟨gk, 0, none⟩)) ∧ w8 = w') from by rw [hgk]; exact grow_in w.heap.size gg gr 2 R7 0 _ h8.2.2.1 (by omega))
  have HWP := Lib.hid (show Calls Tryz.prog 63 #[.pointer (some ⟨gk, 0, none⟩)] w8 (fun e w' => e = .returned (.bool true) ∧ w8 = w') from by rw [hgk, ← hwr]; exact rwrap_any _ _ _ _ _ _ _ hrow)
  have HWD := Lib.hid (wwide_any g _ _ _ _ _ _ _ _ w8 k8)
  clear h8 k8 b8 hrl hrl2 hrow hwr hgk H7 K7 HAT B7
  go_wp2_with fail
  refine HRW.out.mono ?_
  rintro e wz ⟨rfl, rfl⟩
  go_wp2_with fail
  refine HWP.out.mono ?_
  rintro e wz ⟨rfl, rfl⟩
  go_wp2_with fail
  refine HWD.out.mono ?_
  rintro e wz ⟨rfl, rfl⟩
  go_wp2
  go_ret
  exact ⟨(ret_eq (by first | rfl | (simp <;> omega))), B8.out⟩
end Go.Proofs.YtoeggiplcaegoaaGreatDoor
