/- Texts put together: WidG, FedN, FedC, FedD, FedE, FedF, FedG. -/
import Derived.Test.YtoeggiplcaegoaaGreatDoorWidC
import Derived.Test.YtoeggiplcaegoaaGreatDoorMg8
import Derived.Test.YtoeggiplcaegoaaGreatDoorWidR
import Derived.Test.YtoeggiplcaegoaaGreatDoorCwidA
import Derived.Test.YtoeggiplcaegoaaGreatDoorMg5
import Derived.Test.YtoeggiplcaegoaaGreatDoorMg10
import Derived.Test.YtoeggiplcaegoaaGreatDoorMg6
import Derived.Test.YtoeggiplcaegoaaGreatDoorMg9
import Derived.Test.YtoeggiplcaegoaaGreatDoorUcdK
import Derived.Test.YtoeggiplcaegoaaGreatDoorMg1
import Derived.StillTailTactics
/- A cluster that grows: what stands behind so many numbers. -/
namespace Go.Proofs.YtoeggiplcaegoaaGreatDoor
open Go.RowKit Go.ChangeShapes Go.WideShapes
theorem anyW_cong {xs ys : List Int} {ps qs : List Pr} (k : Nat) (h : ∀ i, i < k → xs.getD i 0 = ys.getD i 0 ∧ ps.getD i Pr.none = qs.getD i Pr.none) : anyW xs ps k = anyW ys qs k := by
  induction k with
  | zero => rfl
  | succ k ih =>
    show (anyW xs ps k || condW xs ps k) = (anyW ys qs k || condW ys qs k)
    rw [ih fun i hi => h i (by omega)]
    have e1 := h k (by omega)
    have e2 : picAt ps k = picAt qs k := by
      cases k with
      | zero => rfl
      | succ j => show (ps.getD j Pr.none).pc = (qs.getD j Pr.none).pc; rw [(h j (by omega)).2]
    unfold condW
    rw [e1.1, e1.2, e2]
/-- Is the cluster of the first k numbers wide? -/
def cwW (xs : List Int) (ps : List Pr) (k : Nat) : Bool := anyW (xs.map repl) ps k
theorem map_repl_get (xs : List Int) (i : Nat) (h : i < xs.length) : (xs.map repl).getD i 0 = repl (xs.getD i 0) := by
  simp [List.getD, List.getElem?_eq_getElem h]
theorem cwW_one (xs : List Int) (ps : List Pr) (h : 0 < xs.length) : cwW xs ps 1 = widB false false (repl (xs.getD 0 0)) (ps.getD 0 Pr.none).br (ps.getD 0 Pr.none).pc (ps.getD 0 Pr.none).ea := by
  show (false || condW (xs.map repl) ps 0) = _
  unfold condW picAt
  rw [map_repl_get xs 0 h]
  rfl
theorem cwW_succ (xs : List Int) (ps : List Pr) (k : Nat) (h0 : 0 < k) (h : k < xs.length) : cwW xs ps (k + 1) = (cwW xs ps k || widB true (picAt ps k) (repl (xs.getD k 0)) (ps.getD k Pr.none).br (ps.getD k Pr.none).pc (ps.getD k Pr.none).ea) := by
  show (anyW (xs.map repl) ps k || condW (xs.map repl) ps k) = _
  unfold condW
  rw [map_repl_get xs k h, decide_eq_true h0]
  rfl
theorem numT_succ (xs : List Int) (k : Nat) (h : k < xs.length) : numT xs (k + 1) = numT xs k ++ [repl (xs.getD k 0)] := takerepl_succ xs k h
theorem numT_one (xs : List Int) (h : 0 < xs.length) : numT xs 1 = [repl (xs.getD 0 0)] := by rw [numT_succ xs 0 h]; rfl
/-- The cluster of the first K numbers stands on the pen, as it were put at once. -/
def GrowAt (Yo : Zone) (w : World) (B gp gg gr wd g : Nat) (R : List Rw) (Ls : List Ln) (r2 c2 : Nat) (pd2 au : Bool) (xs : List Int) (ps : List Pr) (K : Nat) : Prop :=
  PenY Yo w B gp gg gr wd R (plcL Ls wd r2 c2 pd2 au (gwI (cwW xs ps K)) (numT xs K)) (plcR Ls wd r2 c2 pd2 au (gwI (cwW xs ps K)) : Nat) (aftC (plcC wd c2 pd2 au (gwI (cwW xs ps K)) : Nat) (plcK wd (gwI (cwW xs ps K))) wd) (aftP (plcC wd c2 pd2 au (gwI (cwW xs ps K)) : Nat) (plcK wd (gwI (cwW xs ps K))) wd au) au ∧
  WAt w g (numT xs K) true (picAt ps K) (cwW xs ps K) (gwI (cwW xs ps K)) (plcR Ls wd r2 c2 pd2 au (gwI (cwW xs ps K)) : Nat) (plcC wd c2 pd2 au (gwI (cwW xs ps K)) : Nat) false
section
variable {Yo : Zone} {w w' : World} {B gp gg gr wd g : Nat} {R : List Rw} {Ls : List Ln} {r2 c2 : Nat} {pd2 au : Bool} {xs : List Int} {ps : List Pr} {K : Nat}
theorem GrowAt.below (h : GrowAt Yo w B gp gg gr wd g R Ls r2 c2 pd2 au xs ps K) (hb : Below w.heap.size w w') : GrowAt Yo w' B gp gg gr wd g R Ls r2 c2 pd2 au xs ps K := ⟨h.1.below hb, h.2.below hb⟩
theorem GrowAt.first (hx : 0 < xs.length) (h : WDo Yo w B gp gg gr wd g R Ls au [repl (xs.getD 0 0)] (ps.getD 0 Pr.none).pc (widB false false (repl (xs.getD 0 0)) (ps.getD 0 Pr.none).br (ps.getD 0 Pr.none).pc (ps.getD 0 Pr.none).ea) r2 c2 pd2 w') : ∃ R1, GrowAt Yo w' B gp gg gr wd g R1 Ls r2 c2 pd2 au xs ps 1 ∧ Upd (fun q => PZ w gp gr R q ∨ q = g) w w' ∧ RowsFrom w R R1 := by
  obtain ⟨R1, h1, h2, h3, h4⟩ := h
  rw [← cwW_one xs ps hx, ← numT_one xs hx] at h1
  rw [← cwW_one xs ps hx, ← numT_one xs hx] at h2
  exact ⟨R1, ⟨h1, h2⟩, h3, h4⟩
theorem gwI_mono (a b : Bool) : gwI a ≤ gwI (a || b) := by cases a <;> cases b <;> decide
theorem GrowAt.next (hr : r2 < Ls.length) (hc : c2 < wd) (h0 : 0 < K) (hx : K < xs.length) (h : WDo Yo w B gp gg gr wd g R (plcL Ls wd r2 c2 pd2 au (gwI (cwW xs ps K)) (numT xs K)) au (numT xs K ++ [repl (xs.getD K 0)]) (ps.getD K Pr.none).pc (cwW xs ps K || widB true (picAt ps K) (repl (xs.getD K 0)) (ps.getD K Pr.none).br (ps.getD K Pr.none).pc (ps.getD K Pr.none).ea) (plcR Ls wd r2 c2 pd2 au (gwI (cwW xs ps K))) (plcC wd c2 pd2 au (gwI (cwW xs ps K))) false w') :
    ∃ R1, GrowAt Yo w' B gp gg gr wd g R1 Ls r2 c2 pd2 au xs ps (K + 1) ∧ Upd (fun q => PZ w gp gr R q ∨ q = g) w w' ∧ RowsFrom w R R1 := by
  obtain ⟨R1, h1, h2, h3, h4⟩ := h
  have hm : gwI (cwW xs ps K) ≤ gwI (cwW xs ps (K + 1)) := by rw [cwW_succ xs ps K h0 hx]; exact gwI_mono _ _
  rw [← cwW_succ xs ps K h0 hx, ← numT_succ xs K hx] at h1 h2
  obtain ⟨e1, e2, e3⟩ := plc_again Ls wd r2 c2 pd2 au (gwI (cwW xs ps K)) (gwI (cwW xs ps (K + 1))) (numT xs K) (numT xs (K + 1)) hr hc hm
  rw [e1, e2, e3] at h1
  rw [e2, e3] at h2
  exact ⟨R1, ⟨h1, h2⟩, h3, h4⟩
end
/-- What the law's loop knows: so many numbers stand, the first pen's box is as it was. -/
def LoopAt (W1 : World) (BP gp gg gr wd b8 : Nat) (Ls : List Ln) (r2 c2 : Nat) (pd2 au : Bool) (xs : List Int) (ps : List Pr) (bx : List Value) (K g : Nat) (w : World) : Prop :=
  (∃ R, GrowAt (fun b => True ∧ b ≠ g) w BP gp gg gr wd g R Ls r2 c2 pd2 au xs ps K) ∧ Has w b8 bx 43 ∧ Below W1.heap.size W1 w ∧ g ≠ b8 ∧ BP ≤ g
section
variable {W1 w w' : World} {BP gp gg gr wd b8 : Nat} {Ls : List Ln} {r2 c2 : Nat} {pd2 au : Bool} {xs : List Int} {ps : List Pr} {bx : List Value} {K g : Nat}
theorem LoopAt.below (h : LoopAt W1 BP gp gg gr wd b8 Ls r2 c2 pd2 au xs ps bx K g w) (hb : Below w.heap.size w w') : LoopAt W1 BP gp gg gr wd b8 Ls r2 c2 pd2 au xs ps bx K g w' := by
  obtain ⟨⟨R, h1⟩, h2, h3, h4, h5⟩ := h
  exact ⟨⟨R, h1.below hb⟩, h2.below hb h2.lt, h3.trans (hb.mono h3.size), h4, h5⟩
end
end Go.Proofs.YtoeggiplcaegoaaGreatDoor
/- Pens on which clusters are put, one behind the other; the cluster that is open. Of no program's code. -/
namespace Go.Proofs.YtoeggiplcaegoaaGreatDoor
open Go.RowKit Go.ChangeShapes Go.WideShapes
/-- A pen: its lines, its cursor, Auto. -/
structure Pn where
  L : List Ln
  r : Int
  c : Int
  pd : Bool
  au : Bool
def Pn.r2 (p : Pn) : Nat := (inI p.r (sideI p.L.length)).toNat
def Pn.c2 (p : Pn) (wd : Nat) : Nat := (inI p.c (sideI wd)).toNat
def Pn.pd2 (p : Pn) (wd : Nat) : Bool := holdP p.c p.pd wd
abbrev PenP (Yo : Zone) (w : World) (B gp gg gr wd : Nat) (R : List Rw) (p : Pn) : Prop := PenY Yo w B gp gg gr wd R p.L p.r p.c p.pd p.au
/-- A cluster put; a control done. -/
def putP (wd : Nat) (p : Pn) (n : Int) (t : List Int) : Pn :=
  ⟨plcL p.L wd p.r2 (p.c2 wd) (p.pd2 wd) p.au n t, (plcR p.L wd p.r2 (p.c2 wd) (p.pd2 wd) p.au n : Nat), aftC (plcC wd (p.c2 wd) (p.pd2 wd) p.au n : Nat) (plcK wd n) wd, aftP (plcC wd (p.c2 wd) (p.pd2 wd) p.au n : Nat) (plcK wd n) wd p.au, p.au⟩
def doP (wd : Nat) (p : Pn) (k : Int) : Pn := ⟨ctL p.L p.r2 k, ctR p.L p.r p.r2 k, ctC p.c (p.c2 wd) k, ctP p.pd k, p.au⟩
/-- How wide a cluster is; what of it is kept. -/
def clN (t : List Int) : Nat := min t.length 16
def clW (t : List Int) : Int := gwI (cwW t (knownL t) (clN t))
def putC (wd : Nat) (p : Pn) (t : List Int) : Pn := if silB (t.getD 0 0) = true then t.foldl (doP wd) p else putP wd p (clW t) (numT t (clN t))
def layP (wd : Nat) (p : Pn) (cs : List (List Int)) : Pn := cs.foldl (putC wd) p
theorem layP_snoc (wd : Nat) (p : Pn) (cs : List (List Int)) (t : List Int) : layP wd p (cs ++ [t]) = putC wd (layP wd p cs) t := by unfold layP; rw [List.foldl_append]; rfl
/-- A pen that may be: as many lines, all of that width. -/
def PnOk (wd n : Nat) (p : Pn) : Prop := p.L.length = n ∧ ∀ i, i < p.L.length → (p.L.getD i zl).1.length = wd
theorem Pn.nat {p : Pn} {wd : Nat} (h0 : 0 < p.L.length) (h1 : p.L.length ≤ 1024) (w0 : 0 < wd) (w1 : wd ≤ 1024) : inI p.r (sideI p.L.length) = (p.r2 : Int) ∧ inI p.c (sideI wd) = (p.c2 wd : Int) ∧ holdP p.c p.pd wd = p.pd2 wd ∧ p.r2 < p.L.length ∧ p.c2 wd < wd := by
  obtain ⟨a, ha, ha2⟩ := in_nat p.r h0 h1
  obtain ⟨b, hb, hb2⟩ := in_nat p.c w0 w1
  have ea : p.r2 = a := by unfold Pn.r2; rw [ha]; rfl
  have eb : p.c2 wd = b := by unfold Pn.c2; rw [hb]; rfl
  rw [ea, eb]
  exact ⟨ha, hb, rfl, ha2, hb2⟩
section
variable {wd n : Nat} {p : Pn}
/-- All that a screen's sides may be. -/
def Sides (wd n : Nat) : Prop := 0 < n ∧ n ≤ 1000 ∧ 0 < wd ∧ wd ≤ 1024
theorem PnOk.even (h : PnOk wd n p) (hs : Sides wd n) : Even p.L wd := ⟨by rw [h.1]; exact hs.1, by rw [h.1]; exact hs.2.1, hs.2.2.1, hs.2.2.2, h.2⟩
theorem PnOk.of (h : Even p.L wd) : PnOk wd p.L.length p ∧ Sides wd p.L.length := ⟨⟨rfl, h.2.2.2.2⟩, h.1, h.2.1, h.2.2.1, h.2.2.2.1⟩
theorem PnOk.nat (h : PnOk wd n p) (hs : Sides wd n) : inI p.r (sideI p.L.length) = (p.r2 : Int) ∧ inI p.c (sideI wd) = (p.c2 wd : Int) ∧ holdP p.c p.pd wd = p.pd2 wd ∧ p.r2 < p.L.length ∧ p.c2 wd < wd :=
  p.nat (by rw [h.1]; exact hs.1) (by rw [h.1]; have := hs.2.1; omega) hs.2.2.1 hs.2.2.2
theorem PnOk.put (h : PnOk wd n p) (hs : Sides wd n) (k : Int) (t : List Int) : PnOk wd n (putP wd p k t) := by
  obtain ⟨_, _, _, hr, hc⟩ := h.nat hs
  have he := plc_even (c := p.c2 wd) (h.even hs) (p.pd2 wd) p.au k t hr
  have hl := (plc_lt (Ls := p.L) (p.pd2 wd) p.au k t hr hc).2.2.2
  exact ⟨by show (plcL _ _ _ _ _ _ _ _).length = n; rw [hl]; exact h.1, he.2.2.2.2⟩
theorem PnOk.do_ (h : PnOk wd n p) (hs : Sides wd n) (k : Int) : PnOk wd n (doP wd p k) := by
  refine ⟨by show (ctL _ _ _).length = n; rw [ct_len]; exact h.1, ?_⟩
  show ∀ i, i < (ctL p.L p.r2 k).length → ((ctL p.L p.r2 k).getD i zl).1.length = wd
  unfold ctL
  by_cases e : k = 10
  · rw [if_pos e]; exact ((h.even hs).down p.r2).2.2.2.2
  · rw [if_neg e]; exact h.2
theorem PnOk.dos (hs : Sides wd n) : ∀ (t : List Int) (p : Pn), PnOk wd n p → PnOk wd n (t.foldl (doP wd) p)
  | [], _, h => h
  | k :: t, _, h => PnOk.dos hs t _ (h.do_ hs k)
theorem PnOk.putC (h : PnOk wd n p) (hs : Sides wd n) (t : List Int) : PnOk wd n (putC wd p t) := by
  unfold Go.Proofs.YtoeggiplcaegoaaGreatDoor.putC
  split
  · exact PnOk.dos hs t p h
  · exact h.put hs _ _
end
/-- The whole row put, one number later. -/
theorem lay_sil (wd : Nat) (p : Pn) {xs : List Int} {r : Int} (hr : silB r = true) : layP wd p (cluA (xs ++ [r])) = doP wd (layP wd p (cluA xs)) r := by
  rw [cluA_eq (snoc_ne xs r), layP_snoc]
  cases hj : joinC xs r with
  | false =>
    rw [(snoc_new hj).1, (snoc_new hj).2]
    unfold putC
    rw [if_pos (show silB ([r].getD 0 0) = true from hr)]
    rfl
  | true =>
    obtain ⟨h1, _, h3⟩ := join_sil hr hj
    rw [(snoc_join hj).1, (snoc_join hj).2, cluA_eq h3, layP_snoc, h1]
    rfl
theorem lay_new (wd : Nat) (p : Pn) {xs : List Int} {r : Int} (hj : joinC xs r = false) : layP wd p (doneC (xs ++ [r])) = layP wd p (cluA xs) ∧ lastC (xs ++ [r]) = [r] := by
  rw [(snoc_new hj).1]
  exact ⟨rfl, (snoc_new hj).2⟩
theorem lay_open (wd : Nat) (p : Pn) {xs : List Int} (ho : openB xs = true) : layP wd p (cluA xs) = putP wd (layP wd p (doneC xs)) (clW (lastC xs)) (numT (lastC xs) (clN (lastC xs))) := by
  have h0 : xs ≠ [] := by rintro rfl; cases ho
  rw [cluA_eq h0, layP_snoc]
  conv => lhs; unfold putC
  rw [(head_open _ xs rfl ho).1]
  rfl
/-- The open cluster stands on a pen. -/
abbrev GrowP (Yo : Zone) (w : World) (B gp gg gr wd g : Nat) (R : List Rw) (p : Pn) (t : List Int) : Prop := GrowAt Yo w B gp gg gr wd g R p.L p.r2 (p.c2 wd) (p.pd2 wd) p.au t (knownL t) (clN t)
theorem GrowP.pen {Yo : Zone} {w : World} {B gp gg gr wd g : Nat} {R : List Rw} {p : Pn} {t : List Int} (h : GrowP Yo w B gp gg gr wd g R p t) : PenP Yo w B gp gg gr wd R (putP wd p (clW t) (numT t (clN t))) := h.1
theorem numT_left (t : List Int) (r : Int) (K : Nat) (h : K ≤ t.length) : numT (t ++ [r]) K = numT t K := by unfold numT; rw [List.take_append_of_le_length h]
theorem getD_left {α : Type} (t : List α) (r d : α) (i : Nat) (h : i < t.length) : (t ++ [r]).getD i d = t.getD i d := by simp [List.getD, List.getElem?_append_left h]
theorem getD_end {α : Type} (t : List α) (r d : α) : (t ++ [r]).getD t.length d = r := by simp [List.getD]
theorem cwW_left (t : List Int) (r : Int) (K : Nat) (h : K ≤ t.length) : cwW (t ++ [r]) (knownL (t ++ [r])) K = cwW t (knownL t) K := by
  unfold cwW
  refine anyW_cong K fun i hi => ⟨?_, known_left t [r] i (by omega)⟩
  rw [List.map_append, List.map_singleton]
  exact getD_left _ _ _ _ (by rw [List.length_map]; omega)
theorem pic_left (t : List Int) (r : Int) (K : Nat) (h : K ≤ t.length) : picAt (knownL (t ++ [r])) K = picAt (knownL t) K := by
  cases K with
  | zero => rfl
  | succ k => show ((knownL (t ++ [r])).getD k Pr.none).pc = ((knownL t).getD k Pr.none).pc; rw [known_left t [r] k (by omega)]
theorem grow_left {Yo : Zone} {w : World} {B gp gg gr wd g : Nat} {R : List Rw} {Ls : List Ln} {r2 c2 : Nat} {pd2 au : Bool} {t : List Int} {r : Int} {K : Nat} (hk : K ≤ t.length) : GrowAt Yo w B gp gg gr wd g R Ls r2 c2 pd2 au (t ++ [r]) (knownL (t ++ [r])) K = GrowAt Yo w B gp gg gr wd g R Ls r2 c2 pd2 au t (knownL t) K := by
  unfold GrowAt
  rw [cwW_left t r K hk, numT_left t r K hk, pic_left t r K hk]
/-- Sixteen are kept: one more changes nothing. -/
theorem grow_full {Yo : Zone} {w : World} {B gp gg gr wd g : Nat} {R : List Rw} {p : Pn} {t : List Int} {r : Int} (ht : 16 ≤ t.length) (h : GrowP Yo w B gp gg gr wd g R p t) : GrowP Yo w B gp gg gr wd g R p (t ++ [r]) := by
  have e1 : clN t = 16 := by unfold clN; omega
  have e2 : clN (t ++ [r]) = 16 := by unfold clN; rw [List.length_append, List.length_singleton]; omega
  unfold GrowP at h ⊢
  rw [e2, grow_left ht, ← e1]
  exact h
end Go.Proofs.YtoeggiplcaegoaaGreatDoor
/- A feeder's pen and open cluster: what Begin, Join and ctrl.Do make of them. -/
namespace Go.Proofs.YtoeggiplcaegoaaGreatDoor
open Go.RowKit Go.ChangeShapes Go.WideShapes
theorem GridY.apart2 {Yo : Zone} {w w' : World} {B gg gr wd g : Nat} {Rs : List Rw} {C : List Value} (h : GridY Yo w B gg gr wd Rs) (hne : ∀ b, Yo b → b ≠ g) (hg : Has w g C 143) (hu : Upd (fun b => b = g) w w') : GridY Yo w' B gg gr wd Rs := by
  have ho := h.other hg (by decide) (by decide) (by decide) (by decide)
  obtain ⟨Z, cap, h1, h2, h3, h4, h5, h6, h7, h8, h9, h10, hY⟩ := h
  have hk := hu.keep
  refine ⟨Z, cap, fun b hz => ⟨(h1 b hz).1, Nat.lt_of_lt_of_le (h1 b hz).2 hu.size⟩, hk.has h2 (fun e => ho.1 e.symm), h3, ?_, h5, h6, h7.upd hu (fun b hz e => hne b (hY b (.inl hz)) e) (fun i hi => ⟨fun e => (ho.2.2 i hi).1 e.symm, fun e => (ho.2.2 i hi).2 e.symm⟩), h8, h9, h10, fun b hb => hY b (hb.imp id (Nat.le_trans hu.size))⟩
  exact own_ptrs (hk.own h4.ptrs fun b hb e => by
    have : gr = b := by simpa [Value.ownBlock] using hb
    exact ho.2.1 (by rw [this]; exact e.symm))
theorem PenY.apart2 {Yo : Zone} {w w' : World} {B gp gg gr wd g : Nat} {Rs : List Rw} {Ls : List Ln} {r c : Int} {pd au : Bool} {C : List Value} (h : PenY Yo w B gp gg gr wd Rs Ls r c pd au) (hne : ∀ b, Yo b → b ≠ g) (hg : Has w g C 143) (hu : Upd (fun b => b = g) w w') : PenY Yo w' B gp gg gr wd Rs Ls r c pd au :=
  ⟨hu.keep.has h.1 (fun e => by subst e; exact other_type hg h.1 (by decide)), h.2.1, h.2.2.1.apart2 hne hg hu, h.2.2.2⟩
theorem plc_len (Ls : List Ln) (wd r c : Nat) (pd au : Bool) (n : Int) (xs : List Int) : (plcL Ls wd r c pd au n xs).length = Ls.length := by
  unfold plcL
  rw [pnt_len]
  have h1 : (p1L Ls r pd).length = Ls.length := by
    unfold p1L
    split
    · exact go_len _ _
    · rfl
  have h2 : ∀ (M : List Ln) (k : Int) (r c : Nat), (p2L wd k M r c au).length = M.length := fun M k r c => by
    unfold p2L
    repeat' split
    all_goals first | rfl | rw [go_len, pnt_len]
  rw [h2, h1]
/-- A feeder's pen, and its open cluster. -/
def FPen (w : World) (B gp gg gr wd gf : Nat) (R : List Rw) (p : Pn) (xs : List Int) (op : Option Nat) : Prop :=
  ∃ Yo : Zone, (∀ x, Yo x → x ≠ gf) ∧ (openB xs = false → op = none ∧ PenP Yo w B gp gg gr wd R (layP wd p (cluA xs))) ∧
    (openB xs = true → ∃ g, op = some g ∧ (∀ x, Yo x → x ≠ g) ∧ GrowP Yo w B gp gg gr wd g R (layP wd p (doneC xs)) (lastC xs))
/-- The blocks that a feeder may write, beside its own. -/
def FZ (w : World) (gp gr : Nat) (R : List Rw) (op : Option Nat) (b : Nat) : Prop := PZ w gp gr R b ∨ op = some b
def FDo (w : World) (B gp gg gr wd gf : Nat) (R : List Rw) (op : Option Nat) (p : Pn) (xs : List Int) (op' : Option Nat) (w' : World) : Prop :=
  ∃ R', FPen w' B gp gg gr wd gf R' p xs op' ∧ Upd (FZ w gp gr R op) w w' ∧ RowsFrom w R R' ∧ ∀ g, op' = some g → op = some g ∨ w.heap.size ≤ g
theorem FZ.from {w w1 : World} {gp gr : Nat} {R R1 : List Rw} {op op1 : Option Nat} (h : RowsFrom w R R1) (ho : ∀ g, op1 = some g → op = some g ∨ w.heap.size ≤ g) (hs : w.heap.size ≤ w1.heap.size) (b : Nat) (hb : FZ w1 gp gr R1 op1 b) : FZ w gp gr R op b := by
  rcases hb with e | e
  · exact .inl (PZ.from h hs b e)
  · rcases ho b e with e | e
    · exact .inr e
    · exact .inl (.inr (.inr (.inr e)))
section
variable {w w' : World} {B gp gg gr wd gf : Nat} {R : List Rw} {p : Pn} {xs : List Int} {op : Option Nat}
theorem FPen.pen (h : FPen w B gp gg gr wd gf R p xs op) : ∃ Yo : Zone, (∀ x, Yo x → x ≠ gf) ∧ PenP Yo w B gp gg gr wd R (layP wd p (cluA xs)) := by
  obtain ⟨Yo, h1, h2, h3⟩ := h
  refine ⟨Yo, h1, ?_⟩
  cases ho : openB xs with
  | false => exact (h2 ho).2
  | true =>
    obtain ⟨g, _, _, hg⟩ := h3 ho
    rw [lay_open wd p ho]
    exact hg.pen
theorem FPen.below (h : FPen w B gp gg gr wd gf R p xs op) (hb : Below w.heap.size w w') : FPen w' B gp gg gr wd gf R p xs op := by
  obtain ⟨Yo, h1, h2, h3⟩ := h
  exact ⟨Yo, h1, fun e => ⟨(h2 e).1, (h2 e).2.below hb⟩, fun e => by obtain ⟨g, e1, e2, e3⟩ := h3 e; exact ⟨g, e1, e2, GrowAt.below e3 hb⟩⟩
/-- The feeder's own block was turned. -/
theorem FPen.own (h : FPen w B gp gg gr wd gf R p xs op) {C : List Value} (hg : Has w gf C 143) (hu : Upd (fun b => b = gf) w w') : FPen w' B gp gg gr wd gf R p xs op := by
  obtain ⟨Yo, h1, h2, h3⟩ := h
  refine ⟨Yo, h1, fun e => ⟨(h2 e).1, (h2 e).2.apart2 h1 hg hu⟩, fun e => ?_⟩
  obtain ⟨g, e1, e2, e3⟩ := h3 e
  exact ⟨g, e1, e2, e3.1.apart2 h1 hg hu, hu.keep.has e3.2.1 (fun e => by subst e; exact other_type e3.2.1 hg (by decide)), e3.2.2⟩
/-- A feeder's block is none that its pen writes. -/
theorem FPen.off (h : FPen w B gp gg gr wd gf R p xs op) {C : List Value} (hg : Has w gf C 143) : ¬ FZ w gp gr R op gf := by
  obtain ⟨_, _, h2⟩ := h.pen
  rintro (e | e)
  · exact has_off h2.any hg (by decide) (by decide) (by decide) (by decide) (by decide) e
  · obtain ⟨Yo, h1, h2, h3⟩ := h
    cases ho : openB xs with
    | false => rw [(h2 ho).1] at e; cases e
    | true =>
      obtain ⟨g, e1, _, e3⟩ := h3 ho
      rw [e1] at e
      cases e
      exact other_type e3.2.1 hg (by decide)
/-- What is silent is done. -/
theorem fj_ctrl (h : FPen w B gp gg gr wd gf R p xs op) {r : Int} (hr : silB r = true) : Calls Tryz.prog 148 #[.pointer (some ⟨gp, 0, none⟩), .int .i32 r] w (fun e w' => e = .returned (.bool true) ∧ FDo w B gp gg gr wd gf R op p (xs ++ [r]) none w') := by
  obtain ⟨Yo, h1, h2⟩ := h.pen
  have hs := h2.sizes
  obtain ⟨n1, n2, _, n4, n5⟩ := (layP wd p (cluA xs)).nat hs.1 hs.2.1 hs.2.2.1 hs.2.2.2.1
  have hc := ctdo_any B gp gg gr wd R _ _ _ _ _ r w h2 _ _ n1 n2 n4 n5
  rw [hr] at hc
  refine hc.mono ?_
  rintro e w' ⟨rfl, R1, k1, k2, k3⟩
  have hno : ¬ openB (xs ++ [r]) = true := by rw [openB_snoc, hr]; decide
  refine ⟨rfl, R1, ⟨Yo, h1, fun _ => ⟨rfl, ?_⟩, fun e => absurd e hno⟩, k2.mono fun b _ e => .inl e, k3, fun g e => by cases e⟩
  rw [lay_sil wd p hr]
  exact k1
/-- A cluster is begun. -/
theorem fj_begin (h : FPen w B gp gg gr wd gf R p xs op) (hgf : gf < w.heap.size) {r : Int} (hr : silB r = false) (hj : joinC xs r = false) : Calls Tryz.prog 15 #[.pointer (some ⟨gp, 0, none⟩), .int .i32 r, .agg #[.int .i64 (knownPr r).br, .bool (knownPr r).pc, .int .i64 (knownPr r).cv, .int .i64 (knownPr r).ea]] w (fun e w' => ∃ g, e = .returned (.pointer (some ⟨g, 0, none⟩)) ∧ w.heap.size ≤ g ∧ FDo w B gp gg gr wd gf R op p (xs ++ [r]) (some g) w') := by
  obtain ⟨Yo, h1, h2⟩ := h.pen
  have hs := h2.sizes
  obtain ⟨n1, n2, n3, n4, n5⟩ := (layP wd p (cluA xs)).nat hs.1 hs.2.1 hs.2.2.1 hs.2.2.2.1
  obtain ⟨l1, l2⟩ := lay_new wd p hj
  refine (wbegin_any B gp gg gr wd R _ _ _ _ _ r _ _ _ _ w h2 _ _ _ n1 n2 n3 n4 n5).mono ?_
  rintro e w' ⟨g, rfl, hge, hd⟩
  have hno : ¬ openB (xs ++ [r]) = false := by rw [openB_snoc, hr]; decide
  obtain ⟨R2, q1, q3, hR⟩ := GrowAt.first (xs := [r]) (ps := knownL [r]) (by simp) hd
  refine ⟨g, rfl, hge, R2, ⟨fun b => Yo b ∧ b ≠ g, fun x hx => h1 x hx.1, fun e => absurd e hno, fun _ => ⟨g, rfl, fun x hx => hx.2, ?_⟩⟩, q3.mono fun b _ e => by rcases e with e | e; exact .inl e; exact .inl (.inr (.inr (.inr (by omega)))), hR, fun g' e => by cases e; exact .inr hge⟩
  rw [l1, l2]
  exact q1
/-- A cluster grows. -/
theorem fj_join (h : FPen w B gp gg gr wd gf R p xs op) (ho : openB xs = true) {r : Int} (hr : silB r = false) (hj : joinC xs r = true) : ∃ g, op = some g ∧ Calls Tryz.prog 16 #[.pointer (some ⟨g, 0, none⟩), .pointer (some ⟨gp, 0, none⟩), .int .i32 r, .agg #[.int .i64 (knownPr r).br, .bool (knownPr r).pc, .int .i64 (knownPr r).cv, .int .i64 (knownPr r).ea]] w (fun e w' => (∃ b, e = .returned (.bool b)) ∧ FDo w B gp gg gr wd gf R op p (xs ++ [r]) (some g) w') := by
  obtain ⟨Yo, h1, _, h3⟩ := h
  obtain ⟨g, rfl, hne, hg⟩ := h3 ho
  refine ⟨g, rfl, ?_⟩
  obtain ⟨j1, j2⟩ := snoc_join hj
  have hno : ¬ openB (xs ++ [r]) = false := by rw [openB_snoc, hr]; decide
  have hh := (head_open _ xs rfl ho).2
  have h0 : 0 < (lastC xs).length := List.length_pos_iff.2 hh
  have hfin : ∀ (w' : World) (R' : List Rw), GrowP Yo w' B gp gg gr wd g R' (layP wd p (doneC xs)) (lastC xs ++ [r]) → FPen w' B gp gg gr wd gf R' p (xs ++ [r]) (some g) := fun w' R' k =>
    ⟨Yo, h1, fun e => absurd e hno, fun _ => ⟨g, rfl, hne, by rw [j1, j2]; exact k⟩⟩
  by_cases h16 : (lastC xs).length < 16
  · have hK : clN (lastC xs) = (lastC xs).length := by unfold clN; omega
    have hK2 : clN (lastC xs ++ [r]) = (lastC xs).length + 1 := by unfold clN; rw [List.length_append, List.length_singleton]; omega
    have hg2 : GrowAt Yo w B gp gg gr wd g R (layP wd p (doneC xs)).L (layP wd p (doneC xs)).r2 ((layP wd p (doneC xs)).c2 wd) ((layP wd p (doneC xs)).pd2 wd) (layP wd p (doneC xs)).au (lastC xs ++ [r]) (knownL (lastC xs ++ [r])) (lastC xs).length := by
      rw [grow_left (Nat.le_refl _), ← hK]; exact hg
    have hs := hg2.1.sizes
    rw [plc_len] at hs
    obtain ⟨n1, n2, n3, n4, n5⟩ := (layP wd p (doneC xs)).nat hs.1 hs.2.1 hs.2.2.1 hs.2.2.2.1
    have hpl := plc_lt (Ls := (layP wd p (doneC xs)).L) ((layP wd p (doneC xs)).pd2 wd) (layP wd p (doneC xs)).au (gwI (cwW (lastC xs ++ [r]) (knownL (lastC xs ++ [r])) (lastC xs).length)) (numT (lastC xs ++ [r]) (lastC xs).length) n4 n5
    have hll : (lastC xs ++ [r]).length = (lastC xs).length + 1 := by simp
    have e1 : (lastC xs ++ [r]).getD (lastC xs).length 0 = r := getD_end _ _ _
    have e2 : (knownL (lastC xs ++ [r])).getD (lastC xs).length Pr.none = knownPr r := known_new _ _
    have hj := wjoin_any (Yo := Yo) B gp gg gr wd R _ _ _ _ _ g (numT (lastC xs ++ [r]) (lastC xs).length) true (picAt (knownL (lastC xs ++ [r])) (lastC xs).length) (cwW (lastC xs ++ [r]) (knownL (lastC xs ++ [r])) (lastC xs).length) _ _ _ r (knownPr r).br (knownPr r).pc (knownPr r).cv (knownPr r).ea w hg2.1 hg2.2 (by rw [numT_len _ _ (by omega)]; exact h16) (by rw [plc_len]; exact hpl.1) hpl.2.1 hne
    refine hj.mono ?_
    rintro e w' ⟨rfl, hd⟩
    obtain ⟨R1, hg1, hu, hR⟩ := GrowAt.next (xs := lastC xs ++ [r]) (ps := knownL (lastC xs ++ [r])) (K := (lastC xs).length) n4 n5 h0 (by omega) (by rw [e1, e2]; exact hd)
    refine ⟨⟨_, rfl⟩, R1, hfin w' R1 (by unfold GrowP; rw [hK2]; exact hg1), hu.mono fun b _ e => ?_, hR, fun g' e => .inl e⟩
    rcases e with e | e
    · exact .inl e
    · exact .inr (by rw [e])
  · have hl : (numT (lastC xs) (clN (lastC xs))).length = 16 := by rw [numT_len _ _ (by unfold clN; omega)]; unfold clN; omega
    refine (wjoin_full g _ _ _ _ _ _ _ _ (some ⟨gp, 0, none⟩) r _ _ _ _ w hg.2 hl).mono ?_
    rintro e w' ⟨rfl, hb⟩
    exact ⟨⟨_, rfl⟩, R, hfin w' R (grow_full (by omega) (GrowAt.below hg hb)), Upd.ofBelow hb |>.mono fun b _ e => .inl (.inr (.inr (.inr e))), RowsFrom.self _ _, fun g' e => .inl e⟩
end
end Go.Proofs.YtoeggiplcaegoaaGreatDoor
/- A feeder: Close; what a feeder is in memory. -/
namespace Go.Proofs.YtoeggiplcaegoaaGreatDoor
open Go.RowKit Go.ChangeShapes Go.WideShapes
section
theorem has_fx {w : World} {g : Nat} {X : FX} {l b h : Int} : FDec X w g l b h ↔ FSeg ⟨X.gp, l, b, h, X.op⟩ w g X.tl X.la X.cj X.pi X.od := Iff.rfl
set_option maxRecDepth 100000 in
theorem freset_any (X : FY) (g : Nat) (tl : Bool) (la cj pi : Int) (od : Bool) (w : World) (h : FSeg X w g tl la cj pi od) : Calls Tryz.prog 83 #[.pointer (some ⟨g, 4, none⟩)] w (fun e w' => e = .returned (.tuple #[]) ∧ FSeg X w' g false 0 0 0 false ∧ But g w.heap.size w w') := by
  have c0 := h.cell 4 _ rfl
  have c1 := h.cell 5 _ rfl
  have c2 := h.cell 6 _ rfl
  have c3 := h.cell 7 _ rfl
  have c4 := h.cell 8 _ rfl
  have f0 := h.free 4
  have f1 := h.free 5
  have f2 := h.free 6
  have f3 := h.free 7
  have f4 := h.free 8
  have HF := Lib.hid (fs_seg_five w g (.bool false) (.int .i64 0) (.int .u8 0) (.int .u8 0) (.bool false) h)
  clear h
  go_enter Tryz.func83, Tryz.ntmps83
  go_wp2
  exact bodyPost_end (by kernel_rfl) rfl ⟨rfl, HF.out.1, HF.out.2⟩
set_option maxRecDepth 100000 in
theorem fclose_any (X : FX) (g : Nat) (l b h : Int) (w : World) (hd : FDec X w g l b h) : Calls Tryz.prog 26 #[.pointer (some ⟨g, 0, none⟩)] w (fun e w' => e = .returned (.tuple #[]) ∧ FDec ⟨X.gp, false, 0, 0, 0, false, .pointer none⟩ w' g l b h ∧ But g w.heap.size w w') := by
  have c9 : w.cell? ⟨g, 9, none⟩ = some X.op := hd.cell 9 _ rfl
  have f9 := hd.free 9
  have h1 : FDec ⟨X.gp, X.tl, X.la, X.cj, X.pi, X.od, .pointer none⟩ (w.setCell ⟨g, 9, none⟩ (.pointer none)) g l b h := hd.set 9 _
  obtain ⟨w1, hw1⟩ : ∃ w1, w1 = w.setCell ⟨g, 9, none⟩ (.pointer none) := ⟨_, rfl⟩
  have hb : But g w.heap.size w w1 := by rw [hw1]; exact (But.refl _ _ _).set _ _
  rw [← hw1] at h1
  have HR := Lib.hid (freset_any ⟨X.gp, l, b, h, .pointer none⟩ g X.tl X.la X.cj X.pi X.od w1 (has_fx.1 h1))
  have HB := Lib.hid hb
  have HW := Lib.hid hw1
  obtain ⟨vo, hvo⟩ : ∃ vo, vo = X.op := ⟨_, rfl⟩
  rw [← hvo] at c9
  clear hd h1 hb hw1 hvo
  go_enter Tryz.func26, Tryz.ntmps26
  go_wp2_with fail
  rw [← HW.out]
  refine HR.out.mono ?_
  rintro e w2 ⟨rfl, h2, b2⟩
  have HF := Lib.hid (And.intro h2 (HB.out.trans (b2.mono HB.out.size)))
  clear h2 b2
  go_wp2
  exact bodyPost_end (by kernel_rfl) rfl ⟨rfl, HF.out.1, HF.out.2⟩
theorem fclose_nil (w : World) : Calls Tryz.prog 26 #[.pointer none] w (fun e w' => e = .returned (.tuple #[]) ∧ w = w') := by
  go_enter Tryz.func26, Tryz.ntmps26
  go_wp2
  exact bodyPost_end (by kernel_rfl) rfl ⟨rfl, rfl⟩
end
/-- A feeder: its block, its pen, its open cluster. -/
def fxs (gp : Nat) (xs : List Int) (op : Option Nat) : FX := ⟨gp, tolS xs, lasS xs, conS xs, picS xs, oddS xs, ptrV op⟩
def FAt (w : World) (B gp gg gr wd gf : Nat) (R : List Rw) (p : Pn) (xs : List Int) (s : St) (op : Option Nat) : Prop := FDec (fxs gp xs op) w gf s.1 s.2.1 s.2.2 ∧ FPen w B gp gg gr wd gf R p xs op
def FW (w : World) (gp gr gf : Nat) (R : List Rw) (op : Option Nat) (b : Nat) : Prop := FZ w gp gr R op b ∨ b = gf
/-- What a feeder's call leaves. -/
def FGo (w : World) (B gp gg gr wd gf : Nat) (R : List Rw) (op : Option Nat) (p : Pn) (xs : List Int) (s : St) (w' : World) : Prop :=
  ∃ R' op', FAt w' B gp gg gr wd gf R' p xs s op' ∧ Upd (FW w gp gr gf R op) w w' ∧ RowsFrom w R R' ∧ ∀ g, op' = some g → op = some g ∨ w.heap.size ≤ g
theorem FW.from {w w1 : World} {gp gr gf : Nat} {R R1 : List Rw} {op op1 : Option Nat} (h : RowsFrom w R R1) (ho : ∀ g, op1 = some g → op = some g ∨ w.heap.size ≤ g) (hs : w.heap.size ≤ w1.heap.size) (b : Nat) (hb : FW w1 gp gr gf R1 op1 b) : FW w gp gr gf R op b := hb.imp (FZ.from h ho hs b) id
section
variable {w w1 w2 : World} {B gp gg gr wd gf : Nat} {R R1 : List Rw} {op op1 : Option Nat} {p p1 : Pn} {xs ys : List Int} {s t : St}
theorem FAt.below (h : FAt w B gp gg gr wd gf R p xs s op) (hb : Below w.heap.size w w1) : FAt w1 B gp gg gr wd gf R p xs s op := ⟨Has.below h.1 hb h.1.lt, h.2.below hb⟩
theorem FAt.lt (h : FAt w B gp gg gr wd gf R p xs s op) : gf < w.heap.size := h.1.lt
theorem FGo.self (h : FAt w B gp gg gr wd gf R p xs s op) (hb : Below w.heap.size w w1) : FGo w B gp gg gr wd gf R op p xs s w1 := ⟨R, op, h.below hb, (Upd.ofBelow hb).mono fun _ _ e => .inl (.inl (.inr (.inr (.inr e)))), RowsFrom.self _ _, fun _ e => .inl e⟩
theorem FGo.trans (hu : Upd (FW w gp gr gf R op) w w1) (hf : RowsFrom w R R1) (ho : ∀ g, op1 = some g → op = some g ∨ w.heap.size ≤ g) (k : FGo w1 B gp gg gr wd gf R1 op1 p ys t w2) : FGo w B gp gg gr wd gf R op p ys t w2 := by
  obtain ⟨R2, op2, h1, h2, h3, h4⟩ := k
  refine ⟨R2, op2, h1, hu.trans (h2.mono fun b _ e => FW.from hf ho hu.size b e), hf.trans h3 hu.size, fun g e => ?_⟩
  rcases h4 g e with e | e
  · exact ho g e
  · exact .inr (Nat.le_trans hu.size e)
end
section
variable {w w1 : World} {B gp gg gr wd gf : Nat} {R : List Rw} {op : Option Nat} {p : Pn} {xs : List Int} {s : St}
/-- What a feeder knows of its own block. -/
theorem FAt.cells (h : FAt w B gp gg gr wd gf R p xs s op) : w.cell? ⟨gf, 0, none⟩ = some (.pointer (some ⟨gp, 0, none⟩)) ∧ w.cell? ⟨gf, 9, none⟩ = some (ptrV op) := ⟨h.1.cell 0 _ rfl, h.1.cell 9 _ rfl⟩
/-- Its own block turned, the rest as it was. -/
theorem FPen.turned (h : FPen w B gp gg gr wd gf R p xs op) {X : FX} {l b hh : Int} (hg : FDec X w gf l b hh) (hb : But gf w.heap.size w w1) : FPen w1 B gp gg gr wd gf R p xs op ∧ Upd (FW w gp gr gf R op) w w1 ∧ RowsFrom w R R :=
  ⟨h.own hg (Upd.ofBut hb |>.mono fun b hb e => e), Upd.ofBut hb |>.mono fun b _ e => .inr e, RowsFrom.self _ _⟩
end
end Go.Proofs.YtoeggiplcaegoaaGreatDoor
/- feed.Feeder.come: what scalar values that come ask for. -/
namespace Go.Proofs.YtoeggiplcaegoaaGreatDoor
open Go.RowKit Go.ChangeShapes Go.WideShapes
section
variable {w w1 w2 w3 w4 w5 : World} {B gp gg gr wd gf : Nat} {R : List Rw} {o o' : Option Nat} {p : Pn} {ys zs : List Int} {s : St}
theorem FDo.below (h : FDo w B gp gg gr wd gf R o p zs o' w1) (hb : Below w1.heap.size w1 w2) : FDo w B gp gg gr wd gf R o p zs o' w2 := by
  obtain ⟨R', k1, k2, k3, k4⟩ := h
  exact ⟨R', k1.below hb, k2.trans (Upd.ofBelow hb |>.mono fun b _ e => .inl (.inr (.inr (.inr (Nat.le_trans k2.size e))))), k3, k4⟩
/-- The feeder's own block stays when its pen writes. -/
theorem FDo.block (hp : FPen w B gp gg gr wd gf R p ys o) {X : FX} {l b h : Int} (hd : FDec X w gf l b h) (k : FDo w B gp gg gr wd gf R o p zs o' w1) : FDec X w1 gf l b h := by
  obtain ⟨_, _, k2, _⟩ := k
  exact k2.keep.has hd (hp.off hd)
/-- One number was taken: the feeder's block turned, its pen's step, its block once more. -/
theorem go_step (h : FAt w B gp gg gr wd gf R p ys s o) (b1 : Below w.heap.size w w1) {X : FX} (h2 : FDec X w2 gf s.1 s.2.1 s.2.2) (b2 : But gf w1.heap.size w1 w2) (b3 : Below w2.heap.size w2 w3) (k : FDo w3 B gp gg gr wd gf R o p zs o' w4) (h5 : FDec (fxs gp zs o') w5 gf s.1 s.2.1 s.2.2) (b5 : But gf w4.heap.size w4 w5) :
    FGo w B gp gg gr wd gf R o p zs s w5 := by
  obtain ⟨R', k1, k2, k3, k4⟩ := k
  have hw4 : FDec X w4 gf s.1 s.2.1 s.2.2 := by
    have hp3 := (((h.2.below b1).own (Has.below h.1 b1 h.1.lt) (Upd.ofBut b2)).below b3)
    exact k2.keep.has (Has.below h2 b3 h2.lt) (hp3.off (Has.below h2 b3 h2.lt))
  have hs3 : w.heap.size ≤ w3.heap.size := Nat.le_trans b1.size (Nat.le_trans b2.size b3.size)
  have hf : ∀ b, FZ w3 gp gr R o b → FW w gp gr gf R o b := fun b e => .inl (FZ.from (RowsFrom.self w R) (fun _ e => .inl e) hs3 b e)
  refine ⟨R', o', ⟨h5, k1.own hw4 (Upd.ofBut b5)⟩, ?_, (RowsFrom.self w R).trans k3 hs3, fun g e => ?_⟩
  · have u1 : Upd (FW w gp gr gf R o) w w1 := Upd.ofBelow b1 |>.mono fun b _ e => .inl (.inl (.inr (.inr (.inr e))))
    have u2 : Upd (FW w gp gr gf R o) w1 w2 := Upd.ofBut b2 |>.mono fun b _ e => .inr e
    have u3 : Upd (FW w gp gr gf R o) w2 w3 := Upd.ofBelow b3 |>.mono fun b _ e => .inl (.inl (.inr (.inr (.inr (Nat.le_trans b1.size (Nat.le_trans b2.size e))))))
    have u4 : Upd (FW w gp gr gf R o) w3 w4 := k2.mono fun b _ e => hf b e
    have u5 : Upd (FW w gp gr gf R o) w4 w5 := Upd.ofBut b5 |>.mono fun b _ e => .inr e
    exact (((u1.trans u2).trans u3).trans u4).trans u5
  · rcases k4 g e with e | e
    · exact .inl e
    · exact .inr (Nat.le_trans hs3 e)
theorem fx_sil (gp : Nat) (ys : List Int) {r : Int} (hr : silB r = true) : fxs gp (ys ++ [r]) none = ⟨gp, false, 0, 0, 0, false, .pointer none⟩ := by
  obtain ⟨h1, h2, h3, h4, h5⟩ := seg_sil (xs := ys) hr
  unfold fxs
  rw [h1, h2, h3, h4, h5]
  rfl
theorem fstep_any (h : FAt w B gp gg gr wd gf R p ys s o) {r : Int} (hr : silB r = false) : Calls Tryz.prog 150 #[.pointer (some ⟨gf, 4, none⟩), .agg #[.int .i64 (knownPr r).br, .bool (knownPr r).pc, .int .i64 (knownPr r).cv, .int .i64 (knownPr r).ea]] w (fun e w' => e = .returned (.bool (joinC ys r)) ∧ FDec (fxs gp (ys ++ [r]) o) w' gf s.1 s.2.1 s.2.2 ∧ But gf w.heap.size w w') := by
  obtain ⟨b0, b1, b2, b3⟩ := seg_bd ys
  obtain ⟨n1, n2, n3, n4, n5⟩ := seg_next (xs := ys) hr
  refine (fs_step_any (X := ⟨gp, s.1, s.2.1, s.2.2, ptrV o⟩) gf (tolS ys) (lasS ys) (conS ys) (picS ys) (oddS ys) (knownPr r).br (knownPr r).pc (knownPr r).cv (knownPr r).ea w h.1 b0 b1 b2 b3).mono ?_
  rintro e w' ⟨rfl, k1, k2⟩
  refine ⟨by rw [← seg_joins hr]; rfl, ?_, k2⟩
  have e1 : fxs gp (ys ++ [r]) o = ⟨gp, true, gcbI r, conjI (conS ys) (conjO r), picI (picS ys) (gcbI r) (inTab tPict r), (gcbI r == 6 && !oddS ys), ptrV o⟩ := by
    unfold fxs
    rw [n1, n2, n3, n4, n5]
  rw [e1]
  exact k1
end
theorem runes_at {Z : Zone} {w : World} {ao : Option Addr} {n cap : Nat} {L : List Int} (h : HeldE (intE .i32) Z w (.slice ao n cap) L) : n = L.length ∧ n ≤ cap ∧ ∀ i, i < L.length → ∃ b off, ao = some ⟨b, off, none⟩ ∧ b < w.heap.size ∧ w.cell? ⟨b, off + i, none⟩ = some (.int .i32 (L.getD i 0)) := by
  obtain ⟨h1, h2, h3⟩ := h.spots
  refine ⟨h1, h2, fun i hi => ?_⟩
  obtain ⟨b, off, rfl, hb, hz, C, hC, hr⟩ := h3 i hi
  have hr' : C = [.int .i32 (L.getD i 0)] := hr
  subst hr'
  have h0 := hC 0 (by decide)
  refine ⟨b, off, rfl, hb, ?_⟩
  simpa [intE] using h0
set_option maxRecDepth 100000 in
set_option maxHeartbeats 6000000 in
theorem fcome_any (B gp gg gr wd gf : Nat) (R : List Rw) (p : Pn) (xs : List Int) (s : St) (op : Option Nat) (v : Value) (L : List Int) (w : World) (h : FAt w B gp gg gr wd gf R p xs s op) (hv : HeldE (intE .i32) (fun b => ¬ FW w gp gr gf R op b) w v L) :
    Calls Tryz.prog 79 #[.pointer (some ⟨gf, 0, none⟩), v] w (fun e w' => e = .returned (.tuple #[]) ∧ FGo w B gp gg gr wd gf R op p (xs ++ L) s w') := by
  have hmx := hv.max
  obtain ⟨ao, ca, rfl⟩ := hv.len
  obtain ⟨n, hn⟩ : ∃ n, n = L.length := ⟨_, rfl⟩
  have HN := Lib.hid hn
  have HMX := Lib.hid hmx
  rw [← hn] at hv ⊢
  have HV := Lib.hid hv
  have H := Lib.hid h
  clear h hv hn hmx
  go_enter Tryz.func79, Tryz.ntmps79
  go_wp2
  go_loopw [9] (fun iv wr => ∃ (k : Nat) (R1 : List Rw) (o1 : Option Nat), k ≤ n ∧ iv = .int .i64 k ∧ FAt wr B gp gg gr wd gf R1 p (xs ++ L.take k) s o1 ∧ Upd (FW w gp gr gf R op) w wr ∧ RowsFrom w R R1 ∧ (∀ g, o1 = some g → op = some g ∨ w.heap.size ≤ g)) (fun iv _ => n - (intOf iv).toNat)
  case atStart => exact ⟨0, R, op, Nat.zero_le _, rfl, by rw [List.take_zero, List.append_nil]; exact H.out, Upd.refl _ _, RowsFrom.self _ _, fun _ e => .inl e⟩
  case round =>
    obtain ⟨k, R1, o1, hk, rfl, hf, hu, hrf, hop⟩ := hrel
    obtain ⟨wv, hwv⟩ : ∃ wv, wv = wr := ⟨_, rfl⟩
    subst hwv
    by_cases hlt : k < n
    · have j1 : decide ((k : Int) < (n : Int)) = true := by rw [decide_eq_true_eq]; omega
      have j2 : decide (k < n) = true := by rw [decide_eq_true_eq]; omega
      have hki : (k : Int) < (n : Int) := by omega
      have hwj : IntKind.i64.wrap ((k : Int) + 1) = (k : Int) + 1 := by
        have := HMX.out
        have := HN.out
        unfold maxLen at this
        rw [IntKind.wrap_i64]; omega
      have hru := runes_at (HV.out.upd hu fun b hz e => hz e)
      have hca := hru.2.1
      have hc := hru.2.2
      clear hru
      obtain ⟨bl, ol, rfl, _, hcell⟩ := hc k (by rw [← HN.out]; exact hlt)
      obtain ⟨r, hr⟩ : ∃ r, r = L.getD k 0 := ⟨_, rfl⟩
      rw [← hr] at hcell
      obtain ⟨ys, hys⟩ : ∃ ys, ys = xs ++ L.take k := ⟨_, rfl⟩
      have HYS := Lib.hid (show xs ++ L.take (k + 1) = ys ++ [r] from by
        rw [hys, List.append_assoc, hr]
        congr 1
        rw [List.take_succ_eq_append_getElem (show k < L.length from by rw [← HN.out]; exact hlt)]
        simp [List.getD, List.getElem?_eq_getElem (show k < L.length from by rw [← HN.out]; exact hlt)])
      rw [← hys] at hf
      have HF := Lib.hid hf
      have HEND := Lib.hid (show ∀ w', FGo wv B gp gg gr wd gf R1 o1 p (ys ++ [r]) s w' → ∃ (R2 : List Rw) (o2 : Option Nat), FAt w' B gp gg gr wd gf R2 p (xs ++ L.take (k + 1)) s o2 ∧ Upd (FW w gp gr gf R op) w w' ∧ RowsFrom w R R2 ∧ (∀ g, o2 = some g → op = some g ∨ w.heap.size ≤ g) from fun w' k => by
        obtain ⟨R2, o2, q1, q2, q3, q4⟩ := FGo.trans hu hrf hop k
        rw [← HYS.out] at q1
        exact ⟨R2, o2, q1, q2, q3, q4⟩)
      have hkc : k < ca := by omega
      have HSL := Lib.hid (bsil_any r)
      clear hf hu hrf hop hys hr hc
      cases hs : silB r with
      | true =>
        rw [hs] at HSL
        go_wp2_with fail
        refine (HSL.out wv).mono ?_
        rintro e w1 ⟨rfl, b1⟩
        have hd1 := Has.below HF.out.1 b1 HF.out.1.lt
        have HCL := Lib.hid (fclose_any (fxs gp ys o1) gf s.1 s.2.1 s.2.2 w1 hd1)
        have B1 := Lib.hid b1
        have HD1 := Lib.hid hd1
        clear b1 hd1 hcell
        go_wp2_with fail
        refine HCL.out.mono ?_
        rintro e w2 ⟨rfl, h2, b2⟩
        have hp2 := (HF.out.2.below B1.out).own HD1.out (Upd.ofBut b2)
        have q0 := h2.cell 0 _ rfl
        have HCT := Lib.hid (fj_ctrl hp2 hs)
        have H2 := Lib.hid (And.intro h2 (And.intro b2 hp2))
        have HSS := Lib.hid hs
        clear h2 b2 hp2 hs
        go_wp2_with fail
        refine HCT.out.mono ?_
        rintro e w3 ⟨rfl, k3⟩
        obtain ⟨R2, o2, q1, q2, q3, q4⟩ := HEND.out w3 (go_step HF.out B1.out H2.out.1 H2.out.2.1 (Below.refl _ _) k3 (by rw [fx_sil gp ys HSS.out]; exact FDo.block H2.out.2.2 H2.out.1 k3) (But.refl _ _ _))
        have HZ := Lib.hid (And.intro q1 (And.intro q2 (And.intro q3 q4)))
        clear k3 q1 q2 q3 q4 q0
        go_wp2
        go_roundw
        case rel => exact ⟨k + 1, R2, o2, by omega, by go_num, HZ.out.1, HZ.out.2.1, HZ.out.2.2.1, HZ.out.2.2.2⟩
        case measure => simp [intOf] <;> omega
      | false =>
        rw [hs] at HSL
        go_wp2_with fail
        refine (HSL.out wv).mono ?_
        rintro e w1 ⟨rfl, b1⟩
        have B1 := Lib.hid b1
        obtain ⟨q, hq⟩ : ∃ q, q = knownPr r := ⟨_, rfl⟩
        have HUC := Lib.hid (show ∀ w', Calls Tryz.prog 149 #[.int .i32 r] w' (Gives w' (.agg #[.int .i64 q.br, .bool q.pc, .int .i64 q.cv, .int .i64 q.ea])) from fun w' => by rw [hq]; exact ucdof_any r w')
        have HQ := Lib.hid hq
        clear hcell
        go_wp2_with fail
        refine (HUC.out w1).mono ?_
        rintro e w2 ⟨rfl, b2⟩
        have hbox := wgbox w2 q.br q.pc q.cv q.ea
        obtain ⟨W3, hW3, hx3, hb3⟩ := hbox
        obtain ⟨gb, hgb⟩ : ∃ gb, gb = w2.heap.size := ⟨_, rfl⟩
        rw [← hgb] at hx3
        have B3 := Lib.hid ((B1.out.trans (b2.mono B1.out.size)).trans (hb3.mono (Nat.le_trans B1.out.size b2.size)))
        have HBX := Lib.hid hx3
        have HW3 := Lib.hid hW3
        have HGB := Lib.hid hgb
        have HFW := Lib.hid (HF.out.below B3.out)
        have HST := Lib.hid (show ∀ w', FAt w' B gp gg gr wd gf R1 p ys s o1 → Calls Tryz.prog 150 #[.pointer (some ⟨gf, 4, none⟩), .agg #[.int .i64 q.br, .bool q.pc, .int .i64 q.cv, .int .i64 q.ea]] w' (fun e w2 => e = .returned (.bool (joinC ys r)) ∧ FDec (fxs gp (ys ++ [r]) o1) w2 gf s.1 s.2.1 s.2.2 ∧ But gf w'.heap.size w' w2) from fun w' h => by rw [HQ.out]; exact fstep_any h hs)
        have HSS := Lib.hid hs
        have HGG := Lib.hid (show gb ≠ gf from fun e => by subst e; exact other_type hx3 HFW.out.1 (by decide))
        clear b1 b2 hx3 hb3 hgb hq hW3 hs HUC HSL
        go_upto_region 7 with (fail)
        rw [← HW3.out]
        rw [← HGB.out]
        clear HW3 HGB
        cases hj : joinC ys r with
        | true =>
          rw [hj] at HST
          have hob : openB ys = true := by
            cases h : openB ys with
            | true => rfl
            | false => rw [join_open HSS.out h] at hj; cases hj
          obtain ⟨g, hog, _⟩ := fj_join HFW.out.2 hob HSS.out hj
          have HOG := Lib.hid hog
          have HJO := Lib.hid (And.intro hob hj)
          clear hob hj hog
          obtain ⟨Ergst, hErgst⟩ : ∃ EE : Nat → Value → World → Prop, EE = fun jj xx ww => match jj with
              | 0 => xx = .pointer (some ⟨gf, 0, none⟩)
              | 1 => xx = .pointer (some ⟨gf, 0, none⟩)
              | 2 => xx = .pointer (some ⟨gf, 4, none⟩)
              | 3 => xx = .agg #[.int .i64 q.br, .bool q.pc, .int .i64 q.cv, .int .i64 q.ea]
              | 4 => xx = .bool true
              | 5 => xx = .bool true
              | 6 => xx = .pointer (some ⟨gf, 0, none⟩)
              | 7 => xx = .pointer (some ⟨gf, 0, none⟩)
              | 8 => xx = .pointer (some ⟨gf, 9, none⟩)
              | 9 => xx = .pointer (some ⟨g, 0, none⟩)
              | 10 => xx = .bool true
              | 11 => xx = .bool true
              | _ => True := ⟨_, rfl⟩
          have ergst0 : ∀ xx ww, Ergst 0 xx ww = (xx = .pointer (some ⟨gf, 0, none⟩)) := fun xx ww => congrFun (congrFun (congrFun hErgst 0) xx) ww
          have ergst1 : ∀ xx ww, Ergst 1 xx ww = (xx = .pointer (some ⟨gf, 0, none⟩)) := fun xx ww => congrFun (congrFun (congrFun hErgst 1) xx) ww
          have ergst2 : ∀ xx ww, Ergst 2 xx ww = (xx = .pointer (some ⟨gf, 4, none⟩)) := fun xx ww => congrFun (congrFun (congrFun hErgst 2) xx) ww
          have ergst3 : ∀ xx ww, Ergst 3 xx ww = (xx = .agg #[.int .i64 q.br, .bool q.pc, .int .i64 q.cv, .int .i64 q.ea]) := fun xx ww => congrFun (congrFun (congrFun hErgst 3) xx) ww
          have ergst4 : ∀ xx ww, Ergst 4 xx ww = (xx = .bool true) := fun xx ww => congrFun (congrFun (congrFun hErgst 4) xx) ww
          have ergst5 : ∀ xx ww, Ergst 5 xx ww = (xx = .bool true) := fun xx ww => congrFun (congrFun (congrFun hErgst 5) xx) ww
          have ergst6 : ∀ xx ww, Ergst 6 xx ww = (xx = .pointer (some ⟨gf, 0, none⟩)) := fun xx ww => congrFun (congrFun (congrFun hErgst 6) xx) ww
          have ergst7 : ∀ xx ww, Ergst 7 xx ww = (xx = .pointer (some ⟨gf, 0, none⟩)) := fun xx ww => congrFun (congrFun (congrFun hErgst 7) xx) ww
          have ergst8 : ∀ xx ww, Ergst 8 xx ww = (xx = .pointer (some ⟨gf, 9, none⟩)) := fun xx ww => congrFun (congrFun (congrFun hErgst 8) xx) ww
          have ergst9 : ∀ xx ww, Ergst 9 xx ww = (xx = .pointer (some ⟨g, 0, none⟩)) := fun xx ww => congrFun (congrFun (congrFun hErgst 9) xx) ww
          have ergst10 : ∀ xx ww, Ergst 10 xx ww = (xx = .bool true) := fun xx ww => congrFun (congrFun (congrFun hErgst 10) xx) ww
          have ergst11 : ∀ xx ww, Ergst 11 xx ww = (xx = .bool true) := fun xx ww => congrFun (congrFun (congrFun hErgst 11) xx) ww
          obtain ⟨Crgst, hCrgst⟩ : ∃ CC : Array Bool → World → Prop, CC = fun L8 w' => (Mix.one L8 4 = 0 → Below W3.heap.size W3 w') ∧ (Mix.one L8 4 = 1 → ∃ wz w8, Below W3.heap.size W3 wz ∧ FDec (fxs gp (ys ++ [r]) o1) w8 gf s.1 s.2.1 s.2.2 ∧ But gf wz.heap.size wz w8 ∧ Below w8.heap.size w8 w') := ⟨_, rfl⟩
          have krgst : ∀ i L w, i ≠ 4 →  Crgst L w → Crgst (L.setIfInBounds i true) w := by
            intro i L w q4 h
            rw [hCrgst] at h ⊢
            simp only [Mix.one_ne q4]; exact h
          obtain ⟨Xrgst, hXrgst⟩ : ∃ XX : World → World → Prop, XX = fun _ _ => True := ⟨_, rfl⟩
          have xrgst : ∀ w, Xrgst w w := fun w => by rw [hXrgst]; exact trivial
          have strgst : ∀ j x w w1, Xrgst w w1 → Ergst j x w → Ergst j x w1 := by
            intro j x w w1 hx h
            rw [hXrgst] at hx
            match j with
            | 0 => rw [ergst0] at h ⊢; exact h
            | 1 => rw [ergst1] at h ⊢; exact h
            | 2 => rw [ergst2] at h ⊢; exact h
            | 3 => rw [ergst3] at h ⊢; exact h
            | 4 => rw [ergst4] at h ⊢; exact h
            | 5 => rw [ergst5] at h ⊢; exact h
            | 6 => rw [ergst6] at h ⊢; exact h
            | 7 => rw [ergst7] at h ⊢; exact h
            | 8 => rw [ergst8] at h ⊢; exact h
            | 9 => rw [ergst9] at h ⊢; exact h
            | 10 => rw [ergst10] at h ⊢; exact h
            | 11 => rw [ergst11] at h ⊢; exact h
            | j + 12 => rw [hErgst]; trivial
          have crgst : Crgst (Array.replicate 12 false) W3.drew := by rw [hCrgst]; exact ⟨fun _ => (Below.refl _ _).drew, fun e => absurd e (by decide)⟩
          have brgst : ∀ L w w1, Crgst L w → Below w.heap.size w w1 → Crgst L w1 := by
            intro L w w1 h hb
            rw [hCrgst] at h ⊢
            exact ⟨fun e => (h.1 e).trans (hb.mono (h.1 e).size), fun e => by obtain ⟨wz, w8, e1, e2, e3, e4⟩ := h.2 e; exact ⟨wz, w8, e1, e2, e3, e4.trans (hb.mono e4.size)⟩⟩
          have xbrgst : ∀ w w1, Below w.heap.size w w1 → Xrgst w w1 := by
            intro w w1 hb
            rw [hXrgst]
            trivial
          have Hrgstb := Lib.hid brgst
          have Hrgstxb := Lib.hid xbrgst
          clear brgst xbrgst
          clear hErgst
          have Hrgstk := Lib.hid krgst
          have Hrgstx := Lib.hid xrgst
          have Hrgstst := Lib.hid strgst
          have Hrgstc := Lib.hid crgst
          have HrgsthC := Lib.hid hCrgst
          have HrgsthX := Lib.hid hXrgst
          have Hrgste0 := Lib.hid ergst0
          have Hrgste1 := Lib.hid ergst1
          have Hrgste2 := Lib.hid ergst2
          have Hrgste3 := Lib.hid ergst3
          have Hrgste4 := Lib.hid ergst4
          have Hrgste5 := Lib.hid ergst5
          have Hrgste6 := Lib.hid ergst6
          have Hrgste7 := Lib.hid ergst7
          have Hrgste8 := Lib.hid ergst8
          have Hrgste9 := Lib.hid ergst9
          have Hrgste10 := Lib.hid ergst10
          have Hrgste11 := Lib.hid ergst11
          clear krgst xrgst strgst crgst hCrgst hXrgst ergst0 ergst1 ergst2 ergst3 ergst4 ergst5 ergst6 ergst7 ergst8 ergst9 ergst10 ergst11
          go_wp2_with fail
          refine Reg.regionF Ergst Crgst Xrgst Hrgstst.out (by kernel_rfl) (by kernel_rfl) (by kernel_rfl) Hrgstc.out (fun Frgst hFrgst => ?_)
          simp only [Reg.frame, Reg.dsts, List.map_cons, List.map_nil, Mix.put_lit, List.set_cons_succ, List.set_cons_zero, Nat.zero_add, Nat.reduceAdd] at hFrgst
          refine ⟨?_, ?_⟩
          · refine ⟨?_, ?_, ?_, ?_, ?_, ?_, ?_, ?_, ?_, ?_, ?_, ?_, trivial⟩
            · intro Lq wq xq hh
              simp only [hFrgst]
              refine .inl ⟨rfl, ?_⟩
              unfold Reg.upon
              have hk := Hrgstk.out 0 Lq wq (by decide)  hh.cls
              have hx := Hrgstx.out wq
              have he : Ergst 0 (.pointer (some ⟨gf, 0, none⟩)) wq := by rw [Hrgste0.out]
              have HK := Lib.hid (And.intro hk (And.intro he hx))
              clear hk hx he
              go_simp
              exact HK.out
            · intro Lq wq xq hh
              have d0 : Ergst 0 (xq 0) wq := hh.val 0 (by kernel_rfl) (by kernel_rfl)
              rw [Hrgste0.out] at d0
              simp only [hFrgst, d0]
              clear d0
              refine .inl ⟨rfl, ?_⟩
              unfold Reg.upon
              have hk := Hrgstk.out 1 Lq wq (by decide)  hh.cls
              have hx := Hrgstx.out wq
              have he : Ergst 1 (.pointer (some ⟨gf, 0, none⟩)) wq := by rw [Hrgste1.out]
              have HK := Lib.hid (And.intro hk (And.intro he hx))
              clear hk hx he
              go_simp
              exact HK.out
            · intro Lq wq xq hh
              have d1 : Ergst 1 (xq 1) wq := hh.val 1 (by kernel_rfl) (by kernel_rfl)
              rw [Hrgste1.out] at d1
              simp only [hFrgst, d1]
              clear d1
              refine .inl ⟨rfl, ?_⟩
              unfold Reg.upon
              have hk := Hrgstk.out 2 Lq wq (by decide)  hh.cls
              have hx := Hrgstx.out wq
              have he : Ergst 2 (.pointer (some ⟨gf, 4, none⟩)) wq := by rw [Hrgste2.out]
              have HK := Lib.hid (And.intro hk (And.intro he hx))
              clear hk hx he
              go_simp
              exact HK.out
            · intro Lq wq xq hh
              simp only [hFrgst]
              refine .inl ⟨rfl, ?_⟩
              unfold Reg.upon
              have hc : Crgst Lq wq := hh.cls
              rw [HrgsthC.out] at hc
              have hd := HBX.out.below (hc.1 (Mix.one_un (hh.notYet 4 (by kernel_rfl)))) HBX.out.lt
              have q0 := hd.cell 0 _ rfl
              have q1 := hd.cell 1 _ rfl
              have q2 := hd.cell 2 _ rfl
              have q3 := hd.cell 3 _ rfl
              clear hc
              have hk := Hrgstk.out 3 Lq wq (by decide)  hh.cls
              have hx := Hrgstx.out wq
              have he : Ergst 3 (.agg #[.int .i64 q.br, .bool q.pc, .int .i64 q.cv, .int .i64 q.ea]) wq := by rw [Hrgste3.out]
              have HK := Lib.hid (And.intro hk (And.intro he hx))
              clear hk hx he
              go_simp
              exact HK.out
            · intro Lq wq xq hh
              have d2 : Ergst 2 (xq 2) wq := hh.val 2 (by kernel_rfl) (by kernel_rfl)
              rw [Hrgste2.out] at d2
              have d3 : Ergst 3 (xq 3) wq := hh.val 3 (by kernel_rfl) (by kernel_rfl)
              rw [Hrgste3.out] at d3
              simp only [hFrgst, d2, d3]
              clear d2 d3
              refine .inl ⟨rfl, ?_⟩
              unfold Reg.upon
              have hc : Crgst Lq wq := hh.cls
              rw [HrgsthC.out] at hc
              have hbz := hc.1 hh.un
              have hst := HST.out wq (HFW.out.below hbz)
              clear hc
              go_simp
              refine hst.mono ?_
              rintro e w9 ⟨rfl, h9, b9⟩
              have hF : Crgst (Lq.setIfInBounds 4 true) w9 := by
                rw [HrgsthC.out]
                exact ⟨fun e => (by rw [Mix.one_set (by rw [hh.size]; decide)] at e; exact absurd e (by decide)), fun _ => ⟨wq, w9, hbz, h9, b9, Below.refl _ _⟩⟩
              exact ⟨_, rfl, hF, (by rw [Hrgste4.out]), (by rw [HrgsthX.out]; trivial)⟩
            · intro Lq wq xq hh
              have d4 : Ergst 4 (xq 4) wq := hh.val 4 (by kernel_rfl) (by kernel_rfl)
              rw [Hrgste4.out] at d4
              simp only [hFrgst, d4]
              clear d4
              refine .inl ⟨rfl, ?_⟩
              unfold Reg.upon
              have hk := Hrgstk.out 5 Lq wq (by decide)  hh.cls
              have hx := Hrgstx.out wq
              have he : Ergst 5 (.bool true) wq := by rw [Hrgste5.out]
              have HK := Lib.hid (And.intro hk (And.intro he hx))
              clear hk hx he
              go_simp
              exact HK.out
            · intro Lq wq xq hh
              have d5 : Ergst 5 (xq 5) wq := hh.val 5 (by kernel_rfl) (by kernel_rfl)
              rw [Hrgste5.out] at d5
              simp only [hFrgst, d5]
              clear d5
              refine .inl ⟨rfl, ?_⟩
              unfold Reg.upon
              have hk := Hrgstk.out 6 Lq wq (by decide)  hh.cls
              have hx := Hrgstx.out wq
              have he : Ergst 6 (.pointer (some ⟨gf, 0, none⟩)) wq := by rw [Hrgste6.out]
              have HK := Lib.hid (And.intro hk (And.intro he hx))
              clear hk hx he
              go_simp
              exact HK.out
            · intro Lq wq xq hh
              have d5 : Ergst 5 (xq 5) wq := hh.val 5 (by kernel_rfl) (by kernel_rfl)
              rw [Hrgste5.out] at d5
              have d6 : Ergst 6 (xq 6) wq := hh.val 6 (by kernel_rfl) (by kernel_rfl)
              rw [Hrgste6.out] at d6
              simp only [hFrgst, d5, d6]
              clear d5 d6
              refine .inl ⟨rfl, ?_⟩
              unfold Reg.upon
              have hk := Hrgstk.out 7 Lq wq (by decide)  hh.cls
              have hx := Hrgstx.out wq
              have he : Ergst 7 (.pointer (some ⟨gf, 0, none⟩)) wq := by rw [Hrgste7.out]
              have HK := Lib.hid (And.intro hk (And.intro he hx))
              clear hk hx he
              go_simp
              exact HK.out
            · intro Lq wq xq hh
              have d5 : Ergst 5 (xq 5) wq := hh.val 5 (by kernel_rfl) (by kernel_rfl)
              rw [Hrgste5.out] at d5
              have d7 : Ergst 7 (xq 7) wq := hh.val 7 (by kernel_rfl) (by kernel_rfl)
              rw [Hrgste7.out] at d7
              simp only [hFrgst, d5, d7]
              clear d5 d7
              refine .inl ⟨rfl, ?_⟩
              unfold Reg.upon
              have hk := Hrgstk.out 8 Lq wq (by decide)  hh.cls
              have hx := Hrgstx.out wq
              have he : Ergst 8 (.pointer (some ⟨gf, 9, none⟩)) wq := by rw [Hrgste8.out]
              have HK := Lib.hid (And.intro hk (And.intro he hx))
              clear hk hx he
              go_simp
              exact HK.out
            · intro Lq wq xq hh
              have d5 : Ergst 5 (xq 5) wq := hh.val 5 (by kernel_rfl) (by kernel_rfl)
              rw [Hrgste5.out] at d5
              have d8 : Ergst 8 (xq 8) wq := hh.val 8 (by kernel_rfl) (by kernel_rfl)
              rw [Hrgste8.out] at d8
              simp only [hFrgst, d5, d8]
              clear d5 d8
              refine .inl ⟨rfl, ?_⟩
              unfold Reg.upon
              have hc : Crgst Lq wq := hh.cls
              rw [HrgsthC.out] at hc
              obtain ⟨wz, w8, e1, e2, e3, e4⟩ := hc.2 (hh.isDone 4 (by kernel_rfl))
              have hd := Has.below e2 e4 e2.lt
              have q9 : wq.cell? ⟨gf, 9, none⟩ = some (.pointer (some ⟨g, 0, none⟩)) := by have h9 := hd.cell 9 _ rfl; rw [show (fxs gp (ys ++ [r]) o1).op = ptrV (some g) from by show ptrV o1 = _; rw [HOG.out]] at h9; exact h9
              clear e1 e2 e3 e4 hd
              clear hc
              have hk := Hrgstk.out 9 Lq wq (by decide)  hh.cls
              have hx := Hrgstx.out wq
              have he : Ergst 9 (.pointer (some ⟨g, 0, none⟩)) wq := by rw [Hrgste9.out]
              have HK := Lib.hid (And.intro hk (And.intro he hx))
              clear hk hx he
              go_simp
              exact HK.out
            · intro Lq wq xq hh
              have d5 : Ergst 5 (xq 5) wq := hh.val 5 (by kernel_rfl) (by kernel_rfl)
              rw [Hrgste5.out] at d5
              have d9 : Ergst 9 (xq 9) wq := hh.val 9 (by kernel_rfl) (by kernel_rfl)
              rw [Hrgste9.out] at d9
              simp only [hFrgst, d5, d9]
              clear d5 d9
              refine .inl ⟨rfl, ?_⟩
              unfold Reg.upon
              have hk := Hrgstk.out 10 Lq wq (by decide)  hh.cls
              have hx := Hrgstx.out wq
              have he : Ergst 10 (.bool true) wq := by rw [Hrgste10.out]
              have HK := Lib.hid (And.intro hk (And.intro he hx))
              clear hk hx he
              go_simp
              exact HK.out
            · intro Lq wq xq hh
              have d5 : Ergst 5 (xq 5) wq := hh.val 5 (by kernel_rfl) (by kernel_rfl)
              rw [Hrgste5.out] at d5
              have d10 : Ergst 10 (xq 10) wq := hh.val 10 (by kernel_rfl) (by kernel_rfl)
              rw [Hrgste10.out] at d10
              simp only [hFrgst, d5, d10]
              clear d5 d10
              refine .inl ⟨rfl, ?_⟩
              unfold Reg.upon
              have hk := Hrgstk.out 11 Lq wq (by decide)  hh.cls
              have hx := Hrgstx.out wq
              have he : Ergst 11 (.bool true) wq := by rw [Hrgste11.out]
              have HK := Lib.hid (And.intro hk (And.intro he hx))
              clear hk hx he
              go_simp
              exact HK.out
          intro xq wrgst hcrgst hvrgst
          rw [HrgsthC.out] at hcrgst
          simp only [hFrgst]
          have vrgst11 : Ergst 11 (xq 11) wrgst := hvrgst 11 (by decide)
          rw [Hrgste11.out] at vrgst11
          rw [vrgst11]
          clear hvrgst hFrgst Hrgstk Hrgstx Hrgstst Hrgstc HrgsthC HrgsthX Hrgstb Hrgstxb Hrgste0 Hrgste1 Hrgste2 Hrgste3 Hrgste4 Hrgste5 Hrgste6 Hrgste7 Hrgste8 Hrgste9 Hrgste10 Hrgste11
          obtain ⟨wz, w8, e1, e2, e3, e4⟩ := hcrgst.2 (by kernel_rfl)
          have hp8 := ((HFW.out.2.below e1).own (Has.below HFW.out.1 e1 HFW.out.1.lt) (Upd.ofBut e3)).below e4
          obtain ⟨w7, hw7⟩ : ∃ w7, w7 = wrgst := ⟨_, rfl⟩
          rw [← hw7] at e4 hp8
          have HBX7 := Lib.hid (Has.below ((HBX.out.below e1 HBX.out.lt).but e3 (Has.below HBX.out e1 HBX.out.lt).lt HGG.out) e4 (((HBX.out.below e1 HBX.out.lt).but e3 (Has.below HBX.out e1 HBX.out.lt).lt HGG.out)).lt)
          have H7 := Lib.hid (show FDec (fxs gp (ys ++ [r]) o1) w7 gf s.1 s.2.1 s.2.2 ∧ But gf W3.heap.size W3 w7 ∧ FPen w7 B gp gg gr wd gf R1 p ys o1 from ⟨Has.below e2 e4 e2.lt, ((But.ofBelow (g := gf) e1).trans (e3.mono e1.size)).trans ((But.ofBelow (g := gf) e4).mono (Nat.le_trans e1.size e3.size)), hp8⟩)
          rw [← hw7]
          clear hcrgst e1 e2 e3 e4 hp8 hw7 HST
          go_upto_region 8 with (fail)
          obtain ⟨Ergj, hErgj⟩ : ∃ EE : Nat → Value → World → Prop, EE = fun jj xx ww => match jj with
              | 0 => xx = .pointer (some ⟨gf, 0, none⟩)
              | 1 => xx = .pointer (some ⟨gf, 0, none⟩)
              | 2 => xx = .pointer (some ⟨gf, 9, none⟩)
              | 3 => xx = .pointer (some ⟨g, 0, none⟩)
              | 4 => xx = .pointer (some ⟨gf, 0, none⟩)
              | 5 => xx = .pointer (some ⟨gf, 0, none⟩)
              | 6 => xx = .pointer (some ⟨gf, 0, none⟩)
              | 7 => xx = .pointer (some ⟨gp, 0, none⟩)
              | 8 => xx = .int .i32 r
              | 9 => xx = .agg #[.int .i64 q.br, .bool q.pc, .int .i64 q.cv, .int .i64 q.ea]
              | 10 => (fun _ _ => True) xx ww
              | _ => True := ⟨_, rfl⟩
          have ergj0 : ∀ xx ww, Ergj 0 xx ww = (xx = .pointer (some ⟨gf, 0, none⟩)) := fun xx ww => congrFun (congrFun (congrFun hErgj 0) xx) ww
          have ergj1 : ∀ xx ww, Ergj 1 xx ww = (xx = .pointer (some ⟨gf, 0, none⟩)) := fun xx ww => congrFun (congrFun (congrFun hErgj 1) xx) ww
          have ergj2 : ∀ xx ww, Ergj 2 xx ww = (xx = .pointer (some ⟨gf, 9, none⟩)) := fun xx ww => congrFun (congrFun (congrFun hErgj 2) xx) ww
          have ergj3 : ∀ xx ww, Ergj 3 xx ww = (xx = .pointer (some ⟨g, 0, none⟩)) := fun xx ww => congrFun (congrFun (congrFun hErgj 3) xx) ww
          have ergj4 : ∀ xx ww, Ergj 4 xx ww = (xx = .pointer (some ⟨gf, 0, none⟩)) := fun xx ww => congrFun (congrFun (congrFun hErgj 4) xx) ww
          have ergj5 : ∀ xx ww, Ergj 5 xx ww = (xx = .pointer (some ⟨gf, 0, none⟩)) := fun xx ww => congrFun (congrFun (congrFun hErgj 5) xx) ww
          have ergj6 : ∀ xx ww, Ergj 6 xx ww = (xx = .pointer (some ⟨gf, 0, none⟩)) := fun xx ww => congrFun (congrFun (congrFun hErgj 6) xx) ww
          have ergj7 : ∀ xx ww, Ergj 7 xx ww = (xx = .pointer (some ⟨gp, 0, none⟩)) := fun xx ww => congrFun (congrFun (congrFun hErgj 7) xx) ww
          have ergj8 : ∀ xx ww, Ergj 8 xx ww = (xx = .int .i32 r) := fun xx ww => congrFun (congrFun (congrFun hErgj 8) xx) ww
          have ergj9 : ∀ xx ww, Ergj 9 xx ww = (xx = .agg #[.int .i64 q.br, .bool q.pc, .int .i64 q.cv, .int .i64 q.ea]) := fun xx ww => congrFun (congrFun (congrFun hErgj 9) xx) ww
          have ergj10 : ∀ xx ww, Ergj 10 xx ww = ((fun _ _ => True) xx ww) := fun xx ww => congrFun (congrFun (congrFun hErgj 10) xx) ww
          obtain ⟨Crgj, hCrgj⟩ : ∃ CC : Array Bool → World → Prop, CC = fun L8 w' => (Mix.one L8 10 = 0 → Below w7.heap.size w7 w') ∧ (Mix.one L8 10 = 1 → ∃ wz, Below w7.heap.size w7 wz ∧ FDo wz B gp gg gr wd gf R1 o1 p (ys ++ [r]) (some g) w') := ⟨_, rfl⟩
          have krgj : ∀ i L w, i ≠ 10 →  Crgj L w → Crgj (L.setIfInBounds i true) w := by
            intro i L w q10 h
            rw [hCrgj] at h ⊢
            simp only [Mix.one_ne q10]; exact h
          obtain ⟨Xrgj, hXrgj⟩ : ∃ XX : World → World → Prop, XX = fun _ _ => True := ⟨_, rfl⟩
          have xrgj : ∀ w, Xrgj w w := fun w => by rw [hXrgj]; exact trivial
          have strgj : ∀ j x w w1, Xrgj w w1 → Ergj j x w → Ergj j x w1 := by
            intro j x w w1 hx h
            rw [hXrgj] at hx
            match j with
            | 0 => rw [ergj0] at h ⊢; exact h
            | 1 => rw [ergj1] at h ⊢; exact h
            | 2 => rw [ergj2] at h ⊢; exact h
            | 3 => rw [ergj3] at h ⊢; exact h
            | 4 => rw [ergj4] at h ⊢; exact h
            | 5 => rw [ergj5] at h ⊢; exact h
            | 6 => rw [ergj6] at h ⊢; exact h
            | 7 => rw [ergj7] at h ⊢; exact h
            | 8 => rw [ergj8] at h ⊢; exact h
            | 9 => rw [ergj9] at h ⊢; exact h
            | 10 => rw [ergj10] at h ⊢; (exact h)
            | j + 11 => rw [hErgj]; trivial
          have crgj : Crgj (Array.replicate 11 false) w7.drew := by rw [hCrgj]; exact ⟨fun _ => (Below.refl _ _).drew, fun e => absurd e (by decide)⟩
          have brgj : ∀ L w w1, Crgj L w → Below w.heap.size w w1 → Crgj L w1 := by
            intro L w w1 h hb
            rw [hCrgj] at h ⊢
            exact ⟨fun e => (h.1 e).trans (hb.mono (h.1 e).size), fun e => by obtain ⟨wz, e1, e2⟩ := h.2 e; exact ⟨wz, e1, e2.below hb⟩⟩
          have xbrgj : ∀ w w1, Below w.heap.size w w1 → Xrgj w w1 := by
            intro w w1 hb
            rw [hXrgj]
            trivial
          have Hrgjb := Lib.hid brgj
          have Hrgjxb := Lib.hid xbrgj
          clear brgj xbrgj
          clear hErgj
          have Hrgjk := Lib.hid krgj
          have Hrgjx := Lib.hid xrgj
          have Hrgjst := Lib.hid strgj
          have Hrgjc := Lib.hid crgj
          have HrgjhC := Lib.hid hCrgj
          have HrgjhX := Lib.hid hXrgj
          have Hrgje0 := Lib.hid ergj0
          have Hrgje1 := Lib.hid ergj1
          have Hrgje2 := Lib.hid ergj2
          have Hrgje3 := Lib.hid ergj3
          have Hrgje4 := Lib.hid ergj4
          have Hrgje5 := Lib.hid ergj5
          have Hrgje6 := Lib.hid ergj6
          have Hrgje7 := Lib.hid ergj7
          have Hrgje8 := Lib.hid ergj8
          have Hrgje9 := Lib.hid ergj9
          have Hrgje10 := Lib.hid ergj10
          clear krgj xrgj strgj crgj hCrgj hXrgj ergj0 ergj1 ergj2 ergj3 ergj4 ergj5 ergj6 ergj7 ergj8 ergj9 ergj10
          go_wp2_with fail
          refine Reg.regionF Ergj Crgj Xrgj Hrgjst.out (by kernel_rfl) (by kernel_rfl) (by kernel_rfl) Hrgjc.out (fun Frgj hFrgj => ?_)
          simp only [Reg.frame, Reg.dsts, List.map_cons, List.map_nil, Mix.put_lit, List.set_cons_succ, List.set_cons_zero, Nat.zero_add, Nat.reduceAdd] at hFrgj
          refine ⟨?_, ?_⟩
          · refine ⟨?_, ?_, ?_, ?_, ?_, ?_, ?_, ?_, ?_, ?_, ?_, trivial⟩
            · intro Lq wq xq hh
              simp only [hFrgj]
              refine .inl ⟨rfl, ?_⟩
              unfold Reg.upon
              have hk := Hrgjk.out 0 Lq wq (by decide)  hh.cls
              have hx := Hrgjx.out wq
              have he : Ergj 0 (.pointer (some ⟨gf, 0, none⟩)) wq := by rw [Hrgje0.out]
              have HK := Lib.hid (And.intro hk (And.intro he hx))
              clear hk hx he
              go_simp
              exact HK.out
            · intro Lq wq xq hh
              have d0 : Ergj 0 (xq 0) wq := hh.val 0 (by kernel_rfl) (by kernel_rfl)
              rw [Hrgje0.out] at d0
              simp only [hFrgj, d0]
              clear d0
              refine .inl ⟨rfl, ?_⟩
              unfold Reg.upon
              have hk := Hrgjk.out 1 Lq wq (by decide)  hh.cls
              have hx := Hrgjx.out wq
              have he : Ergj 1 (.pointer (some ⟨gf, 0, none⟩)) wq := by rw [Hrgje1.out]
              have HK := Lib.hid (And.intro hk (And.intro he hx))
              clear hk hx he
              go_simp
              exact HK.out
            · intro Lq wq xq hh
              have d1 : Ergj 1 (xq 1) wq := hh.val 1 (by kernel_rfl) (by kernel_rfl)
              rw [Hrgje1.out] at d1
              simp only [hFrgj, d1]
              clear d1
              refine .inl ⟨rfl, ?_⟩
              unfold Reg.upon
              have hk := Hrgjk.out 2 Lq wq (by decide)  hh.cls
              have hx := Hrgjx.out wq
              have he : Ergj 2 (.pointer (some ⟨gf, 9, none⟩)) wq := by rw [Hrgje2.out]
              have HK := Lib.hid (And.intro hk (And.intro he hx))
              clear hk hx he
              go_simp
              exact HK.out
            · intro Lq wq xq hh
              have d2 : Ergj 2 (xq 2) wq := hh.val 2 (by kernel_rfl) (by kernel_rfl)
              rw [Hrgje2.out] at d2
              simp only [hFrgj, d2]
              clear d2
              refine .inl ⟨rfl, ?_⟩
              unfold Reg.upon
              have hc : Crgj Lq wq := hh.cls
              rw [HrgjhC.out] at hc
              have hd := Has.below H7.out.1 (hc.1 (Mix.one_un (hh.notYet 10 (by kernel_rfl)))) H7.out.1.lt
              have q9 : wq.cell? ⟨gf, 9, none⟩ = some (.pointer (some ⟨g, 0, none⟩)) := by have h9 := hd.cell 9 _ rfl; rw [show (fxs gp (ys ++ [r]) o1).op = ptrV (some g) from by show ptrV o1 = _; rw [HOG.out]] at h9; exact h9
              clear hc
              have hk := Hrgjk.out 3 Lq wq (by decide)  hh.cls
              have hx := Hrgjx.out wq
              have he : Ergj 3 (.pointer (some ⟨g, 0, none⟩)) wq := by rw [Hrgje3.out]
              have HK := Lib.hid (And.intro hk (And.intro he hx))
              clear hk hx he
              go_simp
              exact HK.out
            · intro Lq wq xq hh
              simp only [hFrgj]
              refine .inl ⟨rfl, ?_⟩
              unfold Reg.upon
              have hk := Hrgjk.out 4 Lq wq (by decide)  hh.cls
              have hx := Hrgjx.out wq
              have he : Ergj 4 (.pointer (some ⟨gf, 0, none⟩)) wq := by rw [Hrgje4.out]
              have HK := Lib.hid (And.intro hk (And.intro he hx))
              clear hk hx he
              go_simp
              exact HK.out
            · intro Lq wq xq hh
              have d4 : Ergj 4 (xq 4) wq := hh.val 4 (by kernel_rfl) (by kernel_rfl)
              rw [Hrgje4.out] at d4
              simp only [hFrgj, d4]
              clear d4
              refine .inl ⟨rfl, ?_⟩
              unfold Reg.upon
              have hk := Hrgjk.out 5 Lq wq (by decide)  hh.cls
              have hx := Hrgjx.out wq
              have he : Ergj 5 (.pointer (some ⟨gf, 0, none⟩)) wq := by rw [Hrgje5.out]
              have HK := Lib.hid (And.intro hk (And.intro he hx))
              clear hk hx he
              go_simp
              exact HK.out
            · intro Lq wq xq hh
              have d5 : Ergj 5 (xq 5) wq := hh.val 5 (by kernel_rfl) (by kernel_rfl)
              rw [Hrgje5.out] at d5
              simp only [hFrgj, d5]
              clear d5
              refine .inl ⟨rfl, ?_⟩
              unfold Reg.upon
              have hk := Hrgjk.out 6 Lq wq (by decide)  hh.cls
              have hx := Hrgjx.out wq
              have he : Ergj 6 (.pointer (some ⟨gf, 0, none⟩)) wq := by rw [Hrgje6.out]
              have HK := Lib.hid (And.intro hk (And.intro he hx))
              clear hk hx he
              go_simp
              exact HK.out
            · intro Lq wq xq hh
              have d6 : Ergj 6 (xq 6) wq := hh.val 6 (by kernel_rfl) (by kernel_rfl)
              rw [Hrgje6.out] at d6
              simp only [hFrgj, d6]
              clear d6
              refine .inl ⟨rfl, ?_⟩
              unfold Reg.upon
              have hc : Crgj Lq wq := hh.cls
              rw [HrgjhC.out] at hc
              have hd := Has.below H7.out.1 (hc.1 (Mix.one_un (hh.notYet 10 (by kernel_rfl)))) H7.out.1.lt
              have q0 := hd.cell 0 _ rfl
              clear hc
              have hk := Hrgjk.out 7 Lq wq (by decide)  hh.cls
              have hx := Hrgjx.out wq
              have he : Ergj 7 (.pointer (some ⟨gp, 0, none⟩)) wq := by rw [Hrgje7.out]
              have HK := Lib.hid (And.intro hk (And.intro he hx))
              clear hk hx he
              go_simp
              exact HK.out
            · intro Lq wq xq hh
              simp only [hFrgj]
              refine .inl ⟨rfl, ?_⟩
              unfold Reg.upon
              have hk := Hrgjk.out 8 Lq wq (by decide)  hh.cls
              have hx := Hrgjx.out wq
              have he : Ergj 8 (.int .i32 r) wq := by rw [Hrgje8.out]
              have HK := Lib.hid (And.intro hk (And.intro he hx))
              clear hk hx he
              go_simp
              exact HK.out
            · intro Lq wq xq hh
              simp only [hFrgj]
              refine .inl ⟨rfl, ?_⟩
              unfold Reg.upon
              have hc : Crgj Lq wq := hh.cls
              rw [HrgjhC.out] at hc
              have hd := HBX7.out.below (hc.1 (Mix.one_un (hh.notYet 10 (by kernel_rfl)))) HBX7.out.lt
              have q0 := hd.cell 0 _ rfl
              have q1 := hd.cell 1 _ rfl
              have q2 := hd.cell 2 _ rfl
              have q3 := hd.cell 3 _ rfl
              clear hc
              have hk := Hrgjk.out 9 Lq wq (by decide)  hh.cls
              have hx := Hrgjx.out wq
              have he : Ergj 9 (.agg #[.int .i64 q.br, .bool q.pc, .int .i64 q.cv, .int .i64 q.ea]) wq := by rw [Hrgje9.out]
              have HK := Lib.hid (And.intro hk (And.intro he hx))
              clear hk hx he
              go_simp
              exact HK.out
            · intro Lq wq xq hh
              have d3 : Ergj 3 (xq 3) wq := hh.val 3 (by kernel_rfl) (by kernel_rfl)
              rw [Hrgje3.out] at d3
              have d7 : Ergj 7 (xq 7) wq := hh.val 7 (by kernel_rfl) (by kernel_rfl)
              rw [Hrgje7.out] at d7
              have d8 : Ergj 8 (xq 8) wq := hh.val 8 (by kernel_rfl) (by kernel_rfl)
              rw [Hrgje8.out] at d8
              have d9 : Ergj 9 (xq 9) wq := hh.val 9 (by kernel_rfl) (by kernel_rfl)
              rw [Hrgje9.out] at d9
              simp only [hFrgj, d3, d7, d8, d9]
              clear d3 d7 d8 d9
              refine .inl ⟨rfl, ?_⟩
              unfold Reg.upon
              have hc : Crgj Lq wq := hh.cls
              rw [HrgjhC.out] at hc
              have hbz := hc.1 hh.un
              obtain ⟨g2, e2, hjn⟩ := fj_join (H7.out.2.2.below hbz) HJO.out.1 HSS.out HJO.out.2
              rw [HOG.out] at e2
              cases e2
              rw [← HQ.out] at hjn
              clear hc
              go_simp
              refine hjn.mono ?_
              rintro e w9 ⟨⟨bb, rfl⟩, h9⟩
              have hF : Crgj (Lq.setIfInBounds 10 true) w9 := by
                rw [HrgjhC.out]
                exact ⟨fun e => (by rw [Mix.one_set (by rw [hh.size]; decide)] at e; exact absurd e (by decide)), fun _ => ⟨wq, hbz, h9⟩⟩
              exact ⟨_, rfl, hF, (by rw [Hrgje10.out]; trivial), (by rw [HrgjhX.out]; trivial)⟩
          intro xq wrgj hcrgj hvrgj
          rw [HrgjhC.out] at hcrgj
          simp only [hFrgj]
          clear hvrgj hFrgj Hrgjk Hrgjx Hrgjst Hrgjc HrgjhC HrgjhX Hrgjb Hrgjxb Hrgje0 Hrgje1 Hrgje2 Hrgje3 Hrgje4 Hrgje5 Hrgje6 Hrgje7 Hrgje8 Hrgje9 Hrgje10
          obtain ⟨wz, hbz, hdo⟩ := hcrgj.2 (by kernel_rfl)
          obtain ⟨R2, o2, q1, q2, q3, q4⟩ := HEND.out wrgj (go_step HF.out B3.out H7.out.1 H7.out.2.1 hbz hdo (by rw [← HOG.out]; exact FDo.block (H7.out.2.2.below hbz) (Has.below H7.out.1 hbz H7.out.1.lt) hdo) (But.refl _ _ _))
          have HZ := Lib.hid (And.intro q1 (And.intro q2 (And.intro q3 q4)))
          clear hcrgj hbz hdo q1 q2 q3 q4
          go_wp2
          go_roundw
          case rel => exact ⟨k + 1, R2, o2, by omega, by go_num, HZ.out.1, HZ.out.2.1, HZ.out.2.2.1, HZ.out.2.2.2⟩
          case measure => simp [intOf] <;> omega
        | false =>
          rw [hj] at HST
          have HJN := Lib.hid hj
          clear hj
          obtain ⟨Ergsf, hErgsf⟩ : ∃ EE : Nat → Value → World → Prop, EE = fun jj xx ww => match jj with
              | 0 => xx = .pointer (some ⟨gf, 0, none⟩)
              | 1 => xx = .pointer (some ⟨gf, 0, none⟩)
              | 2 => xx = .pointer (some ⟨gf, 4, none⟩)
              | 3 => xx = .agg #[.int .i64 q.br, .bool q.pc, .int .i64 q.cv, .int .i64 q.ea]
              | 4 => xx = .bool false
              | 5 => xx = .bool false
              | 6 => xx = undef
              | 7 => xx = undef
              | 8 => xx = undef
              | 9 => xx = undef
              | 10 => xx = undef
              | 11 => xx = .bool false
              | _ => True := ⟨_, rfl⟩
          have ergsf0 : ∀ xx ww, Ergsf 0 xx ww = (xx = .pointer (some ⟨gf, 0, none⟩)) := fun xx ww => congrFun (congrFun (congrFun hErgsf 0) xx) ww
          have ergsf1 : ∀ xx ww, Ergsf 1 xx ww = (xx = .pointer (some ⟨gf, 0, none⟩)) := fun xx ww => congrFun (congrFun (congrFun hErgsf 1) xx) ww
          have ergsf2 : ∀ xx ww, Ergsf 2 xx ww = (xx = .pointer (some ⟨gf, 4, none⟩)) := fun xx ww => congrFun (congrFun (congrFun hErgsf 2) xx) ww
          have ergsf3 : ∀ xx ww, Ergsf 3 xx ww = (xx = .agg #[.int .i64 q.br, .bool q.pc, .int .i64 q.cv, .int .i64 q.ea]) := fun xx ww => congrFun (congrFun (congrFun hErgsf 3) xx) ww
          have ergsf4 : ∀ xx ww, Ergsf 4 xx ww = (xx = .bool false) := fun xx ww => congrFun (congrFun (congrFun hErgsf 4) xx) ww
          have ergsf5 : ∀ xx ww, Ergsf 5 xx ww = (xx = .bool false) := fun xx ww => congrFun (congrFun (congrFun hErgsf 5) xx) ww
          have ergsf6 : ∀ xx ww, Ergsf 6 xx ww = (xx = undef) := fun xx ww => congrFun (congrFun (congrFun hErgsf 6) xx) ww
          have ergsf7 : ∀ xx ww, Ergsf 7 xx ww = (xx = undef) := fun xx ww => congrFun (congrFun (congrFun hErgsf 7) xx) ww
          have ergsf8 : ∀ xx ww, Ergsf 8 xx ww = (xx = undef) := fun xx ww => congrFun (congrFun (congrFun hErgsf 8) xx) ww
          have ergsf9 : ∀ xx ww, Ergsf 9 xx ww = (xx = undef) := fun xx ww => congrFun (congrFun (congrFun hErgsf 9) xx) ww
          have ergsf10 : ∀ xx ww, Ergsf 10 xx ww = (xx = undef) := fun xx ww => congrFun (congrFun (congrFun hErgsf 10) xx) ww
          have ergsf11 : ∀ xx ww, Ergsf 11 xx ww = (xx = .bool false) := fun xx ww => congrFun (congrFun (congrFun hErgsf 11) xx) ww
          obtain ⟨Crgsf, hCrgsf⟩ : ∃ CC : Array Bool → World → Prop, CC = fun L8 w' => (Mix.one L8 4 = 0 → Below W3.heap.size W3 w') ∧ (Mix.one L8 4 = 1 → ∃ wz w8, Below W3.heap.size W3 wz ∧ FDec (fxs gp (ys ++ [r]) o1) w8 gf s.1 s.2.1 s.2.2 ∧ But gf wz.heap.size wz w8 ∧ Below w8.heap.size w8 w') := ⟨_, rfl⟩
          have krgsf : ∀ i L w, i ≠ 4 →  Crgsf L w → Crgsf (L.setIfInBounds i true) w := by
            intro i L w q4 h
            rw [hCrgsf] at h ⊢
            simp only [Mix.one_ne q4]; exact h
          obtain ⟨Xrgsf, hXrgsf⟩ : ∃ XX : World → World → Prop, XX = fun _ _ => True := ⟨_, rfl⟩
          have xrgsf : ∀ w, Xrgsf w w := fun w => by rw [hXrgsf]; exact trivial
          have strgsf : ∀ j x w w1, Xrgsf w w1 → Ergsf j x w → Ergsf j x w1 := by
            intro j x w w1 hx h
            rw [hXrgsf] at hx
            match j with
            | 0 => rw [ergsf0] at h ⊢; exact h
            | 1 => rw [ergsf1] at h ⊢; exact h
            | 2 => rw [ergsf2] at h ⊢; exact h
            | 3 => rw [ergsf3] at h ⊢; exact h
            | 4 => rw [ergsf4] at h ⊢; exact h
            | 5 => rw [ergsf5] at h ⊢; exact h
            | 6 => rw [ergsf6] at h ⊢; exact h
            | 7 => rw [ergsf7] at h ⊢; exact h
            | 8 => rw [ergsf8] at h ⊢; exact h
            | 9 => rw [ergsf9] at h ⊢; exact h
            | 10 => rw [ergsf10] at h ⊢; exact h
            | 11 => rw [ergsf11] at h ⊢; exact h
            | j + 12 => rw [hErgsf]; trivial
          have crgsf : Crgsf (Array.replicate 12 false) W3.drew := by rw [hCrgsf]; exact ⟨fun _ => (Below.refl _ _).drew, fun e => absurd e (by decide)⟩
          have brgsf : ∀ L w w1, Crgsf L w → Below w.heap.size w w1 → Crgsf L w1 := by
            intro L w w1 h hb
            rw [hCrgsf] at h ⊢
            exact ⟨fun e => (h.1 e).trans (hb.mono (h.1 e).size), fun e => by obtain ⟨wz, w8, e1, e2, e3, e4⟩ := h.2 e; exact ⟨wz, w8, e1, e2, e3, e4.trans (hb.mono e4.size)⟩⟩
          have xbrgsf : ∀ w w1, Below w.heap.size w w1 → Xrgsf w w1 := by
            intro w w1 hb
            rw [hXrgsf]
            trivial
          have Hrgsfb := Lib.hid brgsf
          have Hrgsfxb := Lib.hid xbrgsf
          clear brgsf xbrgsf
          clear hErgsf
          have Hrgsfk := Lib.hid krgsf
          have Hrgsfx := Lib.hid xrgsf
          have Hrgsfst := Lib.hid strgsf
          have Hrgsfc := Lib.hid crgsf
          have HrgsfhC := Lib.hid hCrgsf
          have HrgsfhX := Lib.hid hXrgsf
          have Hrgsfe0 := Lib.hid ergsf0
          have Hrgsfe1 := Lib.hid ergsf1
          have Hrgsfe2 := Lib.hid ergsf2
          have Hrgsfe3 := Lib.hid ergsf3
          have Hrgsfe4 := Lib.hid ergsf4
          have Hrgsfe5 := Lib.hid ergsf5
          have Hrgsfe6 := Lib.hid ergsf6
          have Hrgsfe7 := Lib.hid ergsf7
          have Hrgsfe8 := Lib.hid ergsf8
          have Hrgsfe9 := Lib.hid ergsf9
          have Hrgsfe10 := Lib.hid ergsf10
          have Hrgsfe11 := Lib.hid ergsf11
          clear krgsf xrgsf strgsf crgsf hCrgsf hXrgsf ergsf0 ergsf1 ergsf2 ergsf3 ergsf4 ergsf5 ergsf6 ergsf7 ergsf8 ergsf9 ergsf10 ergsf11
          go_wp2_with fail
          refine Reg.regionF Ergsf Crgsf Xrgsf Hrgsfst.out (by kernel_rfl) (by kernel_rfl) (by kernel_rfl) Hrgsfc.out (fun Frgsf hFrgsf => ?_)
          simp only [Reg.frame, Reg.dsts, List.map_cons, List.map_nil, Mix.put_lit, List.set_cons_succ, List.set_cons_zero, Nat.zero_add, Nat.reduceAdd] at hFrgsf
          refine ⟨?_, ?_⟩
          · refine ⟨?_, ?_, ?_, ?_, ?_, ?_, ?_, ?_, ?_, ?_, ?_, ?_, trivial⟩
            · intro Lq wq xq hh
              simp only [hFrgsf]
              refine .inl ⟨rfl, ?_⟩
              unfold Reg.upon
              have hk := Hrgsfk.out 0 Lq wq (by decide)  hh.cls
              have hx := Hrgsfx.out wq
              have he : Ergsf 0 (.pointer (some ⟨gf, 0, none⟩)) wq := by rw [Hrgsfe0.out]
              have HK := Lib.hid (And.intro hk (And.intro he hx))
              clear hk hx he
              go_simp
              exact HK.out
            · intro Lq wq xq hh
              have d0 : Ergsf 0 (xq 0) wq := hh.val 0 (by kernel_rfl) (by kernel_rfl)
              rw [Hrgsfe0.out] at d0
              simp only [hFrgsf, d0]
              clear d0
              refine .inl ⟨rfl, ?_⟩
              unfold Reg.upon
              have hk := Hrgsfk.out 1 Lq wq (by decide)  hh.cls
              have hx := Hrgsfx.out wq
              have he : Ergsf 1 (.pointer (some ⟨gf, 0, none⟩)) wq := by rw [Hrgsfe1.out]
              have HK := Lib.hid (And.intro hk (And.intro he hx))
              clear hk hx he
              go_simp
              exact HK.out
            · intro Lq wq xq hh
              have d1 : Ergsf 1 (xq 1) wq := hh.val 1 (by kernel_rfl) (by kernel_rfl)
              rw [Hrgsfe1.out] at d1
              simp only [hFrgsf, d1]
              clear d1
              refine .inl ⟨rfl, ?_⟩
              unfold Reg.upon
              have hk := Hrgsfk.out 2 Lq wq (by decide)  hh.cls
              have hx := Hrgsfx.out wq
              have he : Ergsf 2 (.pointer (some ⟨gf, 4, none⟩)) wq := by rw [Hrgsfe2.out]
              have HK := Lib.hid (And.intro hk (And.intro he hx))
              clear hk hx he
              go_simp
              exact HK.out
            · intro Lq wq xq hh
              simp only [hFrgsf]
              refine .inl ⟨rfl, ?_⟩
              unfold Reg.upon
              have hc : Crgsf Lq wq := hh.cls
              rw [HrgsfhC.out] at hc
              have hd := HBX.out.below (hc.1 (Mix.one_un (hh.notYet 4 (by kernel_rfl)))) HBX.out.lt
              have q0 := hd.cell 0 _ rfl
              have q1 := hd.cell 1 _ rfl
              have q2 := hd.cell 2 _ rfl
              have q3 := hd.cell 3 _ rfl
              clear hc
              have hk := Hrgsfk.out 3 Lq wq (by decide)  hh.cls
              have hx := Hrgsfx.out wq
              have he : Ergsf 3 (.agg #[.int .i64 q.br, .bool q.pc, .int .i64 q.cv, .int .i64 q.ea]) wq := by rw [Hrgsfe3.out]
              have HK := Lib.hid (And.intro hk (And.intro he hx))
              clear hk hx he
              go_simp
              exact HK.out
            · intro Lq wq xq hh
              have d2 : Ergsf 2 (xq 2) wq := hh.val 2 (by kernel_rfl) (by kernel_rfl)
              rw [Hrgsfe2.out] at d2
              have d3 : Ergsf 3 (xq 3) wq := hh.val 3 (by kernel_rfl) (by kernel_rfl)
              rw [Hrgsfe3.out] at d3
              simp only [hFrgsf, d2, d3]
              clear d2 d3
              refine .inl ⟨rfl, ?_⟩
              unfold Reg.upon
              have hc : Crgsf Lq wq := hh.cls
              rw [HrgsfhC.out] at hc
              have hbz := hc.1 hh.un
              have hst := HST.out wq (HFW.out.below hbz)
              clear hc
              go_simp
              refine hst.mono ?_
              rintro e w9 ⟨rfl, h9, b9⟩
              have hF : Crgsf (Lq.setIfInBounds 4 true) w9 := by
                rw [HrgsfhC.out]
                exact ⟨fun e => (by rw [Mix.one_set (by rw [hh.size]; decide)] at e; exact absurd e (by decide)), fun _ => ⟨wq, w9, hbz, h9, b9, Below.refl _ _⟩⟩
              exact ⟨_, rfl, hF, (by rw [Hrgsfe4.out]), (by rw [HrgsfhX.out]; trivial)⟩
            · intro Lq wq xq hh
              have d4 : Ergsf 4 (xq 4) wq := hh.val 4 (by kernel_rfl) (by kernel_rfl)
              rw [Hrgsfe4.out] at d4
              simp only [hFrgsf, d4]
              clear d4
              refine .inl ⟨rfl, ?_⟩
              unfold Reg.upon
              have hk := Hrgsfk.out 5 Lq wq (by decide)  hh.cls
              have hx := Hrgsfx.out wq
              have he : Ergsf 5 (.bool false) wq := by rw [Hrgsfe5.out]
              have HK := Lib.hid (And.intro hk (And.intro he hx))
              clear hk hx he
              go_simp
              exact HK.out
            · intro Lq wq xq hh
              have d5 : Ergsf 5 (xq 5) wq := hh.val 5 (by kernel_rfl) (by kernel_rfl)
              rw [Hrgsfe5.out] at d5
              simp only [hFrgsf, d5]
              clear d5
              exact .inr ⟨rfl, Hrgsfk.out 6 Lq wq (by decide)  hh.cls, (by rw [Hrgsfe6.out])⟩
            · intro Lq wq xq hh
              have d5 : Ergsf 5 (xq 5) wq := hh.val 5 (by kernel_rfl) (by kernel_rfl)
              rw [Hrgsfe5.out] at d5
              have d6 : Ergsf 6 (xq 6) wq := hh.val 6 (by kernel_rfl) (by kernel_rfl)
              rw [Hrgsfe6.out] at d6
              simp only [hFrgsf, d5, d6]
              clear d5 d6
              exact .inr ⟨rfl, Hrgsfk.out 7 Lq wq (by decide)  hh.cls, (by rw [Hrgsfe7.out])⟩
            · intro Lq wq xq hh
              have d5 : Ergsf 5 (xq 5) wq := hh.val 5 (by kernel_rfl) (by kernel_rfl)
              rw [Hrgsfe5.out] at d5
              have d7 : Ergsf 7 (xq 7) wq := hh.val 7 (by kernel_rfl) (by kernel_rfl)
              rw [Hrgsfe7.out] at d7
              simp only [hFrgsf, d5, d7]
              clear d5 d7
              exact .inr ⟨rfl, Hrgsfk.out 8 Lq wq (by decide)  hh.cls, (by rw [Hrgsfe8.out])⟩
            · intro Lq wq xq hh
              have d5 : Ergsf 5 (xq 5) wq := hh.val 5 (by kernel_rfl) (by kernel_rfl)
              rw [Hrgsfe5.out] at d5
              have d8 : Ergsf 8 (xq 8) wq := hh.val 8 (by kernel_rfl) (by kernel_rfl)
              rw [Hrgsfe8.out] at d8
              simp only [hFrgsf, d5, d8]
              clear d5 d8
              exact .inr ⟨rfl, Hrgsfk.out 9 Lq wq (by decide)  hh.cls, (by rw [Hrgsfe9.out])⟩
            · intro Lq wq xq hh
              have d5 : Ergsf 5 (xq 5) wq := hh.val 5 (by kernel_rfl) (by kernel_rfl)
              rw [Hrgsfe5.out] at d5
              have d9 : Ergsf 9 (xq 9) wq := hh.val 9 (by kernel_rfl) (by kernel_rfl)
              rw [Hrgsfe9.out] at d9
              simp only [hFrgsf, d5, d9]
              clear d5 d9
              exact .inr ⟨rfl, Hrgsfk.out 10 Lq wq (by decide)  hh.cls, (by rw [Hrgsfe10.out])⟩
            · intro Lq wq xq hh
              have d5 : Ergsf 5 (xq 5) wq := hh.val 5 (by kernel_rfl) (by kernel_rfl)
              rw [Hrgsfe5.out] at d5
              have d10 : Ergsf 10 (xq 10) wq := hh.val 10 (by kernel_rfl) (by kernel_rfl)
              rw [Hrgsfe10.out] at d10
              simp only [hFrgsf, d5, d10]
              clear d5 d10
              refine .inl ⟨rfl, ?_⟩
              unfold Reg.upon
              have hk := Hrgsfk.out 11 Lq wq (by decide)  hh.cls
              have hx := Hrgsfx.out wq
              have he : Ergsf 11 (.bool false) wq := by rw [Hrgsfe11.out]
              have HK := Lib.hid (And.intro hk (And.intro he hx))
              clear hk hx he
              go_simp
              exact HK.out
          intro xq wrgsf hcrgsf hvrgsf
          rw [HrgsfhC.out] at hcrgsf
          simp only [hFrgsf]
          have vrgsf11 : Ergsf 11 (xq 11) wrgsf := hvrgsf 11 (by decide)
          rw [Hrgsfe11.out] at vrgsf11
          rw [vrgsf11]
          clear hvrgsf hFrgsf Hrgsfk Hrgsfx Hrgsfst Hrgsfc HrgsfhC HrgsfhX Hrgsfb Hrgsfxb Hrgsfe0 Hrgsfe1 Hrgsfe2 Hrgsfe3 Hrgsfe4 Hrgsfe5 Hrgsfe6 Hrgsfe7 Hrgsfe8 Hrgsfe9 Hrgsfe10 Hrgsfe11
          obtain ⟨wz, w8, e1, e2, e3, e4⟩ := hcrgsf.2 (by kernel_rfl)
          have hp8 := ((HFW.out.2.below e1).own (Has.below HFW.out.1 e1 HFW.out.1.lt) (Upd.ofBut e3)).below e4
          obtain ⟨w7, hw7⟩ : ∃ w7, w7 = wrgsf := ⟨_, rfl⟩
          rw [← hw7] at e4 hp8
          have HBX7 := Lib.hid (Has.below ((HBX.out.below e1 HBX.out.lt).but e3 (Has.below HBX.out e1 HBX.out.lt).lt HGG.out) e4 (((HBX.out.below e1 HBX.out.lt).but e3 (Has.below HBX.out e1 HBX.out.lt).lt HGG.out)).lt)
          have H7 := Lib.hid (show FDec (fxs gp (ys ++ [r]) o1) w7 gf s.1 s.2.1 s.2.2 ∧ But gf W3.heap.size W3 w7 ∧ FPen w7 B gp gg gr wd gf R1 p ys o1 from ⟨Has.below e2 e4 e2.lt, ((But.ofBelow (g := gf) e1).trans (e3.mono e1.size)).trans ((But.ofBelow (g := gf) e4).mono (Nat.le_trans e1.size e3.size)), hp8⟩)
          rw [← hw7]
          clear hcrgsf e1 e2 e3 e4 hp8 hw7 HST
          go_upto_region 9 with (fail)
          obtain ⟨Ergn, hErgn⟩ : ∃ EE : Nat → Value → World → Prop, EE = fun jj xx ww => match jj with
              | 0 => xx = .pointer (some ⟨gf, 0, none⟩)
              | 1 => xx = .pointer (some ⟨gf, 0, none⟩)
              | 2 => xx = .pointer (some ⟨gf, 0, none⟩)
              | 3 => xx = .pointer (some ⟨gf, 0, none⟩)
              | 4 => xx = .pointer (some ⟨gp, 0, none⟩)
              | 5 => xx = .int .i32 r
              | 6 => xx = .agg #[.int .i64 q.br, .bool q.pc, .int .i64 q.cv, .int .i64 q.ea]
              | 7 => (fun x _ => ∃ g : Nat, x = .pointer (some ⟨g, 0, none⟩)) xx ww
              | 8 => xx = .pointer (some ⟨gf, 0, none⟩)
              | 9 => xx = .pointer (some ⟨gf, 9, none⟩)
              | 10 => xx = undef
              | _ => True := ⟨_, rfl⟩
          have ergn0 : ∀ xx ww, Ergn 0 xx ww = (xx = .pointer (some ⟨gf, 0, none⟩)) := fun xx ww => congrFun (congrFun (congrFun hErgn 0) xx) ww
          have ergn1 : ∀ xx ww, Ergn 1 xx ww = (xx = .pointer (some ⟨gf, 0, none⟩)) := fun xx ww => congrFun (congrFun (congrFun hErgn 1) xx) ww
          have ergn2 : ∀ xx ww, Ergn 2 xx ww = (xx = .pointer (some ⟨gf, 0, none⟩)) := fun xx ww => congrFun (congrFun (congrFun hErgn 2) xx) ww
          have ergn3 : ∀ xx ww, Ergn 3 xx ww = (xx = .pointer (some ⟨gf, 0, none⟩)) := fun xx ww => congrFun (congrFun (congrFun hErgn 3) xx) ww
          have ergn4 : ∀ xx ww, Ergn 4 xx ww = (xx = .pointer (some ⟨gp, 0, none⟩)) := fun xx ww => congrFun (congrFun (congrFun hErgn 4) xx) ww
          have ergn5 : ∀ xx ww, Ergn 5 xx ww = (xx = .int .i32 r) := fun xx ww => congrFun (congrFun (congrFun hErgn 5) xx) ww
          have ergn6 : ∀ xx ww, Ergn 6 xx ww = (xx = .agg #[.int .i64 q.br, .bool q.pc, .int .i64 q.cv, .int .i64 q.ea]) := fun xx ww => congrFun (congrFun (congrFun hErgn 6) xx) ww
          have ergn7 : ∀ xx ww, Ergn 7 xx ww = ((fun x _ => ∃ g : Nat, x = .pointer (some ⟨g, 0, none⟩)) xx ww) := fun xx ww => congrFun (congrFun (congrFun hErgn 7) xx) ww
          have ergn8 : ∀ xx ww, Ergn 8 xx ww = (xx = .pointer (some ⟨gf, 0, none⟩)) := fun xx ww => congrFun (congrFun (congrFun hErgn 8) xx) ww
          have ergn9 : ∀ xx ww, Ergn 9 xx ww = (xx = .pointer (some ⟨gf, 9, none⟩)) := fun xx ww => congrFun (congrFun (congrFun hErgn 9) xx) ww
          have ergn10 : ∀ xx ww, Ergn 10 xx ww = (xx = undef) := fun xx ww => congrFun (congrFun (congrFun hErgn 10) xx) ww
          obtain ⟨Crgn, hCrgn⟩ : ∃ CC : Array Bool → Value → World → Prop, CC = fun L8 x w' => (Mix.one L8 7 = 0 → Below w7.heap.size w7 w') ∧ (Mix.one L8 7 = 1 → Mix.one L8 10 = 0 → ∃ g wz, x = .pointer (some ⟨g, 0, none⟩) ∧ Below w7.heap.size w7 wz ∧ FDo wz B gp gg gr wd gf R1 o1 p (ys ++ [r]) (some g) w' ∧ FDec (fxs gp (ys ++ [r]) o1) w' gf s.1 s.2.1 s.2.2) ∧ (Mix.one L8 10 = 1 → FGo wv B gp gg gr wd gf R1 o1 p (ys ++ [r]) s w') := ⟨_, rfl⟩
          have krgn : ∀ i L {x : Value} w, i ≠ 7 → i ≠ 10 →  Crgn L x w → Crgn (L.setIfInBounds i true) x w := by
            intro i L x w q7 q10 h
            rw [hCrgn] at h ⊢
            simp only [Mix.one_ne q7, Mix.one_ne q10]; exact h
          obtain ⟨Xrgn, hXrgn⟩ : ∃ XX : World → World → Prop, XX = fun _ _ => True := ⟨_, rfl⟩
          have xrgn : ∀ w, Xrgn w w := fun w => by rw [hXrgn]; exact trivial
          have strgn : ∀ j x w w1, Xrgn w w1 → Ergn j x w → Ergn j x w1 := by
            intro j x w w1 hx h
            rw [hXrgn] at hx
            match j with
            | 0 => rw [ergn0] at h ⊢; exact h
            | 1 => rw [ergn1] at h ⊢; exact h
            | 2 => rw [ergn2] at h ⊢; exact h
            | 3 => rw [ergn3] at h ⊢; exact h
            | 4 => rw [ergn4] at h ⊢; exact h
            | 5 => rw [ergn5] at h ⊢; exact h
            | 6 => rw [ergn6] at h ⊢; exact h
            | 7 => rw [ergn7] at h ⊢; (exact h)
            | 8 => rw [ergn8] at h ⊢; exact h
            | 9 => rw [ergn9] at h ⊢; exact h
            | 10 => rw [ergn10] at h ⊢; exact h
            | j + 11 => rw [hErgn]; trivial
          have crgn : ∀ x, Crgn (Array.replicate 11 false) x w7.drew := fun x => by rw [hCrgn]; exact ⟨fun _ => (Below.refl _ _).drew, fun e => absurd e (by decide), fun e => absurd e (by decide)⟩
          have brgn : ∀ L {x : Value} w w1, Crgn L x w → Below w.heap.size w w1 → Crgn L x w1 := by
            intro L x w w1 h hb
            rw [hCrgn] at h ⊢
            exact ⟨fun e => (h.1 e).trans (hb.mono (h.1 e).size), fun e f => by obtain ⟨g, wz, e1, e2, e3, e4⟩ := h.2.1 e f; exact ⟨g, wz, e1, e2, e3.below hb, Has.below e4 hb e4.lt⟩, fun e => by obtain ⟨R2, o2, e1, e2, e3, e4⟩ := h.2.2 e; exact ⟨R2, o2, e1.below hb, e2.trans (Upd.ofBelow hb |>.mono fun b _ e => .inl (.inl (.inr (.inr (.inr (Nat.le_trans e2.size e)))))), e3, e4⟩⟩
          have xbrgn : ∀ w w1, Below w.heap.size w w1 → Xrgn w w1 := by
            intro w w1 hb
            rw [hXrgn]
            trivial
          have Hrgnb : Go.RowKit.Hid (∀ L {x : Value} w w1, Crgn L x w → Below w.heap.size w w1 → Crgn L x w1) := @brgn
          have Hrgnxb := Lib.hid xbrgn
          clear brgn xbrgn
          clear hErgn
          have Hrgnk : Go.RowKit.Hid (∀ i L {x : Value} w, i ≠ 7 → i ≠ 10 →  Crgn L x w → Crgn (L.setIfInBounds i true) x w) := @krgn
          have Hrgnx := Lib.hid xrgn
          have Hrgnst := Lib.hid strgn
          have Hrgnc := Lib.hid crgn
          have HrgnhC := Lib.hid hCrgn
          have HrgnhX := Lib.hid hXrgn
          have Hrgne0 := Lib.hid ergn0
          have Hrgne1 := Lib.hid ergn1
          have Hrgne2 := Lib.hid ergn2
          have Hrgne3 := Lib.hid ergn3
          have Hrgne4 := Lib.hid ergn4
          have Hrgne5 := Lib.hid ergn5
          have Hrgne6 := Lib.hid ergn6
          have Hrgne7 := Lib.hid ergn7
          have Hrgne8 := Lib.hid ergn8
          have Hrgne9 := Lib.hid ergn9
          have Hrgne10 := Lib.hid ergn10
          clear krgn xrgn strgn crgn hCrgn hXrgn ergn0 ergn1 ergn2 ergn3 ergn4 ergn5 ergn6 ergn7 ergn8 ergn9 ergn10
          go_wp2_with fail
          refine RegC.regionF 7 Ergn Crgn Xrgn Hrgnst.out (by kernel_rfl) (by kernel_rfl) (by kernel_rfl) Hrgnc.out (fun Frgn hFrgn => ?_)
          simp only [Reg.frame, Reg.dsts, List.map_cons, List.map_nil, Mix.put_lit, Reg.put_none, List.set_cons_succ, List.set_cons_zero, Nat.zero_add, Nat.reduceAdd] at hFrgn
          refine ⟨?_, ?_⟩
          · refine ⟨?_, ?_, ?_, ?_, ?_, ?_, ?_, ?_, ?_, ?_, ?_, trivial⟩
            · intro Lq wq xq hh
              simp only [hFrgn]
              refine .inl ⟨rfl, ?_⟩
              unfold Reg.upon
              have hk := Hrgnk.out 0 Lq wq (by decide) (by decide)  hh.cls
              have hx := Hrgnx.out wq
              have he : Ergn 0 (.pointer (some ⟨gf, 0, none⟩)) wq := by rw [Hrgne0.out]
              have HK := Lib.hid (And.intro hk (And.intro he hx))
              clear hk hx he
              go_simp
              exact HK.out
            · intro Lq wq xq hh
              simp only [hFrgn]
              refine .inl ⟨rfl, ?_⟩
              unfold Reg.upon
              have hk := Hrgnk.out 1 Lq wq (by decide) (by decide)  hh.cls
              have hx := Hrgnx.out wq
              have he : Ergn 1 (.pointer (some ⟨gf, 0, none⟩)) wq := by rw [Hrgne1.out]
              have HK := Lib.hid (And.intro hk (And.intro he hx))
              clear hk hx he
              go_simp
              exact HK.out
            · intro Lq wq xq hh
              have d1 : Ergn 1 (xq 1) wq := hh.val 1 (by kernel_rfl) (by kernel_rfl)
              rw [Hrgne1.out] at d1
              simp only [hFrgn, d1]
              clear d1
              refine .inl ⟨rfl, ?_⟩
              unfold Reg.upon
              have hk := Hrgnk.out 2 Lq wq (by decide) (by decide)  hh.cls
              have hx := Hrgnx.out wq
              have he : Ergn 2 (.pointer (some ⟨gf, 0, none⟩)) wq := by rw [Hrgne2.out]
              have HK := Lib.hid (And.intro hk (And.intro he hx))
              clear hk hx he
              go_simp
              exact HK.out
            · intro Lq wq xq hh
              have d2 : Ergn 2 (xq 2) wq := hh.val 2 (by kernel_rfl) (by kernel_rfl)
              rw [Hrgne2.out] at d2
              simp only [hFrgn, d2]
              clear d2
              refine .inl ⟨rfl, ?_⟩
              unfold Reg.upon
              have hk := Hrgnk.out 3 Lq wq (by decide) (by decide)  hh.cls
              have hx := Hrgnx.out wq
              have he : Ergn 3 (.pointer (some ⟨gf, 0, none⟩)) wq := by rw [Hrgne3.out]
              have HK := Lib.hid (And.intro hk (And.intro he hx))
              clear hk hx he
              go_simp
              exact HK.out
            · intro Lq wq xq hh
              have d3 : Ergn 3 (xq 3) wq := hh.val 3 (by kernel_rfl) (by kernel_rfl)
              rw [Hrgne3.out] at d3
              simp only [hFrgn, d3]
              clear d3
              refine .inl ⟨rfl, ?_⟩
              unfold Reg.upon
              have hc : Crgn Lq (xq 7) wq := hh.cls
              rw [HrgnhC.out] at hc
              have hd := Has.below H7.out.1 (hc.1 (Mix.one_un (hh.notYet 7 (by kernel_rfl)))) H7.out.1.lt
              have q0 := hd.cell 0 _ rfl
              clear hc
              have hk := Hrgnk.out 4 Lq wq (by decide) (by decide)  hh.cls
              have hx := Hrgnx.out wq
              have he : Ergn 4 (.pointer (some ⟨gp, 0, none⟩)) wq := by rw [Hrgne4.out]
              have HK := Lib.hid (And.intro hk (And.intro he hx))
              clear hk hx he
              go_simp
              exact HK.out
            · intro Lq wq xq hh
              simp only [hFrgn]
              refine .inl ⟨rfl, ?_⟩
              unfold Reg.upon
              have hk := Hrgnk.out 5 Lq wq (by decide) (by decide)  hh.cls
              have hx := Hrgnx.out wq
              have he : Ergn 5 (.int .i32 r) wq := by rw [Hrgne5.out]
              have HK := Lib.hid (And.intro hk (And.intro he hx))
              clear hk hx he
              go_simp
              exact HK.out
            · intro Lq wq xq hh
              simp only [hFrgn]
              refine .inl ⟨rfl, ?_⟩
              unfold Reg.upon
              have hc : Crgn Lq (xq 7) wq := hh.cls
              rw [HrgnhC.out] at hc
              have hd := HBX7.out.below (hc.1 (Mix.one_un (hh.notYet 7 (by kernel_rfl)))) HBX7.out.lt
              have q0 := hd.cell 0 _ rfl
              have q1 := hd.cell 1 _ rfl
              have q2 := hd.cell 2 _ rfl
              have q3 := hd.cell 3 _ rfl
              clear hc
              have hk := Hrgnk.out 6 Lq wq (by decide) (by decide)  hh.cls
              have hx := Hrgnx.out wq
              have he : Ergn 6 (.agg #[.int .i64 q.br, .bool q.pc, .int .i64 q.cv, .int .i64 q.ea]) wq := by rw [Hrgne6.out]
              have HK := Lib.hid (And.intro hk (And.intro he hx))
              clear hk hx he
              go_simp
              exact HK.out
            · intro Lq wq xq hh
              have d4 : Ergn 4 (xq 4) wq := hh.val 4 (by kernel_rfl) (by kernel_rfl)
              rw [Hrgne4.out] at d4
              have d5 : Ergn 5 (xq 5) wq := hh.val 5 (by kernel_rfl) (by kernel_rfl)
              rw [Hrgne5.out] at d5
              have d6 : Ergn 6 (xq 6) wq := hh.val 6 (by kernel_rfl) (by kernel_rfl)
              rw [Hrgne6.out] at d6
              simp only [hFrgn, d4, d5, d6]
              clear d4 d5 d6
              refine .inl ⟨rfl, ?_⟩
              unfold Reg.upon
              have hc : Crgn Lq (xq 7) wq := hh.cls
              rw [HrgnhC.out] at hc
              have hbz := hc.1 hh.un
              have hd := Has.below H7.out.1 hbz H7.out.1.lt
              have hbn := fj_begin (H7.out.2.2.below hbz) hd.lt HSS.out HJN.out
              rw [← HQ.out] at hbn
              have hpz := H7.out.2.2.below hbz
              clear hc
              go_simp
              refine hbn.mono ?_
              rintro e w9 ⟨g, rfl, _, h9⟩
              have hF : Crgn (Lq.setIfInBounds 7 true) (.pointer (some ⟨g, 0, none⟩)) w9 := by
                rw [HrgnhC.out]
                refine ⟨fun e => (by rw [Mix.one_set (by rw [hh.size]; decide)] at e; exact absurd e (by decide)), fun _ _ => ⟨g, wq, rfl, hbz, h9, FDo.block hpz hd h9⟩, fun e => ?_⟩
                rw [Mix.one_ne (by decide), Mix.one_un (hh.notYet 10 (by kernel_rfl))] at e
                exact absurd e (by decide)
              exact ⟨_, rfl, hF, (by rw [Hrgne7.out]; exact ⟨g, rfl⟩), (by rw [HrgnhX.out]; trivial)⟩
            · intro Lq wq xq hh
              have d0 : Ergn 0 (xq 0) wq := hh.val 0 (by kernel_rfl) (by kernel_rfl)
              rw [Hrgne0.out] at d0
              simp only [hFrgn, d0]
              clear d0
              refine .inl ⟨rfl, ?_⟩
              unfold Reg.upon
              have hk := Hrgnk.out 8 Lq wq (by decide) (by decide)  hh.cls
              have hx := Hrgnx.out wq
              have he : Ergn 8 (.pointer (some ⟨gf, 0, none⟩)) wq := by rw [Hrgne8.out]
              have HK := Lib.hid (And.intro hk (And.intro he hx))
              clear hk hx he
              go_simp
              exact HK.out
            · intro Lq wq xq hh
              have d8 : Ergn 8 (xq 8) wq := hh.val 8 (by kernel_rfl) (by kernel_rfl)
              rw [Hrgne8.out] at d8
              simp only [hFrgn, d8]
              clear d8
              refine .inl ⟨rfl, ?_⟩
              unfold Reg.upon
              have hk := Hrgnk.out 9 Lq wq (by decide) (by decide)  hh.cls
              have hx := Hrgnx.out wq
              have he : Ergn 9 (.pointer (some ⟨gf, 9, none⟩)) wq := by rw [Hrgne9.out]
              have HK := Lib.hid (And.intro hk (And.intro he hx))
              clear hk hx he
              go_simp
              exact HK.out
            · intro Lq wq xq hh
              have d7 : Ergn 7 (xq 7) wq := hh.val 7 (by kernel_rfl) (by kernel_rfl)
              rw [Hrgne7.out] at d7
              have d9 : Ergn 9 (xq 9) wq := hh.val 9 (by kernel_rfl) (by kernel_rfl)
              rw [Hrgne9.out] at d9
              simp only [hFrgn, d9]
              clear d9
              refine .inl ⟨rfl, ?_⟩
              unfold Reg.upon
              have hc : Crgn Lq (xq 7) wq := hh.cls
              rw [HrgnhC.out] at hc
              obtain ⟨g, wz, e1, e2, e3, e4⟩ := hc.2.1 (hh.isDone 7 (by kernel_rfl)) hh.un
              have q9 : wq.cell? ⟨gf, 9, none⟩ = some (ptrV o1) := e4.cell 9 _ rfl
              have f9 := e4.free 9
              obtain ⟨vo, hvo⟩ : ∃ vo, vo = ptrV o1 := ⟨_, rfl⟩
              rw [← hvo] at q9
              have h10 : FDec (fxs gp (ys ++ [r]) (some g)) (wq.setCell ⟨gf, 9, none⟩ (.pointer (some ⟨g, 0, none⟩))) gf s.1 s.2.1 s.2.2 := e4.set 9 _
              have hgo := go_step HF.out B3.out H7.out.1 H7.out.2.1 e2 e3 h10 ((But.refl _ _ _).set _ _)
              have hF : Crgn (Lq.setIfInBounds 10 true) (xq 7) (wq.setCell ⟨gf, 9, none⟩ (.pointer (some ⟨g, 0, none⟩))) := by
                rw [HrgnhC.out]
                refine ⟨fun e => ?_, fun _ e => ?_, fun _ => hgo⟩
                · rw [Mix.one_ne (by decide), hh.isDone 7 (by kernel_rfl)] at e
                  exact absurd e (by decide)
                · rw [Mix.one_set (by rw [hh.size]; decide)] at e
                  exact absurd e (by decide)
              have hE : Ergn 10 undef (wq.setCell ⟨gf, 9, none⟩ (.pointer (some ⟨g, 0, none⟩))) := by rw [Hrgne10.out]
              have hX : Xrgn wq (wq.setCell ⟨gf, 9, none⟩ (.pointer (some ⟨g, 0, none⟩))) := by rw [HrgnhX.out]; trivial
              clear hc e2 e3 e4 hgo h10 hvo
              rw [e1]
              go_simp
              exact ⟨hF, hE, hX⟩
          intro xq wrgn hcrgn hvrgn
          rw [HrgnhC.out] at hcrgn
          simp only [hFrgn]
          clear hvrgn hFrgn Hrgnk Hrgnx Hrgnst Hrgnc HrgnhC HrgnhX Hrgnb Hrgnxb Hrgne0 Hrgne1 Hrgne2 Hrgne3 Hrgne4 Hrgne5 Hrgne6 Hrgne7 Hrgne8 Hrgne9 Hrgne10
          obtain ⟨R2, o2, q1, q2, q3, q4⟩ := HEND.out wrgn (hcrgn.2.2 (by kernel_rfl))
          have HZ := Lib.hid (And.intro q1 (And.intro q2 (And.intro q3 q4)))
          clear hcrgn q1 q2 q3 q4
          go_wp2
          go_roundw
          case rel => exact ⟨k + 1, R2, o2, by omega, by go_num, HZ.out.1, HZ.out.2.1, HZ.out.2.2.1, HZ.out.2.2.2⟩
          case measure => simp [intOf] <;> omega
    · obtain rfl : k = n := by omega
      have HZ := Lib.hid (show FGo w B gp gg gr wd gf R op p (xs ++ L) s wv from ⟨R1, o1, by rw [HN.out, List.take_length] at hf; exact hf, hu, hrf, hop⟩)
      have j1 : decide ((k : Int) < (k : Int)) = false := by rw [decide_eq_false_iff_not]; omega
      clear hf hu hrf hop
      go_wp2
      exact bodyPost_end (by kernel_rfl) rfl ⟨rfl, HZ.out⟩
end Go.Proofs.YtoeggiplcaegoaaGreatDoor
/- A feeder's calls: Bytes, Rune, Flush, Held, Open. -/
namespace Go.Proofs.YtoeggiplcaegoaaGreatDoor
open Go.RowKit Go.ChangeShapes Go.WideShapes
section
variable {w w1 w2 : World} {B gp gg gr wd gf : Nat} {R : List Rw} {op : Option Nat} {p : Pn} {xs : List Int} {s : St}
/-- What was made behind a feeder is none of its blocks. -/
theorem fw_fresh (h : FAt w B gp gg gr wd gf R p xs s op) {b : Nat} (h1 : w.heap.size ≤ b) (h2 : b < w1.heap.size) : ¬ FW w1 gp gr gf R op b := by
  obtain ⟨_, _, hp⟩ := h.2.pen
  have hl := hp.lt
  have hg := hp.2.2.1.lt
  have hf := h.lt
  rintro ((e | e) | e)
  · rcases e with e | e | ⟨i, hi, e⟩ | e
    · omega
    · omega
    · have := hg.2.2.2.2.2 i hi; rcases e with e | e <;> omega
    · omega
  · obtain ⟨Yo, y1, y2, y3⟩ := h.2
    cases ho : openB xs with
    | false => rw [(y2 ho).1] at e; cases e
    | true =>
      obtain ⟨g, e1, _, e3⟩ := y3 ho
      rw [e1] at e
      cases e
      have := e3.2.lt
      omega
  · omega
theorem held_fresh (h : FAt w B gp gg gr wd gf R p xs s op) {v : Value} {L : List Int} (hv : HeldE (intE .i32) (fun b => w.heap.size ≤ b) w1 v L) : HeldE (intE .i32) (fun b => ¬ FW w1 gp gr gf R op b) w1 v L := hv.zone fun b hb hz => fw_fresh h hz hb
/-- The decoder's part turned. -/
theorem FAt.dec (h : FAt w B gp gg gr wd gf R p xs s op) {t : St} (h1 : FDec (fxs gp xs op) w1 gf t.1 t.2.1 t.2.2) (hb : But gf w.heap.size w w1) : FAt w1 B gp gg gr wd gf R p xs t op ∧ Upd (FW w gp gr gf R op) w w1 :=
  ⟨⟨h1, (h.2.turned h.1 hb).1⟩, (h.2.turned h.1 hb).2.1⟩
/-- One step of the decoder, and what it tells. -/
theorem fdec_step (h : FAt w B gp gg gr wd gf R p xs s op) (hs : wfS s) {x : Int} (x0 : 0 ≤ x) (x1 : x ≤ 255) : Calls Tryz.prog 80 #[.pointer (some ⟨gf, 1, none⟩), .int .u8 x] w (fun e w' => ∃ v, e = .returned v ∧ FAt w' B gp gg gr wd gf R p xs (stepSt s x) op ∧ HeldE (intE .i32) (fun b => ¬ FW w' gp gr gf R op b) w' v (stepTo s x) ∧ Upd (FW w gp gr gf R op) w w') := by
  refine (fd_dstep_any gf s.1 s.2.1 s.2.2 x w h.1 hs x0 x1).mono ?_
  rintro e w' ⟨v, rfl, k1, k2, k3⟩
  obtain ⟨q1, q2⟩ := h.dec (t := stepSt s x) k2 k3
  exact ⟨v, rfl, q1, held_fresh h k1, q2⟩
/-- A state that holds nothing. -/
def st0 : St := (0, 0, 0)
end
section
variable {X : FX}
end
section
variable {w : World} {B gp gg gr wd gf : Nat} {R : List Rw} {op : Option Nat} {p : Pn} {xs : List Int} {s : St}
end
end Go.Proofs.YtoeggiplcaegoaaGreatDoor
/- A feeder's calls: Bytes, Held, Open, New; none of them on no feeder. -/
namespace Go.Proofs.YtoeggiplcaegoaaGreatDoor
open Go.RowKit Go.ChangeShapes Go.WideShapes
theorem bytes_at {Z : Zone} {w : World} {ao : Option Addr} {n cap : Nat} {L : List Int} (h : HeldE (intE .u8) Z w (.slice ao n cap) L) : n = L.length ∧ n ≤ cap ∧ ∀ i, i < L.length → ∃ b off, ao = some ⟨b, off, none⟩ ∧ b < w.heap.size ∧ w.cell? ⟨b, off + i, none⟩ = some (.int .u8 (L.getD i 0)) := by
  obtain ⟨h1, h2, h3⟩ := h.spots
  refine ⟨h1, h2, fun i hi => ?_⟩
  obtain ⟨b, off, rfl, hb, hz, C, hC, hr⟩ := h3 i hi
  have hr' : C = [.int .u8 (L.getD i 0)] := hr
  subst hr'
  have h0 := hC 0 (by decide)
  refine ⟨b, off, rfl, hb, ?_⟩
  simpa [intE] using h0
def inBytes (L : List Int) : Prop := ∀ i, i < L.length → 0 ≤ L.getD i 0 ∧ L.getD i 0 ≤ 255
theorem inBytes.mem {L : List Int} (h : inBytes L) (k : Nat) : ∀ x ∈ L.take k, 0 ≤ x ∧ x ≤ 255 := fun x hx => by
  obtain ⟨i, hi, rfl⟩ := List.mem_iff_getElem.1 (List.mem_of_mem_take hx)
  have := h i hi
  rwa [show L.getD i 0 = L[i] from by simp [List.getD, List.getElem?_eq_getElem hi]] at this
set_option maxRecDepth 100000 in
set_option maxHeartbeats 4000000 in
theorem fbytes_any (B gp gg gr wd gf : Nat) (R : List Rw) (p : Pn) (xs : List Int) (s : St) (op : Option Nat) (v : Value) (L : List Int) (w : World) (h : FAt w B gp gg gr wd gf R p xs s op) (hs : wfS s) (hv : HeldE (intE .u8) (fun b => ¬ FW w gp gr gf R op b) w v L) (hL : inBytes L) :
    Calls Tryz.prog 23 #[.pointer (some ⟨gf, 0, none⟩), v] w (fun e w' => e = .returned (.tuple #[]) ∧ FGo w B gp gg gr wd gf R op p (xs ++ feedTo s L) (feedSt s L) w') := by
  have hmx := hv.max
  obtain ⟨ao, ca, rfl⟩ := hv.len
  obtain ⟨n, hn⟩ : ∃ n, n = L.length := ⟨_, rfl⟩
  have HN := Lib.hid hn
  have HMX := Lib.hid hmx
  rw [← hn] at hv ⊢
  have HV := Lib.hid hv
  have H := Lib.hid h
  have HS := Lib.hid hs
  have HIN := Lib.hid hL
  clear h hv hn hmx hs hL
  go_enter Tryz.func23, Tryz.ntmps23
  go_wp2
  go_loopw [10] (fun iv wr => ∃ (k : Nat) (R1 : List Rw) (o1 : Option Nat), k ≤ n ∧ iv = .int .i64 k ∧ FAt wr B gp gg gr wd gf R1 p (xs ++ feedTo s (L.take k)) (feedSt s (L.take k)) o1 ∧ Upd (FW w gp gr gf R op) w wr ∧ RowsFrom w R R1 ∧ (∀ g, o1 = some g → op = some g ∨ w.heap.size ≤ g)) (fun iv _ => n - (intOf iv).toNat)
  case atStart => exact ⟨0, R, op, Nat.zero_le _, rfl, by rw [List.take_zero]; show FAt w B gp gg gr wd gf R p (xs ++ []) s op; rw [List.append_nil]; exact H.out, Upd.refl _ _, RowsFrom.self _ _, fun _ e => .inl e⟩
  case round =>
    obtain ⟨k, R1, o1, hk, rfl, hf, hu, hrf, hop⟩ := hrel
    obtain ⟨wv, hwv⟩ : ∃ wv, wv = wr := ⟨_, rfl⟩
    subst hwv
    by_cases hlt : k < n
    · have j1 : decide ((k : Int) < (n : Int)) = true := by rw [decide_eq_true_eq]; omega
      have j2 : decide (k < n) = true := by rw [decide_eq_true_eq]; omega
      have hki : (k : Int) < (n : Int) := by omega
      have hwj : IntKind.i64.wrap ((k : Int) + 1) = (k : Int) + 1 := by
        have := HMX.out
        have := HN.out
        unfold maxLen at this
        rw [IntKind.wrap_i64]; omega
      have hru := bytes_at (HV.out.upd hu fun b hz e => hz e)
      have hca := hru.2.1
      have hc := hru.2.2
      clear hru
      obtain ⟨bl, ol, rfl, _, hcell⟩ := hc k (by rw [← HN.out]; exact hlt)
      obtain ⟨r, hr⟩ : ∃ r, r = L.getD k 0 := ⟨_, rfl⟩
      rw [← hr] at hcell
      have hr01 : 0 ≤ r ∧ r ≤ 255 := by rw [hr]; exact HIN.out k (by rw [← HN.out]; exact hlt)
      obtain ⟨ys, hys⟩ : ∃ ys, ys = xs ++ feedTo s (L.take k) := ⟨_, rfl⟩
      obtain ⟨t, ht⟩ : ∃ t, t = feedSt s (L.take k) := ⟨_, rfl⟩
      have hkl : k < L.length := by rw [← HN.out]; exact hlt
      have HYS := Lib.hid (show xs ++ feedTo s (L.take (k + 1)) = ys ++ stepTo t r ∧ feedSt s (L.take (k + 1)) = stepSt t r from by
        rw [hys, ht, hr, feedTo_take s L k hkl, feedSt_take s L k hkl, List.append_assoc]
        exact ⟨rfl, rfl⟩)
      have HWF := Lib.hid (show wfS t from by rw [ht]; exact wfS_feed s _ HS.out (HIN.out.mem k))
      rw [← hys, ← ht] at hf
      have HF := Lib.hid hf
      have HEND := Lib.hid (show ∀ w', FGo wv B gp gg gr wd gf R1 o1 p (ys ++ stepTo t r) (stepSt t r) w' → ∃ (R2 : List Rw) (o2 : Option Nat), FAt w' B gp gg gr wd gf R2 p (xs ++ feedTo s (L.take (k + 1))) (feedSt s (L.take (k + 1))) o2 ∧ Upd (FW w gp gr gf R op) w w' ∧ RowsFrom w R R2 ∧ (∀ g, o2 = some g → op = some g ∨ w.heap.size ≤ g) from fun w' k => by
        obtain ⟨R2, o2, q1, q2, q3, q4⟩ := FGo.trans hu hrf hop k
        rw [← HYS.out.1, ← HYS.out.2] at q1
        exact ⟨R2, o2, q1, q2, q3, q4⟩)
      have HST := Lib.hid (fdec_step hf HWF.out hr01.1 hr01.2)
      have hkc : k < ca := by omega
      clear hf hu hrf hop hys hr hc hkl ht hr01
      go_wp2_with fail
      refine HST.out.mono ?_
      rintro e w1 ⟨v1, rfl, h1, hv1, u1⟩
      have HC := Lib.hid (fcome_any B gp gg gr wd gf R1 p ys (stepSt t r) o1 v1 (stepTo t r) w1 h1 hv1)
      have U1 := Lib.hid u1
      clear h1 hv1 u1 hcell
      go_wp2_with fail
      refine HC.out.mono ?_
      rintro e w2 ⟨rfl, kk⟩
      obtain ⟨R2, o2, q1, q2, q3, q4⟩ := HEND.out w2 (FGo.trans (R := R1) (op := o1) U1.out (RowsFrom.self _ _) (fun _ e => .inl e) kk)
      have HZ := Lib.hid (And.intro q1 (And.intro q2 (And.intro q3 q4)))
      clear kk q1 q2 q3 q4
      go_wp2
      go_roundw
      case rel => exact ⟨k + 1, R2, o2, by omega, by go_num, HZ.out.1, HZ.out.2.1, HZ.out.2.2.1, HZ.out.2.2.2⟩
      case measure => simp [intOf] <;> omega
    · obtain rfl : k = n := by omega
      have HZ := Lib.hid (show FGo w B gp gg gr wd gf R op p (xs ++ feedTo s L) (feedSt s L) wv from ⟨R1, o1, by rw [HN.out, List.take_length] at hf; exact hf, hu, hrf, hop⟩)
      have j1 : decide ((k : Int) < (k : Int)) = false := by rw [decide_eq_false_iff_not]; omega
      clear hf hu hrf hop
      go_wp2
      exact bodyPost_end (by kernel_rfl) rfl ⟨rfl, HZ.out⟩
section
variable {w : World} {B gp gg gr wd gf : Nat} {R : List Rw} {op : Option Nat} {p : Pn} {xs : List Int} {s : St}
theorem fheld_any (h : FAt w B gp gg gr wd gf R p xs s op) : Calls Tryz.prog 27 #[.pointer (some ⟨gf, 0, none⟩)] w (fun e w' => e = .returned (.int .i64 s.2.2) ∧ w = w') := by
  have HH := Lib.hid (fd_held_any gf s.1 s.2.1 s.2.2 w h.1)
  obtain ⟨x, hx⟩ : ∃ x, x = s.2.2 := ⟨_, rfl⟩
  rw [← hx] at HH ⊢
  clear h hx
  go_enter Tryz.func27, Tryz.ntmps27
  go_wp2_with fail
  refine HH.out.mono ?_
  rintro e w1 ⟨rfl, rfl⟩
  go_wp2
  go_ret
  exact ⟨(ret_eq (by first | rfl | (simp <;> omega))), rfl⟩
/-- The open cluster's numbers. -/
def openT (xs : List Int) : List Int := if openB xs = true then numT (lastC xs) (clN (lastC xs)) else []
theorem fopen_any (h : FAt w B gp gg gr wd gf R p xs s op) : Calls Tryz.prog 28 #[.pointer (some ⟨gf, 0, none⟩)] w (fun e w' => ∃ v, e = .returned v ∧ HeldE (intE .i32) (fun b => w.heap.size ≤ b) w' v (openT xs) ∧ Below w.heap.size w w') := by
  have c9 := h.cells.2
  obtain ⟨Yo, y1, y2, y3⟩ := h.2
  cases ho : openB xs with
  | false =>
    have he : openT xs = [] := by unfold openT; rw [ho]; rfl
    rw [(y2 ho).1] at c9
    have c9 : w.cell? ⟨gf, 9, none⟩ = some (.pointer none) := c9
    rw [he]
    clear h y1 y2 y3 he ho
    go_enter Tryz.func28, Tryz.ntmps28
    go_wp2_with fail
    refine (wtxt_nil w).mono ?_
    rintro e w1 ⟨rfl, rfl⟩
    go_wp2
    go_ret
    exact ⟨_, (ret_eq (by first | rfl | (simp <;> omega))), HeldE.nil _ _ _, Below.refl _ _⟩
  | true =>
    obtain ⟨g, e1, _, e3⟩ := y3 ho
    have he : openT xs = numT (lastC xs) (clN (lastC xs)) := by unfold openT; rw [if_pos ho]
    rw [e1] at c9
    have c9 : w.cell? ⟨gf, 9, none⟩ = some (.pointer (some ⟨g, 0, none⟩)) := c9
    have HT := Lib.hid (wtxt_any g _ _ _ _ _ _ _ _ w e3.2)
    rw [he]
    obtain ⟨T, hT⟩ : ∃ T, T = numT (lastC xs) (clN (lastC xs)) := ⟨_, rfl⟩
    rw [← hT] at HT ⊢
    clear h y1 y2 y3 he ho e1 e3 hT
    go_enter Tryz.func28, Tryz.ntmps28
    go_wp2_with fail
    refine HT.out.mono ?_
    rintro e w1 ⟨v1, rfl, ho, hb⟩
    have HF := Lib.hid (And.intro (HeldE.ownedInts ho) hb)
    clear ho hb
    go_wp2
    go_ret
    exact ⟨_, (ret_eq (by first | rfl | (simp <;> omega))), HF.out.1, HF.out.2⟩
/-- A new feeder of a pen. -/
theorem fnew_at (h : PenAt w B gp gg gr wd R p.L p.r p.c p.pd p.au) : FAt (w.alloc (.cells #[.pointer (some ⟨gp, 0, none⟩), .int .u8 0, .int .i32 0, .int .i64 0, .bool false, .int .i64 0, .int .u8 0, .int .u8 0, .bool false, .pointer none] 143)) B gp gg gr wd w.heap.size R p [] st0 none :=
  ⟨Has.new w (fxL (fxs gp [] none) 0 0 0) 143, fun b => True ∧ b ≠ w.heap.size, fun _ e => e.2, fun _ => ⟨rfl, h.1.alloc _, h.2.1, h.2.2.1.new2 _, h.2.2.2⟩, fun e => by cases e⟩
set_option maxRecDepth 100000 in
theorem fnew_any (h : PenAt w B gp gg gr wd R p.L p.r p.c p.pd p.au) : Calls Tryz.prog 29 #[.pointer (some ⟨gp, 0, none⟩)] w (fun e w' => ∃ gf, e = .returned (.pointer (some ⟨gf, 0, none⟩)) ∧ w.heap.size ≤ gf ∧ FAt w' B gp gg gr wd gf R p [] st0 none ∧ Below w.heap.size w w') := by
  have c0 := h.1.cell 0 _ rfl
  have hb := (Below.refl w.heap.size w).alloc (Nat.le_refl _) (.cells #[.pointer (some ⟨gp, 0, none⟩), .int .u8 0, .int .i32 0, .int .i64 0, .bool false, .int .i64 0, .int .u8 0, .int .u8 0, .bool false, .pointer none] 143)
  have HF := Lib.hid (And.intro (Nat.le_refl w.heap.size) (And.intro (fnew_at h) hb))
  clear h hb
  go_enter Tryz.func29, Tryz.ntmps29
  go_wp2
  go_ret
  exact ⟨_, (ret_eq (by first | rfl | (simp <;> omega))), HF.out.1, HF.out.2.1, HF.out.2.2⟩
end
set_option maxRecDepth 100000 in
theorem fnew_nil (w : World) : Calls Tryz.prog 29 #[.pointer none] w (Gives w (.pointer none)) := by
  go_enter Tryz.func29, Tryz.ntmps29
  go_wp2
  go_ret
  exact ⟨(ret_eq (by first | rfl | (simp <;> omega))), Below.refl _ _⟩
set_option maxRecDepth 100000 in
theorem fnew_empty (g : Nat) (C : List Value) (w : World) (h : Has w g (.pointer none :: C) 42) : Calls Tryz.prog 29 #[.pointer (some ⟨g, 0, none⟩)] w (Gives w (.pointer none)) := by
  have c0 := h.cell 0 _ rfl
  have e0 := ext_cell c0
  clear h
  go_enter Tryz.func29, Tryz.ntmps29
  go_wp2
  go_ret
  exact ⟨(ret_eq (by first | rfl | (simp <;> omega))), Below.refl _ _⟩
theorem fbytes_nil (v : Value) (w : World) : Calls Tryz.prog 23 #[.pointer none, v] w (fun e w' => e = .returned (.tuple #[]) ∧ w = w') := by
  go_enter Tryz.func23, Tryz.ntmps23
  go_wp2
  first
  | exact bodyPost_end (by kernel_rfl) rfl ⟨rfl, rfl⟩
  | exact bodyPost_ret (v := .tuple #[]) (by simp [results, Tryz.results23, go_sem]) rfl ⟨rfl, rfl⟩
theorem frune_nil (r : Int) (w : World) : Calls Tryz.prog 24 #[.pointer none, .int .i32 r] w (fun e w' => e = .returned (.tuple #[]) ∧ w = w') := by
  go_enter Tryz.func24, Tryz.ntmps24
  go_wp2
  first
  | exact bodyPost_end (by kernel_rfl) rfl ⟨rfl, rfl⟩
  | (go_ret; exact ⟨(ret_eq (by first | rfl | (simp <;> omega))), rfl⟩)
theorem fflush_nil (w : World) : Calls Tryz.prog 25 #[.pointer none] w (fun e w' => e = .returned (.tuple #[]) ∧ w = w') := by
  go_enter Tryz.func25, Tryz.ntmps25
  go_wp2
  first
  | exact bodyPost_end (by kernel_rfl) rfl ⟨rfl, rfl⟩
  | (go_ret; exact ⟨(ret_eq (by first | rfl | (simp <;> omega))), rfl⟩)
theorem fheld_nil (w : World) : Calls Tryz.prog 27 #[.pointer none] w (fun e w' => e = .returned (.int .i64 0) ∧ w = w') := by
  go_enter Tryz.func27, Tryz.ntmps27
  go_wp2
  go_ret
  exact ⟨(ret_eq (by first | rfl | (simp <;> omega))), rfl⟩
theorem fopen_nil (w : World) : Calls Tryz.prog 28 #[.pointer none] w (fun e w' => e = .returned (.slice none 0 0) ∧ w = w') := by
  go_enter Tryz.func28, Tryz.ntmps28
  go_wp2
  go_ret
  exact ⟨(ret_eq (by first | rfl | (simp <;> omega))), rfl⟩
end Go.Proofs.YtoeggiplcaegoaaGreatDoor
