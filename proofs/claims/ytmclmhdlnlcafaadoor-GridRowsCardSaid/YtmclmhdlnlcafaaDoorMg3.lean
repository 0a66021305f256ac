/- Texts put together: RowX, MarkC, MarkD, MarkE, MarkF. -/
import Derived.Test.YtmclmhdlnlcafaaDoorRowQ
import Derived.Test.YtmclmhdlnlcafaaDoorMg2
import Derived.Test.YtmclmhdlnlcafaaDoorMg1
import Derived.Test.YtmclmhdlnlcafaaDoorCellP
import Derived.Test.YtmclmhdlnlcafaaDoorRowO
import Derived.Deep.Cut
/- Row.Paint in one word; the reference's Wrong. -/
namespace Go.Proofs.YtmclmhdlnlcafaaDoor
open Go.RowKit Go.ChangeShapes Go.WideShapes
def wrongI (n at_ : Int) (p : List Cl) : Int := if at_ < 0 ∨ n < at_ ∨ n - at_ < p.length then 3 else if soundB p = true then 0 else 5
theorem rpaint_good (Z Y : Zone) (B g gc : Nat) (L p : List Cl) (wrap : Bool) (v : Value) (w : World) (h : RowAt Z w B g gc L wrap) (hv : HeldE cellE Y w v p) (hY : ∀ b, Y b → b ≠ g ∧ b ≠ gc) (hZ : ∀ b, w.heap.size ≤ b → Z b) (a : Nat) (hle : a + p.length ≤ L.length) (hp : soundB p = true) :
    Calls Tryd.prog 72 #[.pointer (some ⟨g, 0, none⟩), .int .i64 a, v] w (PaintOk Z B g gc w (paintL L p a) (wrap && !lastHit L p a)) := by
  cases p with
  | nil =>
    rw [paint_none, lastHit_none, Bool.not_false, Bool.and_true]
    exact rpaint_none Z Y B g gc L wrap v w h hv a (by simpa using hle)
  | cons c p => exact rpaint_ok Z Y B g gc L (c :: p) wrap v w h hv hY hZ a hle hp (by simp)
/-- .. or why not. -/
theorem rpaint_bad (sa : Nat → Addr) (Z Y : Zone) (B g gc : Nat) (L p : List Cl) (wrap : Bool) (at_ : Int) (v : Value) (w : World) (hs : Sents w sa) (h : RowAt Z w B g gc L wrap) (hv : HeldE cellE Y w v p) (hbad : wrongI L.length at_ p ≠ 0) :
    ∃ m : Nat, m < 8 ∧ wrongI L.length at_ p = (m : Int) + 1 ∧ Calls Tryd.prog 72 #[.pointer (some ⟨g, 0, none⟩), .int .i64 at_, v] w (Gives w (.iface 154 (.pointer (some (sa m))))) := by
  unfold wrongI at hbad ⊢
  split
  · rename_i h1
    exact ⟨2, by decide, rfl, rpaint_range sa Z Y B g gc L p wrap at_ v w hs h hv h1⟩
  · rename_i h1
    rw [if_neg h1] at hbad
    cases hq : soundB p with
    | true => rw [hq] at hbad; exact absurd rfl hbad
    | false =>
      obtain ⟨a, rfl⟩ := Int.eq_ofNat_of_zero_le (show 0 ≤ at_ by omega)
      exact ⟨4, by decide, rfl, rpaint_kind sa Z Y B g gc L p wrap v w hs h hv a (by omega) hq⟩
theorem wrong_good {n : Nat} {at_ : Int} {p : List Cl} (h : wrongI n at_ p = 0) : ∃ a : Nat, at_ = a ∧ a + p.length ≤ n ∧ soundB p = true := by
  unfold wrongI at h
  split at h
  · cases h
  · rename_i h1
    split at h
    · rename_i h2
      obtain ⟨a, rfl⟩ := Int.eq_ofNat_of_zero_le (show 0 ≤ at_ by omega)
      exact ⟨a, rfl, by omega, h2⟩
    · cases h
end Go.Proofs.YtmclmhdlnlcafaaDoor
/- mark: Put, At, Add, Widen. -/
namespace Go.Proofs.YtmclmhdlnlcafaaDoor
open Go.RowKit Go.ChangeShapes Go.WideShapes
def AtOwn (w : World) (k : Int) (c : Cl) (e : Ending) (w' : World) : Prop := ∃ tv, e = .returned (.tuple #[.int .i64 k, .agg #[.int .i64 c.1, tv], .bool true]) ∧ OwnE (intE .i32) (fun _ => True) w' w.heap.size 21 tv c.2 ∧ Below w.heap.size w w'
end Go.Proofs.YtmclmhdlnlcafaaDoor
/- mark: At where there is no cluster; Add, Widen. -/
namespace Go.Proofs.YtmclmhdlnlcafaaDoor
open Go.RowKit Go.ChangeShapes Go.WideShapes
abbrev noItem : Value := .tuple #[.int .i64 0, .agg #[.int .i64 0, .slice none 0 0], .bool false]
end Go.Proofs.YtmclmhdlnlcafaaDoor
/- mark: Add, Widen. -/
namespace Go.Proofs.YtmclmhdlnlcafaaDoor
open Go.RowKit Go.ChangeShapes Go.WideShapes
theorem wrong_none {n : Nat} {a : Nat} {p : List Cl} (h : a + p.length ≤ n) (hs : soundB p = true) : wrongI n (a : Int) p = 0 := by
  unfold wrongI
  rw [if_neg (by omega), if_pos hs]
def Turned3Z (Z : Zone) (w : World) (B g gc : Nat) (r : List Cl × Bool × Bool) (e : Ending) (w' : World) : Prop := e = .returned (.bool r.2.2) ∧ RowAt Z w' B g gc r.1 r.2.1 ∧ Upd (fun b => b = g ∨ b = gc) w w'
def Turned3 (w : World) (B g gc : Nat) (r : List Cl × Bool × Bool) (e : Ending) (w' : World) : Prop := e = .returned (.bool r.2.2) ∧ RowAt (fun _ => True) w' B g gc r.1 r.2.1 ∧ Upd (fun b => b = g ∨ b = gc) w w'
theorem Turned3Z.same {Z : Zone} {w w' : World} {B g gc : Nat} {L : List Cl} {wrap : Bool} (h : RowAt Z w B g gc L wrap) (b : Below w.heap.size w w') : Turned3Z Z w B g gc (L, wrap, false) (.returned (.bool false)) w' := ⟨rfl, h.below b, .ofBelow b⟩
theorem Turned3.same {w w' : World} {B g gc : Nat} {L : List Cl} {wrap : Bool} (h : RowAt (fun _ => True) w B g gc L wrap) (b : Below w.heap.size w w') : Turned3 w B g gc (L, wrap, false) (.returned (.bool false)) w' := ⟨rfl, h.below b, .ofBelow b⟩
end Go.Proofs.YtmclmhdlnlcafaaDoor
/- mark: Add. -/
namespace Go.Proofs.YtmclmhdlnlcafaaDoor
open Go.RowKit Go.ChangeShapes Go.WideShapes
theorem RowAt.lower {Z : Zone} {w : World} {B g gc : Nat} {L : List Cl} {wrap : Bool} (h : RowAt Z w B g gc L wrap) : RowAt (fun b => b < w.heap.size) w B g gc L wrap := h.keep (.refl _ _) fun b hb _ => hb
theorem RowAt.any {Z : Zone} {w : World} {B g gc : Nat} {L : List Cl} {wrap : Bool} (h : RowAt Z w B g gc L wrap) : RowAt (fun _ => True) w B g gc L wrap := h.keep (.refl _ _) fun b hb _ => trivial
theorem kept_upd {S : Zone} {w w' : World} {base : Nat} {e : TypeId} {size : Nat} {D C : List Value} {m : Nat} (hu : Upd S w w') (hs : ∀ b, S b → b < base) : Kept w w' base e size D C m := by
  refine ⟨fun v n xs h _ => ownsRow_same h fun g hg => ?_, fun g h => ownsRow_same h fun g2 hg => ?_⟩
  · have := h.lt g hg
    exact hu.block g this.2 fun hsg => by have := hs g hsg; omega
  · have := h.lt g2 hg
    exact hu.block g2 this.2 fun hsg => by have := hs g2 hsg; omega
/-- An append of a new one to a row of the call's own. -/
theorem int_append (w : World) (B : Nat) (ty : TypeId) (v : Value) (T : List Int) (x : Int) (hown : w.ownsRow B 21 1 v T.length (T.map (Value.int .i32))) (g : Nat) (hu : w.ownsRow B 21 1 (.slice (some ⟨g, 0, none⟩) 1 1) 1 [.int .i32 x]) (hn : T.length ≤ 1000000) (hbase : B ≤ w.heap.size) :
    ∃ v' w', (Builtin.append_ #[31, 31] ty #[v, .slice (some ⟨g, 0, none⟩) 1 1]).run Tryd.prog w = .ok v' w' ∧ w'.ownsRow B 21 1 v' (T.length + 1) (T.map (Value.int .i32) ++ [.int .i32 x]) ∧ w.grownBy w' v.ownBlock ∧ Kept w w' B 21 1 (T.map (Value.int .i32) ++ [.int .i32 x]) [.int .i32 x] 1 := by
  obtain ⟨i0, hi, hz0, hz1, hz2⟩ := info_parts info_rune
  have hc : ∀ j u, ([Value.int .i32 x] : List Value)[j]? = some u → w.cell? ((⟨g, 0, none⟩ : Addr).add j) = some u := by
    have hh : HeldE (intE .i32) (fun _ => True) w (.slice (some ⟨g, 0, none⟩) 1 1) [x] := (ownE_ints (Z := fun _ => True) (xs := [x]) (by simpa using hu)).held fun _ _ _ => trivial
    intro j u hj
    match j with
    | 0 =>
      simp only [List.getElem?_cons_zero, Option.some.injEq] at hj
      subst hj
      obtain ⟨_, _, hs⟩ := hh.spots
      obtain ⟨b, off, e, _, _, C, hC, hr⟩ := hs 0 (by simp)
      cases e
      have hr : C = [.int .i32 x] := hr
      subst hr
      exact hC 0 (by decide)
    | j + 1 => simp at hj
  exact run_append_kept (P := Tryd.prog) w B 31 ty 21 i0 _ 1 4 Tryd.underlying31 hi hz0 hz1 hz2 rfl (by decide) v T.length _ hown ⟨g, 0, none⟩ 1 1 [.int .i32 x] rfl hc (by simp [Value.oneCell']) (by unfold maxLen; omega) (by omega) hbase
end Go.Proofs.YtmclmhdlnlcafaaDoor
