/- Contracts of utfdec: a decoder's calls. -/
import Derived.Test.YtoeggiplcaegoaaGreatDoorMg1
namespace Go.Proofs.YtoeggiplcaegoaaGreatDoor
open Go.RowKit Go.ChangeShapes Go.WideShapes
/-- Block g is a decoder in a state. -/
def DecAt (w : World) (g : Nat) (l b h : Int) : Prop := Has w g [.int .u8 l, .int .i32 b, .int .i64 h] 138
theorem DecAt.zero {w : World} {g : Nat} {l b h : Int} (hd : DecAt w g l b h) : DecAt (((w.setCell ⟨g, 0, none⟩ (.int .u8 0)).setCell ⟨g, 1, none⟩ (.int .i32 0)).setCell ⟨g, 2, none⟩ (.int .i64 0)) g 0 0 0 :=
  ((hd.set 0 _).set 1 _).set 2 _
/-- Can byte x come behind what is held? -/
def nextB (l h x : Int) : Bool := if 1 < h then tailO x else decide (lo2 l ≤ x) && decide (x ≤ hi2 l)
/-- What is told of a byte where none is held; what is held then. -/
def beginT (x : Int) : List Int := if leadI x = 0 then [65533] else if leadI x = 1 then [x] else []
def beginL (x : Int) : Int := if 2 ≤ leadI x then x else 0
def beginBt (x : Int) : Int := if 2 ≤ leadI x then bitsI x else 0
def beginH (x : Int) : Int := if 2 ≤ leadI x then 1 else 0
theorem Tryz.info21 : (Tryz.prog.info? 21).map (fun i => (i.zero, i.size, i.bytes)) = some (some (.int .i32 0), 1, 4) := by kernel_rfl
/-- A decoder's state: nothing held, or the beginning of a form. -/
def mxD (L h : Int) : Int := if L = 2 then 32 else if L = 3 then (if h = 1 then 16 else 1024) else (if h = 1 then 8 else if h = 2 then 512 else 32768)
def wfD (l b h : Int) : Prop := (l = 0 ∧ b = 0 ∧ h = 0) ∨ (0 ≤ l ∧ l ≤ 255 ∧ 1 ≤ h ∧ h < leadI l ∧ 0 ≤ b ∧ b < mxD (leadI l) h)
theorem mxD_le (L h : Int) : mxD L h ≤ 32768 := by unfold mxD; split <;> (try split) <;> (try split) <;> omega
theorem leadI_le (l : Int) : 0 ≤ leadI l ∧ leadI l ≤ 4 := by unfold leadI; omega
def tellT (l b h x : Int) : List Int := if h = 0 then beginT x else if nextB l h x = true then (if h + 1 < leadI l then [] else [b * 64 + x % 64]) else 65533 :: beginT x
def tellL (l h x : Int) : Int := if h = 0 then beginL x else if nextB l h x = true then (if h + 1 < leadI l then l else 0) else beginL x
def tellBt (l b h x : Int) : Int := if h = 0 then beginBt x else if nextB l h x = true then (if h + 1 < leadI l then b * 64 + x % 64 else 0) else beginBt x
def tellH (l h x : Int) : Int := if h = 0 then beginH x else if nextB l h x = true then (if h + 1 < leadI l then h + 1 else 0) else beginH x
theorem wf_begin (x : Int) (x0 : 0 ≤ x) (x1 : x ≤ 255) : wfD (beginL x) (beginBt x) (beginH x) := by
  unfold wfD beginL beginBt beginH
  by_cases h : 2 ≤ leadI x
  · rw [if_pos h, if_pos h, if_pos h]
    refine .inr ⟨x0, x1, by omega, by omega, ?_⟩
    rcases lead_cases x with ⟨h2, hs⟩ | ⟨h2, h3, hs⟩ | ⟨h2, h3, hs⟩ | ⟨h2, h3, hs⟩ | ⟨h2, h3, hs⟩ | ⟨h2, hs⟩
    all_goals (rw [hs] at h; try omega)
    all_goals (unfold bitsI mxD; rw [hs]; simp; omega)
  · rw [if_neg h, if_neg h, if_neg h]
    exact .inl ⟨rfl, rfl, rfl⟩
theorem wf_tell (l b h x : Int) (hw : wfD l b h) (x0 : 0 ≤ x) (x1 : x ≤ 255) : wfD (tellL l h x) (tellBt l b h x) (tellH l h x) := by
  rcases hw with ⟨rfl, rfl, rfl⟩ | ⟨l0, l1, h0, h1, b0, b1⟩
  · exact wf_begin x x0 x1
  · have hne : ¬ h = 0 := by omega
    unfold tellL tellBt tellH
    rw [if_neg hne, if_neg hne, if_neg hne]
    by_cases hx : nextB l h x = true
    · rw [if_pos hx, if_pos hx, if_pos hx]
      by_cases hm : h + 1 < leadI l
      · rw [if_pos hm, if_pos hm, if_pos hm]
        refine .inr ⟨l0, l1, by omega, hm, by omega, ?_⟩
        have hl4 := leadI_le l
        unfold mxD at b1 ⊢
        obtain h3 | h4 : leadI l = 3 ∨ leadI l = 4 := by omega
        · obtain rfl : h = 1 := by omega
          rw [h3] at b1 ⊢
          simp at b1 ⊢; omega
        · rw [h4] at b1 ⊢
          obtain rfl | rfl : h = 1 ∨ h = 2 := by omega
          all_goals (simp at b1 ⊢; omega)
      · rw [if_neg hm, if_neg hm, if_neg hm]
        exact .inl ⟨rfl, rfl, rfl⟩
    · rw [if_neg hx, if_neg hx, if_neg hx]
      exact wf_begin x x0 x1
/-- States, and rows of bytes. -/
abbrev St := Int × Int × Int
def stepSt (s : St) (x : Int) : St := (tellL s.1 s.2.2 x, tellBt s.1 s.2.1 s.2.2 x, tellH s.1 s.2.2 x)
def stepTo (s : St) (x : Int) : List Int := tellT s.1 s.2.1 s.2.2 x
def feedSt (s : St) (p : List Int) : St := p.foldl stepSt s
def feedTo : St → List Int → List Int
  | _, [] => []
  | s, x :: p => stepTo s x ++ feedTo (stepSt s x) p
theorem feedTo_append (s : St) (p q : List Int) : feedTo s (p ++ q) = feedTo s p ++ feedTo (feedSt s p) q := by
  induction p generalizing s with
  | nil => rfl
  | cons x p ih => simp [feedTo, feedSt, ih]
theorem feedSt_append (s : St) (p q : List Int) : feedSt s (p ++ q) = feedSt (feedSt s p) q := by simp [feedSt]
def wfS (s : St) : Prop := wfD s.1 s.2.1 s.2.2
theorem wfS_step (s : St) (x : Int) (h : wfS s) (x0 : 0 ≤ x) (x1 : x ≤ 255) : wfS (stepSt s x) := wf_tell _ _ _ _ h x0 x1
theorem wfS_feed (s : St) (p : List Int) (h : wfS s) (hp : ∀ x ∈ p, 0 ≤ x ∧ x ≤ 255) : wfS (feedSt s p) := by
  induction p generalizing s with
  | nil => exact h
  | cons x p ih =>
    have := hp x (by simp)
    exact ih (stepSt s x) (wfS_step s x h this.1 this.2) (fun y hy => hp y (by simp [hy]))
theorem wfS_zero : wfS (0, 0, 0) := .inl ⟨rfl, rfl, rfl⟩
theorem take_snoc' (xs : List Int) (k : Nat) (h : k < xs.length) : xs.take (k + 1) = xs.take k ++ [xs.getD k 0] := by
  rw [List.take_succ_eq_append_getElem h]
  simp [List.getD, List.getElem?_eq_getElem h]
theorem feedTo_take (s : St) (p : List Int) (k : Nat) (h : k < p.length) : feedTo s (p.take (k + 1)) = feedTo s (p.take k) ++ stepTo (feedSt s (p.take k)) (p.getD k 0) := by
  rw [take_snoc' p k h, feedTo_append]
  simp [feedTo]
theorem feedSt_take (s : St) (p : List Int) (k : Nat) (h : k < p.length) : feedSt s (p.take (k + 1)) = stepSt (feedSt s (p.take k)) (p.getD k 0) := by
  rw [take_snoc' p k h, feedSt_append]
  rfl
end Go.Proofs.YtoeggiplcaegoaaGreatDoor
