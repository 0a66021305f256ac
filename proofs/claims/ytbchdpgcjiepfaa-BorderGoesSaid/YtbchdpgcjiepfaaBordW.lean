/- works of layer 17. -/
import Derived.Test.YtbchdpgcjiepfaaBordR
namespace Go.Proofs.Ytbchdpgcjiepfaa
open Go.RowKit Go.ChangeShapes Go.WideShapes
theorem is_val (xs : List Int) (v : Value) (t : Int) (b : Bool) (h : isAt xs t = b) (w : World) (hx : Held .i32 w v xs) (hn : xs.length ≤ 1000000) : Calls Try.prog 9 #[v, .int .i64 t] w (Gives w (.bool b)) := h ▸ is_any xs v t w hx hn
theorem next_val (xs : List Int) (v : Value) (t : Int) (n : Nat) (h : nextTo xs t = n) (w : World) (hx : Held .i32 w v xs) (hn : xs.length ≤ 1000000) : Calls Try.prog 11 #[v, .int .i64 t] w (Gives w (.int .i64 (n : Int))) := h ▸ next_any xs v t w hx hn
theorem prev_val (xs : List Int) (v : Value) (t : Int) (n : Nat) (h : prevTo xs t = n) (w : World) (hx : Held .i32 w v xs) (hn : xs.length ≤ 1000000) : Calls Try.prog 12 #[v, .int .i64 t] w (Gives w (.int .i64 (n : Int))) := h ▸ prev_any xs v t w hx hn
theorem snap_val (xs : List Int) (v : Value) (t : Int) (n : Nat) (h : upTo' xs t = n) (w : World) (hx : Held .i32 w v xs) (hn : xs.length ≤ 1000000) : Calls Try.prog 14 #[v, .int .i64 t] w (Gives w (.int .i64 (n : Int))) := h ▸ snap_any xs v t w hx hn
theorem around_val (xs : List Int) (v : Value) (t : Int) (m n : Nat) (h : fromA xs t = m) (h' : toA xs t = n) (w : World) (hx : Held .i32 w v xs) (hn : xs.length ≤ 1000000) : Calls Try.prog 6 #[v, .int .i64 t] w (Gives w (.tuple #[.int .i64 (m : Int), .int .i64 (n : Int)])) := by
  subst h; subst h'
  exact around_any xs v t w hx hn
set_option maxRecDepth 100000 in
theorem works17_any (w : World) : Calls Try.prog 5 #[] w (Yes w) := by
  have hh := held_new .i32 w [.int .i32 101, .int .i32 769, .int .i32 97] 21 3 3 [101, 769, 97] rfl rfl
  have hl0 : Below w.heap.size w (w.alloc (.cells [Value.int .i32 101, .int .i32 769, .int .i32 97].toArray 21)) := (Below.refl _ _).alloc (Nat.le_refl _) _
  have HH := Lib.hid hh
  have HL := Lib.hid hl0
  clear hh hl0
  go_enter Try.func5, Try.ntmps5
  go_wp2_with fail
  refine (around_val [101, 769, 97] _ 1 0 2 (by decide +kernel) (by decide +kernel) _ HH.out (by decide)).mono ?_
  rintro e w1 ⟨rfl, b1⟩
  go_wp2_with fail
  refine (is_val [101, 769, 97] _ 2 true (by decide +kernel) _ (HH.out.below b1) (by decide)).mono ?_
  rintro e w2 ⟨rfl, b2⟩
  have b2 := b1.trans (b2.mono b1.size)
  go_wp2_with fail
  refine (is_val [101, 769, 97] _ 1 false (by decide +kernel) _ (HH.out.below b2) (by decide)).mono ?_
  rintro e w3 ⟨rfl, b3⟩
  have b3 := b2.trans (b3.mono b2.size)
  go_wp2_with fail
  refine (next_val [101, 769, 97] _ 0 2 (by decide +kernel) _ (HH.out.below b3) (by decide)).mono ?_
  rintro e w4 ⟨rfl, b4⟩
  have b4 := b3.trans (b4.mono b3.size)
  go_wp2_with fail
  refine (prev_val [101, 769, 97] _ 3 2 (by decide +kernel) _ (HH.out.below b4) (by decide)).mono ?_
  rintro e w5 ⟨rfl, b5⟩
  have b5 := b4.trans (b5.mono b4.size)
  go_wp2_with fail
  refine (snap_val [101, 769, 97] _ 1 0 (by decide +kernel) _ (HH.out.below b5) (by decide)).mono ?_
  rintro e w6 ⟨rfl, b6⟩
  have b6 := b5.trans (b6.mono b5.size)
  have hfin := HL.out.trans (b6.mono HL.out.size)
  go_wp2
  go_ret
  exact ⟨(ret_eq (by first | rfl | (simp <;> omega))), hfin⟩
theorem isAt_nonneg {xs : List Int} {t : Int} (h : isAt xs t = true) : 0 ≤ t := by
  unfold isAt toI at h
  rw [decide_eq_true_eq] at h
  obtain ⟨k, _, rfl⟩ := List.mem_map.1 h
  exact Int.natCast_nonneg k
end Go.Proofs.Ytbchdpgcjiepfaa
