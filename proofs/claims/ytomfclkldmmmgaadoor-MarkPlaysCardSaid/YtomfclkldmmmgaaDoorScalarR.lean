/- Contracts of the functions of linotyperef01 that others lean on. -/
import Derived.Test.YtomfclkldmmmgaaDoorScalM
import Derived.Deep.QuietTactic
import Derived.BigQuiet
namespace Go.Proofs.YtomfclkldmmmgaaDoor
open Go.RowKit Go.ChangeShapes Go.WideShapes

theorem refvalid_any (r : Int) (w : World) : Calls Tryd.prog 78 #[.int .i32 r] w fun e w' => e = .returned (.bool (validB r)) ∧ w = w' := by
  have hv : (validB r = true ∧ 0 ≤ r ∧ r ≤ 1114111 ∧ r < 55296) ∨ (validB r = true ∧ 0 ≤ r ∧ r ≤ 1114111 ∧ ¬ r < 55296 ∧ 57343 < r) ∨ (validB r = false ∧ ¬ 0 ≤ r) ∨ (validB r = false ∧ 0 ≤ r ∧ ¬ r ≤ 1114111) ∨ (validB r = false ∧ 0 ≤ r ∧ r ≤ 1114111 ∧ ¬ r < 55296 ∧ ¬ 57343 < r) := by
    unfold validB; simp; omega
  rcases hv with ⟨hv, h1, h2, h3⟩ | ⟨hv, h1, h2, h3, h4⟩ | ⟨hv, h1⟩ | ⟨hv, h1, h2⟩ | ⟨hv, h1, h2, h3, h4⟩
  all_goals
    rw [hv]
    clear hv
    go_enter Tryd.func78, Tryd.ntmps78
    go_wp2
    go_ret
    exact ⟨rfl, rfl⟩

def sameB (xs ys : List Int) : Bool := decide (xs = ys)
theorem sameB_of {xs ys : List Int} (hl : ys.length = xs.length) (h : ∀ j, j < xs.length → xs.getD j 0 = ys.getD j 0) : sameB xs ys = true := by
  unfold sameB
  rw [decide_eq_true_eq]
  apply List.ext_getElem hl.symm
  intro i h1 h2
  have := h i h1
  simpa [List.getD, List.getElem?_eq_getElem h1, List.getElem?_eq_getElem h2] using this
theorem sameB_not {xs ys : List Int} (j : Nat) (h : xs.getD j 0 ≠ ys.getD j 0) : sameB xs ys = false := by
  unfold sameB
  rw [decide_eq_false_iff_not]
  rintro rfl
  exact h rfl
theorem sameB_len {xs ys : List Int} (h : ¬ ys.length = xs.length) : sameB xs ys = false := by
  unfold sameB
  rw [decide_eq_false_iff_not]
  rintro rfl
  exact h rfl
theorem sameB_self (xs : List Int) : sameB xs xs = true := by simp [sameB]
/-- What has been found alike so far. -/
def Alike0 (xs ys : List Int) (k : Nat) : Prop := ∀ j, j < k → xs.getD j 0 = ys.getD j 0
set_option maxRecDepth 100000 in
theorem same_any (v u : Value) (xs ys : List Int) (w : World) (hx : Held .i32 w v xs) (hy : Held .i32 w u ys) (hlen : xs.length ≤ 9223372036854775807) :
    Calls Tryd.prog 53 #[v, u] w (Gives w (.bool (sameB xs ys))) := by
  obtain ⟨ao, ca, rfl, hc⟩ := hx.view
  obtain ⟨bo, cb, rfl, hd⟩ := hy.view
  have HC := Lib.hid hc
  have HD := Lib.hid hd
  clear hc hd hx hy
  by_cases hl : ys.length = xs.length
  · have HL := Lib.hid hl
    rw [hl]
    clear hl
    go_enter Tryd.func53, Tryd.ntmps53
    go_wp2
    go_loopw [5] (fun i wr => ∃ k : Nat, k ≤ xs.length ∧ i = .int .i64 k ∧ Alike0 xs ys k ∧ Below w.heap.size w wr) (fun i _ => xs.length - (intOf i).toNat)
    case atStart => exact ⟨0, Nat.zero_le _, rfl, (fun j hj => by omega), Below.refl _ _⟩
    case round =>
      obtain ⟨k, hk, rfl, hal, hbw⟩ := hrel
      have HA := Lib.hid hal
      clear hal
      by_cases hlt : k < xs.length
      · obtain ⟨b1, o1, rfl, hb1, hcx⟩ := HC.out k hlt
        obtain ⟨b2, o2, rfl, hb2, hcy⟩ := HD.out k (by rw [HL.out]; exact hlt)
        have hcx := (hbw.cell (p := ⟨b1, o1 + k, none⟩) hb1).trans hcx
        have hcy := (hbw.cell (p := ⟨b2, o2 + k, none⟩) hb2).trans hcy
        by_cases he : xs.getD k 0 = ys.getD k 0
        · have HE : Alike0 xs ys (k + 1) := by
            intro j hj
            by_cases h : j = k
            · subst h; exact he
            · exact HA.out j (by omega)
          rw [← he] at hcy
          clear he
          generalize xs.getD k 0 = x at hcx hcy
          go_wp2
          go_quiet (fail)
          have hbw := hbw.drewN nq
          go_wp2
          go_roundw
          case rel => exact ⟨k + 1, by omega, by go_num, HE, hbw⟩
          case measure => simp [intOf]; omega
        · have E := Lib.hid (sameB_not k he)
          generalize xs.getD k 0 = x at hcx he
          generalize ys.getD k 0 = y at hcy he
          go_wp2
          go_quiet (fail)
          have hbw := hbw.drewN nq
          go_wp2
          go_ret
          exact ⟨ret_eq (by rw [E.out]; rfl), hbw⟩
      · have e : sameB xs ys = true := sameB_of HL.out (fun j hj => HA.out j (by omega))
        have E := Lib.hid e
        clear e
        go_wp2
        go_ret
        exact ⟨ret_eq (by rw [E.out]; rfl), hbw⟩
  · rw [sameB_len hl]
    go_enter Tryd.func53, Tryd.ntmps53
    go_wp2
    go_ret
    exact ⟨rfl, Below.refl _ _⟩
end Go.Proofs.YtomfclkldmmmgaaDoor
