/- cell.Same, and what it leans on. -/
import Derived.Test.YtomfclkldmmmgaaDoorCellA
import Derived.Test.YtomfclkldmmmgaaDoorScalarR
namespace Go.Proofs.YtomfclkldmmmgaaDoor
open Go.RowKit Go.ChangeShapes Go.WideShapes
theorem sameC_of {a b : List Cl} (hl : b.length = a.length) (h : ∀ j, j < a.length → a.getD j zc = b.getD j zc) : sameC a b = true := by
  unfold sameC
  rw [decide_eq_true_eq]
  apply List.ext_getElem hl.symm
  intro i h1 h2
  have := h i h1
  simpa [List.getD, List.getElem?_eq_getElem h1, List.getElem?_eq_getElem h2] using this
theorem sameC_not {a b : List Cl} (j : Nat) (h : a.getD j zc ≠ b.getD j zc) : sameC a b = false := by
  unfold sameC
  rw [decide_eq_false_iff_not]
  rintro rfl
  exact h rfl
theorem sameC_len {a b : List Cl} (h : ¬ b.length = a.length) : sameC a b = false := by
  unfold sameC
  rw [decide_eq_false_iff_not]
  rintro rfl
  exact h rfl
theorem sameC_self (a : List Cl) : sameC a a = true := by simp [sameC]
def AlikeC (a b : List Cl) (k : Nat) : Prop := ∀ j, j < k → a.getD j zc = b.getD j zc
theorem AlikeC.next {a b : List Cl} {k : Nat} (h : AlikeC a b k) (e : a.getD k zc = b.getD k zc) : AlikeC a b (k + 1) := by
  intro j hj
  by_cases h2 : j = k
  · subst h2; exact e
  · exact h j (by omega)
set_option maxRecDepth 100000 in
theorem requal_any (v u : Value) (xs ys : List Int) (w : World) (hx : Held .i32 w v xs) (hy : Held .i32 w u ys) (hlen : xs.length ≤ 9223372036854775807) :
    Calls Tryd.prog 115 #[v, u] w (Gives w (.bool (sameB xs ys))) := by
  obtain ⟨ao, ca, rfl, hc⟩ := hx.view
  obtain ⟨bo, cb, rfl, hd⟩ := hy.view
  have HC := Lib.hid hc
  have HD := Lib.hid hd
  clear hc hd hx hy
  by_cases hl : ys.length = xs.length
  · have HL := Lib.hid hl
    rw [hl]
    clear hl
    go_enter Tryd.func115, Tryd.ntmps115
    go_wp2
    go_loopw [13] (fun i wr => ∃ k : Nat, k ≤ xs.length ∧ i = .int .i64 k ∧ Alike0 xs ys k ∧ Below w.heap.size w wr) (fun i _ => xs.length - (intOf i).toNat)
    case atStart => exact ⟨0, Nat.zero_le _, rfl, (fun j hj => by omega), Below.refl _ _⟩
    case round =>
      obtain ⟨k, hk, rfl, hal, hbw⟩ := hrel
      have HA := Lib.hid hal
      clear hal
      by_cases hlt : k < xs.length
      · obtain ⟨b1, o1, rfl, hb1, hcx⟩ := HC.out k hlt
        obtain ⟨b2, o2, rfl, hb2, hcy⟩ := HD.out k (by rw [HL.out]; exact hlt)
        have hcx := (hbw.cell (p := ⟨b1, o1 + k, none⟩) hb1).trans hcx
        have hcy := (hbw.cell (p := ⟨b2, o2 + k, none⟩) hb2).trans hcy
        by_cases he : xs.getD k 0 = ys.getD k 0
        · have HE : Alike0 xs ys (k + 1) := by
            intro j hj
            by_cases h : j = k
            · subst h; exact he
            · exact HA.out j (by omega)
          rw [← he] at hcy
          clear he
          generalize xs.getD k 0 = x at hcx hcy
          go_wp2
          go_quiet (fail)
          have hbw := hbw.drewN nq
          go_wp2
          go_roundw
          case rel => exact ⟨k + 1, by omega, by go_num, HE, hbw⟩
          case measure => simp [intOf]; omega
        · have E := Lib.hid (sameB_not k he)
          generalize xs.getD k 0 = x at hcx he
          generalize ys.getD k 0 = y at hcy he
          go_wp2
          go_quiet (fail)
          have hbw := hbw.drewN nq
          go_wp2
          go_ret
          exact ⟨ret_eq (by rw [E.out]; try rfl), hbw⟩
      · obtain rfl : k = xs.length := by omega
        have E := Lib.hid (sameB_of HL.out HA.out)
        go_wp2
        go_ret
        exact ⟨ret_eq (by rw [E.out]; try rfl), hbw⟩
  · have E := Lib.hid (sameB_len hl)
    have hl2 : ¬ xs.length = ys.length := fun h => hl h.symm
    go_enter Tryd.func115, Tryd.ntmps115
    go_wp2
    go_ret
    exact ⟨ret_eq (by rw [E.out]; try rfl), Below.refl _ _⟩
theorem cell_eq {K K' : Int} {T T' : List Int} : (decide ((K, T) = (K', T'))) = ((K == K') && sameB T T') := by
  unfold sameB
  rw [Bool.eq_iff_iff]
  simp
end Go.Proofs.YtomfclkldmmmgaaDoor
