/- ScalarOrder (1.3) answers true at every two numbers, and turns nothing. Conditions: api.ErrScalar reads as its initialiser lays it (tied to the text by the card). -/
import Derived.Test.YtblmjemgfpbdlaaDoorScalarW
import Derived.Lib.Bytes
import Derived.Deep.RegionWith
import Derived.Test.YtblmjemgfpbdlaaDoorCards
import Derived.Test.YtblmjemgfpbdlaaDoorTie
namespace Go.Proofs.YtblmjemgfpbdlaaDoor.lawScalarOrder
open Go.ChangeShapes Go.WideShapes Go.ChangeAt Go.RowKit

def lessI : List Int → List Int → Bool
  | _, [] => false
  | [], _ :: _ => true
  | a :: x, b :: y => decide (a < b) || (decide (a = b) && lessI x y)
theorem less_of : ∀ (xs ys : List Int), (∀ x ∈ xs, 0 ≤ x ∧ x < 256) → (∀ y ∈ ys, 0 ≤ y ∧ y < 256) → Op.bytesLess (Lib.bytesOf xs) (Lib.bytesOf ys) = lessI xs ys
  | xs, [], _, _ => by cases xs <;> rfl
  | [], _ :: _, _, _ => rfl
  | a :: x, b :: y, ha, hb => by
    have ih := less_of x y (fun u hu => ha u (by simp [hu])) (fun u hu => hb u (by simp [hu]))
    have h1 := ha a (by simp)
    have h2 := hb b (by simp)
    have e1 : (UInt8.ofNat a.toNat < UInt8.ofNat b.toNat) ↔ a < b := by
      rw [UInt8.lt_iff_toNat_lt, UInt8.toNat_ofNat', UInt8.toNat_ofNat']
      omega
    have e2 : (UInt8.ofNat a.toNat = UInt8.ofNat b.toNat) ↔ a = b := by
      rw [← UInt8.toNat_inj, UInt8.toNat_ofNat', UInt8.toNat_ofNat']
      omega
    show (decide (UInt8.ofNat a.toNat < UInt8.ofNat b.toNat) || ((UInt8.ofNat a.toNat == UInt8.ofNat b.toNat) && Op.bytesLess (Lib.bytesOf x) (Lib.bytesOf y))) = _
    rw [ih, Bool.eq_iff_iff]
    simp only [lessI, Bool.or_eq_true, Bool.and_eq_true, decide_eq_true_eq, beq_iff_eq, e1, e2]
theorem formL_range (r : Int) : ∀ x ∈ formL r, 0 ≤ x ∧ x < 256 := by
  cases hv : validB r with
  | false => simp [formL, hv]
  | true =>
    have hr := validB_true.1 hv
    unfold formL
    rw [if_neg (by simp [hv])]
    intro x hx
    repeat' split at hx
    all_goals simp at hx
    all_goals omega
theorem formL_cases (r : Int) (hv : validB r = true) : (r < 128 ∧ formL r = [r]) ∨ (128 ≤ r ∧ r < 2048 ∧ formL r = [192 + r / 64, 128 + r % 64]) ∨ (2048 ≤ r ∧ r < 65536 ∧ formL r = [224 + r / 4096, 128 + r / 64 % 64, 128 + r % 64]) ∨ (65536 ≤ r ∧ formL r = [240 + r / 262144, 128 + r / 4096 % 64, 128 + r / 64 % 64, 128 + r % 64]) := by
  unfold formL
  rw [if_neg (by simp [hv])]
  repeat' split
  all_goals simp
  all_goals omega
theorem order (a b : Int) (ha : validB a = true) (hb : validB b = true) : lessI (formL a) (formL b) = decide (a < b) := by
  have h1 := validB_true.1 ha
  have h2 := validB_true.1 hb
  rw [Bool.eq_iff_iff]
  rcases formL_cases a ha with ⟨c1, e1⟩ | ⟨c1, c2, e1⟩ | ⟨c1, c2, e1⟩ | ⟨c1, e1⟩ <;> rcases formL_cases b hb with ⟨d1, f1⟩ | ⟨d1, d2, f1⟩ | ⟨d1, d2, f1⟩ | ⟨d1, f1⟩
  all_goals
    rw [e1, f1]
    simp only [lessI, Bool.or_eq_true, Bool.and_eq_true, decide_eq_true_eq, Bool.false_eq_true, and_false, or_false]
  all_goals omega
theorem order_text (a b : Int) (ha : validB a = true) (hb : validB b = true) : Op.bytesLess (strOfNums (formL a)).toList (strOfNums (formL b)).toList = decide (a < b) := by
  rw [Lib.strOfNums_toList, Lib.strOfNums_toList, less_of _ _ (formL_range a) (formL_range b), order a b ha hb]

set_option maxRecDepth 100000 in
theorem walk (a b : Int) (w : World) : Calls Tryd.prog 5 #[.int .i32 a, .int .i32 b] w (Yes w) := by
  by_cases hab : validB a = true ∧ validB b = true
  · obtain ⟨ha, hb⟩ := hab
    have ho := order_text a b ha hb
    have HA := Lib.hid ha
    have HB := Lib.hid hb
    have HO := Lib.hid ho
    clear ha hb ho
    go_enter Tryd.func5, Tryd.ntmps5
    go_wp2_with fail
    refine (works_any _).mono ?_
    rintro e w1 ⟨rfl, b1⟩
    go_wp2_with fail
    refine (refvalid_any _ _).mono ?_
    rintro e w' ⟨rfl, rfl⟩
    rw [HA.out]
    go_wp2_with fail
    refine (refvalid_any _ _).mono ?_
    rintro e w' ⟨rfl, rfl⟩
    rw [HB.out]
    go_wp2_with fail
    go_region_with (first
      | (go_at_call_of 11 (Value.int .i32 a); refine (form_any _ _).mono ?_; rintro e w2 ⟨v2, rfl, h2, b2⟩; have c2 := held_text (P := Tryd.prog) h2 25 5 9 Tryd.underlying25 Tryd.underlying5 Tryd.underlying9)
      | (go_at_call_of 11 (Value.int .i32 b); refine (form_any _ _).mono ?_; rintro e w3 ⟨v3, rfl, h3, b3⟩; have c3 := held_text (P := Tryd.prog) (h2.below b3) 25 5 9 Tryd.underlying25 Tryd.underlying5 Tryd.underlying9; have c4 := held_text (P := Tryd.prog) h3 25 5 9 Tryd.underlying25 Tryd.underlying5 Tryd.underlying9))
    all_goals
      have hb0 : Below w.heap.size w w3 := (b1.trans (undrew (b2.mono b1.size))).trans (b3.mono (Nat.le_trans b1.size b2.size))
      clear b1 b2 b3 h2 h3
      go_wp2
      go_ret
      exact ⟨ret_eq (by rw [HO.out, beq_self_eq_true]; rfl), by repeat (first | exact hb0 | refine Below.drew ?_)⟩
  · have hor : validB a = false ∨ (validB a = true ∧ validB b = false) := by
      cases ha : validB a with
      | false => exact .inl rfl
      | true =>
        cases hb : validB b with
        | false => exact .inr ⟨rfl, rfl⟩
        | true => exact absurd ⟨ha, hb⟩ hab
    clear hab
    rcases hor with ha | ⟨ha, hb⟩
    · have HA := Lib.hid ha
      clear ha
      go_enter Tryd.func5, Tryd.ntmps5
      go_wp2_with fail
      refine (works_any _).mono ?_
      rintro e w1 ⟨rfl, b1⟩
      go_wp2_with fail
      refine (refvalid_any _ _).mono ?_
      rintro e w' ⟨rfl, rfl⟩
      rw [HA.out]
      go_wp2_with fail
      refine (works_any _).mono ?_
      rintro e w2 ⟨rfl, b2⟩
      have hb0 : Below w.heap.size w w2 := b1.trans (b2.mono b1.size)
      go_wp2
      go_ret
      exact ⟨rfl, hb0⟩
    · have HA := Lib.hid ha
      have HB := Lib.hid hb
      clear ha hb
      go_enter Tryd.func5, Tryd.ntmps5
      go_wp2_with fail
      refine (works_any _).mono ?_
      rintro e w1 ⟨rfl, b1⟩
      go_wp2_with fail
      refine (refvalid_any _ _).mono ?_
      rintro e w' ⟨rfl, rfl⟩
      rw [HA.out]
      go_wp2_with fail
      refine (refvalid_any _ _).mono ?_
      rintro e w' ⟨rfl, rfl⟩
      rw [HB.out]
      go_wp2_with fail
      refine (works_any _).mono ?_
      rintro e w2 ⟨rfl, b2⟩
      have hb0 : Below w.heap.size w w2 := b1.trans (b2.mono b1.size)
      go_wp2
      go_ret
      exact ⟨rfl, hb0⟩

theorem door_met (os : Os) : laidMetH Tryd.prog Rows.scalarOrderRow.laid ((World.doorLaid Tryd.prog 400 os).forCall (fun _ _ => 0) ⟨#[], #[.int .i32 0, .int .i32 0], []⟩).memory :=
  laidMetH_of_parts3 (fuel := 8) (laidMet_of_run' 8 (by kernel_rfl) (by kernel_rfl)) (by kernel_rfl) (by kernel_rfl)

set_option maxRecDepth 100000 in
theorem lifted (os : Os) (started : os.Started) (H : Type) (enc : TypeId × Value → H) :
    ReturnsInHanded {} Tryd.checked os 5 .any (fun w args => (Rows.scalarOrderSpec.pre enc Tryd.prog Tryd.f5 [] false w args ∧ laidMetH Tryd.prog Rows.scalarOrderRow.laid w) ∧ sizedMet enc Tryd.prog Tryd.f5 (OpenSpec.ofChange Rows.scalarOrderSpec) false w args)
      (Rows.scalarOrderSpec.post enc Tryd.prog Tryd.f5 false true false false) := by
  refine law_frame (C := Tryd.checked) (tb := 4) (by kernel_rfl) started (by kernel_rfl) Tryd.func5 (by kernel_rfl) (by kernel_rfl) Tryd.underlying4 rfl
    (by rw [Tryd.params5]; intro t ht; simp at ht; subst ht <;> exact ⟨by kernel_rfl, of_decide_eq_true (by kernel_rfl)⟩)
    (by rw [Tryd.params5]; intro ds hd; match ds, hd with | [_, _], _ => rfl)
    (ChangeSpec.witness_shaped (enc := enc) (C := Tryd.checked) (os := os) (X := fun w _ => laidMetH Tryd.prog Rows.scalarOrderRow.laid w) false (World.doorLaid Tryd.prog 400 os) #[.int .i32 0, .int .i32 0] 8 rfl (World.shaped_of_RefB (by kernel_rfl) (by kernel_rfl)) (by kernel_rfl) (by kernel_rfl) (by kernel_rfl) (door_met os)) ?_
  intro W base args ds before hval hA hsz hL
  rw [Tryd.params5] at hA hval
  obtain ⟨v0, vs0, d0, ds0, p0, q0, hargs, rfl, rfl, h0, r0⟩ := trodAll_cons hA
  obtain ⟨v1, vs1, d1, ds1, p1, q1, rfl, rfl, rfl, h1, r1⟩ := trodAll_cons r0
  obtain ⟨rfl, rfl, rfl⟩ := trodAll_nil r1
  obtain rfl : args = #[v0, v1] := by cases args; simp_all
  obtain ⟨x0, rfl, rfl, rfl, wx0⟩ := open_int Tryd.underlying21 (hval 0 21 v0 rfl rfl) h0
  obtain ⟨x1, rfl, rfl, rfl, wx1⟩ := open_int Tryd.underlying21 (hval 1 21 v1 rfl rfl) h1
  exact walk x0 x1 W

theorem said : Rows.ScalarOrderSaid :=
  OpenClaim.holds_of_wide 5 Tryd.f5 rfl rfl rfl rfl rfl rfl rfl ⟨rfl, rfl, rfl, rfl, rfl⟩ rfl rfl rfl rfl rfl (by kernel_rfl) Tryd.func5 (by kernel_rfl)
    (of_decide_eq_true (by kernel_rfl)) (by unfold Func.isWrapper; first | (rw [if_pos (by decide +kernel)]; kernel_rfl) | (rw [if_neg (by decide +kernel)]; exact ⟨rfl, rfl⟩))
    (fun os started H enc _ => lifted os started H enc)

theorem plain (f : FuncId) (fn : Func) (hf : Tryd.pinned.checked.prog.funcNamed "linotype/linotypelaw01.ScalarOrder" = some f) (hfn : Tryd.pinned.checked.prog.funcs[f]? = some fn) :
    true = Tryd.pinned.checked.prog.looks [] ∧ ∀ (j : Nat) t, fn.params[j]? = some t → Tryd.pinned.checked.prog.wantsStandIn t = false := by
  obtain rfl : f = 5 := Option.some.inj ((show Tryd.prog.funcNamed "linotype/linotypelaw01.ScalarOrder" = some 5 by kernel_rfl).symm.trans hf) |>.symm
  obtain rfl : fn = Tryd.f5 := (Option.some.inj (Tryd.func5.symm.trans hfn)).symm
  refine ⟨by kernel_rfl, fun j t ht => ?_⟩
  rw [Tryd.params5] at ht
  have hm : t ∈ [21, 21] := by simpa using Array.mem_of_getElem? ht
  have hall : ([21, 21].all fun u => !Tryd.prog.wantsStandIn u) = true := by kernel_rfl
  exact (show Tryd.prog.wantsStandIn t = false by simpa using List.all_eq_true.1 hall t hm)

/-- THE CARD. -/
theorem card : Rows.ScalarOrderCardSaid :=
  Claim7.holds_tied_plain_at .later [] _ _ _ _ said (fun _ h => by cases h) (by kernel_rfl) (fun _ h => by cases h) scalarOrder_row_tie rfl ⟨rfl, rfl⟩ (by kernel_rfl) rfl plain (by kernel_rfl)
#print axioms card
end Go.Proofs.YtblmjemgfpbdlaaDoor.lawScalarOrder
