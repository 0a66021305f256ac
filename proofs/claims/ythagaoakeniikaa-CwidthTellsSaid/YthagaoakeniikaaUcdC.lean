/- Contracts of ucd: what is known of a number; codes. -/
import Derived.Test.YthagaoakeniikaaTabW
import Derived.Test.YthagaoakeniikaaFrame
import Derived.Laws.StructEq
namespace Go.Proofs.Ythagaoakeniikaa
open Go.RowKit Go.ChangeShapes Go.WideShapes
def propV4 (a : Int) (b : Bool) (c d : Int) : Value := .agg #[.int .i64 a, .bool b, .int .i64 c, .int .i64 d]
theorem prop_stood : Try.prog.stoodInHeld 26 = false := by kernel_rfl
def propEq (a : Int) (b : Bool) (c d : Int) (a' : Int) (b' : Bool) (c' d' : Int) : Bool := a == a' && (b == b' && (c == c' && d == d'))
theorem prop_eql (a : Int) (b : Bool) (c d : Int) (a' : Int) (b' : Bool) (c' d' : Int) (w : World) : (binOp .eql 26 (.agg #[.int .i64 a, .bool b, .int .i64 c, .int .i64 d]) (.agg #[.int .i64 a', .bool b', .int .i64 c', .int .i64 d'])).run Try.prog w = .ok (.bool (propEq a b c d a' b' c' d')) w := by
  rw [run_eql_struct, run_equalIn_agg _ _ _ _ _ (by kernel_rfl) prop_stood]
  simp only [Program.fieldsOf, Try.underlying26]
  by_cases h1 : a = a' <;> by_cases h2 : c = c' <;> by_cases h3 : d = d' <;> simp [Op.eqFields, go_sem, part, h1, h2, h3, propEq]
  all_goals cases b <;> cases b' <;> rfl
theorem prop_neq (a : Int) (b : Bool) (c d : Int) (a' : Int) (b' : Bool) (c' d' : Int) (w : World) : (binOp .neq 26 (.agg #[.int .i64 a, .bool b, .int .i64 c, .int .i64 d]) (.agg #[.int .i64 a', .bool b', .int .i64 c', .int .i64 d'])).run Try.prog w = .ok (.bool (!propEq a b c d a' b' c' d')) w := by
  rw [run_neq_struct, run_equalIn_agg _ _ _ _ _ (by kernel_rfl) prop_stood]
  simp only [Program.fieldsOf, Try.underlying26]
  by_cases h1 : a = a' <;> by_cases h2 : c = c' <;> by_cases h3 : d = d' <;> simp [Op.eqFields, go_sem, part, h1, h2, h3, propEq]
  all_goals cases b <;> cases b' <;> rfl
theorem propEq_self (a : Int) (b : Bool) (c d : Int) : propEq a b c d a b c d = true := by simp [propEq]
/-- What is known of r. -/
def knownV (r : Int) : Value := .agg #[.int .i64 (gcbI r), .bool (inTab tPict r), .int .i64 (conjO r), .int .i64 (eastI r)]
theorem four_set (w : World) (g : Nat) (a b c d : Value) : But g w.heap.size w ((((w.setCell ⟨g, 0, none⟩ a).setCell ⟨g, 1, none⟩ b).setCell ⟨g, 2, none⟩ c).setCell ⟨g, 3, none⟩ d) :=
  ((((But.refl _ _ _).set 0 _).set 1 _).set 2 _).set 3 _
set_option maxRecDepth 100000 in
theorem ucdof_any (r : Int) (w : World) : Calls Try.prog 26 #[.int .i32 r] w (Gives w (knownV r)) := by
  have hr0 := Has.new w [Value.int .i64 0, .bool false, .int .i64 0, .int .i64 0] 26
  have HR := Lib.hid hr0
  have hl0 : Below w.heap.size w (w.alloc (.cells [Value.int .i64 0, .bool false, .int .i64 0, .int .i64 0].toArray 26)) := (Below.refl _ _).alloc (Nat.le_refl _) _
  have HL := Lib.hid hl0
  clear hr0 hl0
  go_enter Try.func26, Try.ntmps26
  go_wp2_with fail
  refine (gcb_any r _).mono ?_
  rintro e w1 ⟨rfl, b1⟩
  go_wp2_with fail
  refine (pict_any r _).mono ?_
  rintro e w2 ⟨rfl, b2⟩
  go_wp2_with fail
  refine (conj_any r _).mono ?_
  rintro e w3 ⟨rfl, b3⟩
  go_wp2_with fail
  refine (east_any r _).mono ?_
  rintro e w4 ⟨rfl, b4⟩
  have hb := b1.trans ((b2.trans ((b3.trans (b4.mono b3.size)).mono b2.size)).mono b1.size)
  have hr4 := HR.out.below hb HR.out.lt
  have hl4 := HL.out.trans (hb.mono HL.out.size)
  have g0 := hr4.cell 0 _ rfl
  have g1 := hr4.cell 1 _ rfl
  have g2 := hr4.cell 2 _ rfl
  have g3 := hr4.cell 3 _ rfl
  have f0 := hr4.free 0
  have f1 := hr4.free 1
  have f2 := hr4.free 2
  have f3 := hr4.free 3
  have hlt := hr4.lt
  have hbl := fun x y z u => hl4.trans ((four_set w4 w.heap.size x y z u).below hl4.size (Nat.le_refl _))
  have HBL := Lib.hid hbl
  clear hb hr4 hl4 hbl b1 b2 b3 b4 HR HL
  go_wp2
  exact bodyPost_ret (v := knownV r) (by simp [results, Try.results26, go_sem, knownV, g0, g1, g2, g3]) rfl ⟨rfl, HBL.out _ _ _ _⟩
set_option maxRecDepth 100000 in
theorem rucdof_any (r : Int) (w : World) (r0 : -2147483648 ≤ r) (r1 : r ≤ 2147483647) : Calls Try.prog 27 #[.int .i32 r] w (Gives w (knownV r)) := by
  have hr0 := Has.new w [Value.int .i64 0, .bool false, .int .i64 0, .int .i64 0] 26
  have HR := Lib.hid hr0
  have hl0 : Below w.heap.size w (w.alloc (.cells [Value.int .i64 0, .bool false, .int .i64 0, .int .i64 0].toArray 26)) := (Below.refl _ _).alloc (Nat.le_refl _) _
  have HL := Lib.hid hl0
  clear hr0 hl0
  go_enter Try.func27, Try.ntmps27
  go_wp2_with fail
  refine (rof09_any r _ r0 r1).mono ?_
  rintro e w1 ⟨rfl, b1⟩
  rw [gcb_ref r]
  go_wp2_with fail
  refine (rpict_any r _ r0 r1).mono ?_
  rintro e w2 ⟨rfl, b2⟩
  go_wp2_with fail
  refine (rof11_any r _ r0 r1).mono ?_
  rintro e w3 ⟨rfl, b3⟩
  rw [conj_ref r]
  go_wp2_with fail
  refine (rof12_any r _ r0 r1).mono ?_
  rintro e w4 ⟨rfl, b4⟩
  rw [east_ref r]
  have hb := b1.trans ((b2.trans ((b3.trans (b4.mono b3.size)).mono b2.size)).mono b1.size)
  have hr4 := HR.out.below hb HR.out.lt
  have hl4 := HL.out.trans (hb.mono HL.out.size)
  have g0 := hr4.cell 0 _ rfl
  have g1 := hr4.cell 1 _ rfl
  have g2 := hr4.cell 2 _ rfl
  have g3 := hr4.cell 3 _ rfl
  have f0 := hr4.free 0
  have f1 := hr4.free 1
  have f2 := hr4.free 2
  have f3 := hr4.free 3
  have hlt := hr4.lt
  have hbl := fun x y z u => hl4.trans ((four_set w4 w.heap.size x y z u).below hl4.size (Nat.le_refl _))
  have HBL := Lib.hid hbl
  clear hb hr4 hl4 hbl b1 b2 b3 b4 HR HL
  go_wp2
  exact bodyPost_ret (v := knownV r) (by simp [results, Try.results27, go_sem, knownV, g0, g1, g2, g3]) rfl ⟨rfl, HBL.out _ _ _ _⟩
def codeI (a : Int) (b : Bool) (c d : Int) : Int := if a < 0 ∨ 13 < a ∨ c < 0 ∨ 3 < c ∨ d < 0 ∨ 3 < d then -1 else a + 32 * c + 128 * d + (if b = true then 16 else 0)
theorem code_cases (a c d : Int) : (decide (a < 0) = true) ∨ (decide (a < 0) = false ∧ decide (13 < a) = true) ∨ (decide (a < 0) = false ∧ decide (13 < a) = false ∧ decide (c < 0) = true) ∨ (decide (a < 0) = false ∧ decide (13 < a) = false ∧ decide (c < 0) = false ∧ decide (3 < c) = true)
    ∨ (decide (a < 0) = false ∧ decide (13 < a) = false ∧ decide (c < 0) = false ∧ decide (3 < c) = false ∧ decide (d < 0) = true) ∨ (decide (a < 0) = false ∧ decide (13 < a) = false ∧ decide (c < 0) = false ∧ decide (3 < c) = false ∧ decide (d < 0) = false ∧ decide (3 < d) = true)
    ∨ (decide (a < 0) = false ∧ decide (13 < a) = false ∧ decide (c < 0) = false ∧ decide (3 < c) = false ∧ decide (d < 0) = false ∧ decide (3 < d) = false) := by
  simp only [decide_eq_true_eq, decide_eq_false_iff_not]
  omega
set_option maxRecDepth 100000 in
theorem code_any (a : Int) (b : Bool) (c d : Int) (w : World) : Calls Try.prog 29 #[.agg #[.int .i64 a, .bool b, .int .i64 c, .int .i64 d]] w (Gives w (.int .i64 (codeI a b c d))) := by
  have hbl : ∀ o, Below w.heap.size w (w.alloc o) := fun o => (Below.refl _ _).alloc (Nat.le_refl _) o
  have HBL := Lib.hid hbl
  clear hbl
  rcases code_cases a c d with d1 | ⟨d1, d2⟩ | ⟨d1, d2, d3⟩ | ⟨d1, d2, d3, d4⟩ | ⟨d1, d2, d3, d4, d5⟩ | ⟨d1, d2, d3, d4, d5, d6⟩ | ⟨d1, d2, d3, d4, d5, d6⟩
  · have hv : codeI a b c d = -1 := by
      simp only [decide_eq_true_eq, decide_eq_false_iff_not] at d1
      unfold codeI
      rw [if_pos (by omega)]
    have HV := Lib.hid hv
    clear hv
    go_enter Try.func29, Try.ntmps29
    go_wp2
    go_ret
    exact ⟨ret_eq (by rw [HV.out]; rfl), HBL.out _⟩
  · have hv : codeI a b c d = -1 := by
      simp only [decide_eq_true_eq, decide_eq_false_iff_not] at d1 d2
      unfold codeI
      rw [if_pos (by omega)]
    have HV := Lib.hid hv
    clear hv
    go_enter Try.func29, Try.ntmps29
    go_wp2
    go_ret
    exact ⟨ret_eq (by rw [HV.out]; rfl), HBL.out _⟩
  · have hv : codeI a b c d = -1 := by
      simp only [decide_eq_true_eq, decide_eq_false_iff_not] at d1 d2 d3
      unfold codeI
      rw [if_pos (by omega)]
    have HV := Lib.hid hv
    clear hv
    go_enter Try.func29, Try.ntmps29
    go_wp2
    go_ret
    exact ⟨ret_eq (by rw [HV.out]; rfl), HBL.out _⟩
  · have hv : codeI a b c d = -1 := by
      simp only [decide_eq_true_eq, decide_eq_false_iff_not] at d1 d2 d3 d4
      unfold codeI
      rw [if_pos (by omega)]
    have HV := Lib.hid hv
    clear hv
    go_enter Try.func29, Try.ntmps29
    go_wp2
    go_ret
    exact ⟨ret_eq (by rw [HV.out]; rfl), HBL.out _⟩
  · have hv : codeI a b c d = -1 := by
      simp only [decide_eq_true_eq, decide_eq_false_iff_not] at d1 d2 d3 d4 d5
      unfold codeI
      rw [if_pos (by omega)]
    have HV := Lib.hid hv
    clear hv
    go_enter Try.func29, Try.ntmps29
    go_wp2
    go_ret
    exact ⟨ret_eq (by rw [HV.out]; rfl), HBL.out _⟩
  · have hv : codeI a b c d = -1 := by
      simp only [decide_eq_true_eq, decide_eq_false_iff_not] at d1 d2 d3 d4 d5 d6
      unfold codeI
      rw [if_pos (by omega)]
    have HV := Lib.hid hv
    clear hv
    go_enter Try.func29, Try.ntmps29
    go_wp2
    go_ret
    exact ⟨ret_eq (by rw [HV.out]; rfl), HBL.out _⟩
  · have e1 : 0 ≤ a ∧ a ≤ 13 ∧ 0 ≤ c ∧ c ≤ 3 ∧ 0 ≤ d ∧ d ≤ 3 := by
      simp only [decide_eq_false_iff_not] at d1 d2 d3 d4 d5 d6
      omega
    have hv : codeI a b c d = a + 32 * c + 128 * d + (if b = true then 16 else 0) := by
      unfold codeI
      rw [if_neg (by omega)]
    have HV := Lib.hid hv
    clear hv
    cases b
    all_goals
      go_enter Try.func29, Try.ntmps29
      go_wp2
      go_ret
      exact ⟨ret_eq (by rw [HV.out]; simp; try omega), HBL.out _⟩
set_option maxRecDepth 100000 in
theorem rcode_any (a : Int) (b : Bool) (c d : Int) (w : World) : Calls Try.prog 30 #[.agg #[.int .i64 a, .bool b, .int .i64 c, .int .i64 d]] w (Gives w (.int .i64 (codeI a b c d))) := by
  have hbl : ∀ o, Below w.heap.size w (w.alloc o) := fun o => (Below.refl _ _).alloc (Nat.le_refl _) o
  have HBL := Lib.hid hbl
  clear hbl
  rcases code_cases a c d with d1 | ⟨d1, d2⟩ | ⟨d1, d2, d3⟩ | ⟨d1, d2, d3, d4⟩ | ⟨d1, d2, d3, d4, d5⟩ | ⟨d1, d2, d3, d4, d5, d6⟩ | ⟨d1, d2, d3, d4, d5, d6⟩
  · have hv : codeI a b c d = -1 := by
      simp only [decide_eq_true_eq, decide_eq_false_iff_not] at d1
      unfold codeI
      rw [if_pos (by omega)]
    have HV := Lib.hid hv
    clear hv
    go_enter Try.func30, Try.ntmps30
    go_wp2
    go_ret
    exact ⟨ret_eq (by rw [HV.out]; rfl), HBL.out _⟩
  · have hv : codeI a b c d = -1 := by
      simp only [decide_eq_true_eq, decide_eq_false_iff_not] at d1 d2
      unfold codeI
      rw [if_pos (by omega)]
    have HV := Lib.hid hv
    clear hv
    go_enter Try.func30, Try.ntmps30
    go_wp2
    go_ret
    exact ⟨ret_eq (by rw [HV.out]; rfl), HBL.out _⟩
  · have hv : codeI a b c d = -1 := by
      simp only [decide_eq_true_eq, decide_eq_false_iff_not] at d1 d2 d3
      unfold codeI
      rw [if_pos (by omega)]
    have HV := Lib.hid hv
    clear hv
    go_enter Try.func30, Try.ntmps30
    go_wp2
    go_ret
    exact ⟨ret_eq (by rw [HV.out]; rfl), HBL.out _⟩
  · have hv : codeI a b c d = -1 := by
      simp only [decide_eq_true_eq, decide_eq_false_iff_not] at d1 d2 d3 d4
      unfold codeI
      rw [if_pos (by omega)]
    have HV := Lib.hid hv
    clear hv
    go_enter Try.func30, Try.ntmps30
    go_wp2
    go_ret
    exact ⟨ret_eq (by rw [HV.out]; rfl), HBL.out _⟩
  · have hv : codeI a b c d = -1 := by
      simp only [decide_eq_true_eq, decide_eq_false_iff_not] at d1 d2 d3 d4 d5
      unfold codeI
      rw [if_pos (by omega)]
    have HV := Lib.hid hv
    clear hv
    go_enter Try.func30, Try.ntmps30
    go_wp2
    go_ret
    exact ⟨ret_eq (by rw [HV.out]; rfl), HBL.out _⟩
  · have hv : codeI a b c d = -1 := by
      simp only [decide_eq_true_eq, decide_eq_false_iff_not] at d1 d2 d3 d4 d5 d6
      unfold codeI
      rw [if_pos (by omega)]
    have HV := Lib.hid hv
    clear hv
    go_enter Try.func30, Try.ntmps30
    go_wp2
    go_ret
    exact ⟨ret_eq (by rw [HV.out]; rfl), HBL.out _⟩
  · have e1 : 0 ≤ a ∧ a ≤ 13 ∧ 0 ≤ c ∧ c ≤ 3 ∧ 0 ≤ d ∧ d ≤ 3 := by
      simp only [decide_eq_false_iff_not] at d1 d2 d3 d4 d5 d6
      omega
    have hv : codeI a b c d = a + 32 * c + 128 * d + (if b = true then 16 else 0) := by
      unfold codeI
      rw [if_neg (by omega)]
    have HV := Lib.hid hv
    clear hv
    cases b
    all_goals
      go_enter Try.func30, Try.ntmps30
      go_wp2
      go_ret
      exact ⟨ret_eq (by rw [HV.out]; simp; try omega), HBL.out _⟩
end Go.Proofs.Ythagaoakeniikaa
