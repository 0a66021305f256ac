/- ucd.Prop: the property with a code; works of layer 13. -/
import Derived.Test.YthagaoakeniikaaUcdC
namespace Go.Proofs.Ythagaoakeniikaa
open Go.RowKit Go.ChangeShapes Go.WideShapes
def okN (n : Int) : Bool := decide (0 ≤ n) && decide (n < 512) && decide (n % 16 ≤ 13)
def unV (n : Int) : Value := if okN n = true then .agg #[.int .i64 (n % 16), .bool (n / 16 % 2 == 1), .int .i64 (n / 32 % 4), .int .i64 (n / 128)] else .agg #[.int .i64 0, .bool false, .int .i64 0, .int .i64 0]
theorem un_cases (n : Int) : (decide (n < 0) = true ∧ okN n = false) ∨ (decide (n < 0) = false ∧ decide (512 ≤ n) = true ∧ okN n = false) ∨ (0 ≤ n ∧ decide (n < 0) = false ∧ decide (512 ≤ n) = false ∧ decide (13 < n % 16) = true ∧ okN n = false) ∨ (0 ≤ n ∧ n < 512 ∧ decide (n < 0) = false ∧ decide (512 ≤ n) = false ∧ decide (13 < n % 16) = false ∧ okN n = true) := by
  unfold okN
  simp only [decide_eq_true_eq, decide_eq_false_iff_not, Bool.and_eq_true, Bool.and_eq_false_iff]
  omega
set_option maxRecDepth 100000 in
theorem uprop_any (n : Int) (w : World) : Calls Try.prog 31 #[.int .i64 n] w (Gives w (unV n)) := by
  have hbl : ∀ o, Below w.heap.size w (w.alloc o) := fun o => (Below.refl _ _).alloc (Nat.le_refl _) o
  have HBL := Lib.hid hbl
  clear hbl
  rcases un_cases n with ⟨d1, hs⟩ | ⟨d1, d2, hs⟩ | ⟨n0, d1, d2, d3, hs⟩ | ⟨n0, n1, d1, d2, d3, hs⟩
  · have hv : unV n = .agg #[.int .i64 0, .bool false, .int .i64 0, .int .i64 0] := by unfold unV; rw [hs]; rfl
    have HV := Lib.hid hv
    clear hv hs
    go_enter Try.func31, Try.ntmps31
    go_wp2
    exact bodyPost_ret (results_cell_row Try.results31 _ _ w.heap.size 26 #[.int .i64 0, .bool false, .int .i64 0, .int .i64 0] (0, 0) _ rfl (heap_alloc_new w _) Try.underlying26 rfl (by kernel_rfl)) rfl ⟨by rw [HV.out], HBL.out _⟩
  · have hv : unV n = .agg #[.int .i64 0, .bool false, .int .i64 0, .int .i64 0] := by unfold unV; rw [hs]; rfl
    have HV := Lib.hid hv
    clear hv hs
    go_enter Try.func31, Try.ntmps31
    go_wp2
    exact bodyPost_ret (results_cell_row Try.results31 _ _ w.heap.size 26 #[.int .i64 0, .bool false, .int .i64 0, .int .i64 0] (0, 0) _ rfl (heap_alloc_new w _) Try.underlying26 rfl (by kernel_rfl)) rfl ⟨by rw [HV.out], HBL.out _⟩
  · have hv : unV n = .agg #[.int .i64 0, .bool false, .int .i64 0, .int .i64 0] := by unfold unV; rw [hs]; rfl
    have HV := Lib.hid hv
    clear hv hs
    go_enter Try.func31, Try.ntmps31
    go_wp2
    exact bodyPost_ret (results_cell_row Try.results31 _ _ w.heap.size 26 #[.int .i64 0, .bool false, .int .i64 0, .int .i64 0] (0, 0) _ rfl (heap_alloc_new w _) Try.underlying26 rfl (by kernel_rfl)) rfl ⟨by rw [HV.out], HBL.out _⟩
  · have hv : unV n = .agg #[.int .i64 (n % 16), .bool (n / 16 % 2 == 1), .int .i64 (n / 32 % 4), .int .i64 (n / 128)] := by unfold unV; rw [hs]; rfl
    have HV := Lib.hid hv
    clear hv hs
    go_enter Try.func31, Try.ntmps31
    go_wp2
    exact bodyPost_ret (results_cell_row Try.results31 _ _ w.heap.size 26 #[.int .i64 (n % 16), .bool (n / 16 % 2 == 1), .int .i64 (n / 32 % 4), .int .i64 (n / 128)] (0, 0) _ rfl (heap_alloc_new w _) Try.underlying26 rfl (by kernel_rfl)) rfl ⟨by rw [HV.out], HBL.out _⟩
set_option maxRecDepth 100000 in
theorem works13_any (w : World) : Calls Try.prog 28 #[] w (Yes w) := by
  have q1 := prop_eql
  go_enter Try.func28, Try.ntmps28
  go_wp2_with fail
  refine (ucdof_any 128512 _).mono ?_
  rintro e w1 ⟨rfl, b1⟩
  rw [show knownV 128512 = .agg #[.int .i64 0, .bool true, .int .i64 0, .int .i64 1] from by
    unfold knownV
    rw [show gcbI 128512 = 0 from by decide +kernel, show inTab tPict 128512 = true from by decide +kernel, show conjO 128512 = 0 from by decide +kernel, show eastI 128512 = 1 from by decide +kernel]]
  go_wp2_with fail
  refine (code_any 0 true 0 1 _).mono ?_
  rintro e w2 ⟨rfl, b2⟩
  rw [show codeI 0 true 0 1 = 144 from by decide +kernel]
  have b2 := b1.trans (b2.mono b1.size)
  go_wp2_with fail
  refine (ucdof_any 2381 _).mono ?_
  rintro e w3 ⟨rfl, b3⟩
  rw [show knownV 2381 = .agg #[.int .i64 4, .bool false, .int .i64 2, .int .i64 0] from by
    unfold knownV
    rw [show gcbI 2381 = 4 from by decide +kernel, show inTab tPict 2381 = false from by decide +kernel, show conjO 2381 = 2 from by decide +kernel, show eastI 2381 = 0 from by decide +kernel]]
  have b3 := b2.trans (b3.mono b2.size)
  go_wp2_with fail
  refine (code_any 4 false 2 0 _).mono ?_
  rintro e w4 ⟨rfl, b4⟩
  rw [show codeI 4 false 2 0 = 68 from by decide +kernel]
  have b4 := b3.trans (b4.mono b3.size)
  go_wp2_with fail
  refine (uprop_any 68 _).mono ?_
  rintro e w5 ⟨rfl, b5⟩
  rw [show unV 68 = .agg #[.int .i64 4, .bool false, .int .i64 2, .int .i64 0] from by
    unfold unV
    rw [show okN 68 = true from by decide +kernel]
    rfl]
  have b5 := b4.trans (b5.mono b4.size)
  go_wp2
  go_ret
  exact ⟨ret_eq (by first | rfl | decide +kernel | simp [propEq]), b5⟩
end Go.Proofs.Ythagaoakeniikaa
