/- UcdCodes (13.1, 13.3) answers true at every property and every number, and turns nothing. No conditions. -/
import Derived.Test.YthagaoakeniikaaUcdD
import Derived.Test.YthagaoakeniikaaFrame
import Derived.Test.YthagaoakeniikaaRows
import Derived.Test.YthagaoakeniikaaGrow
import Derived.ProofKit
import Derived.Lib.SmallJoins
import Derived.Deep.Slices
namespace Go.Proofs.Ythagaoakeniikaa.lawUcdCodes
open Go.ChangeShapes Go.WideShapes Go.ChangeAt Go.RowKit
open Go.Joins Go.Deep
theorem cells_prop : Try.prog.cellsOf 26 = 4 := by kernel_rfl
theorem cells_int : Try.prog.cellsOf 3 = 1 := by kernel_rfl
theorem cells_bool : Try.prog.cellsOf 4 = 1 := by kernel_rfl
def okP (a c d : Int) : Bool := decide (0 ≤ a) && decide (a ≤ 13) && decide (0 ≤ c) && decide (c ≤ 3) && decide (0 ≤ d) && decide (d ≤ 3)
theorem code_ok (a : Int) (b : Bool) (c d : Int) : (decide (0 ≤ codeI a b c d) = true ∧ unV (codeI a b c d) = .agg #[.int .i64 a, .bool b, .int .i64 c, .int .i64 d]) ∨ decide (0 ≤ codeI a b c d) = false := by
  unfold codeI
  by_cases h : a < 0 ∨ 13 < a ∨ c < 0 ∨ 3 < c ∨ d < 0 ∨ 3 < d
  · rw [if_pos h]; exact .inr (by decide)
  · rw [if_neg h]
    have h' : 0 ≤ a ∧ a ≤ 13 ∧ 0 ≤ c ∧ c ≤ 3 ∧ 0 ≤ d ∧ d ≤ 3 := by omega
    clear h
    refine .inl ⟨by simp; split <;> omega, ?_⟩
    unfold unV okN
    cases b
    · rw [if_pos (by simp; omega)]
      simp
      omega
    · rw [if_pos (by simp; omega)]
      simp
      omega
theorem code_un (n : Int) (h : okN n = true) : codeI (n % 16) (n / 16 % 2 == 1) (n / 32 % 4) (n / 128) = n := by
  unfold okN at h
  simp only [Bool.and_eq_true, decide_eq_true_eq] at h
  unfold codeI
  rw [if_neg (by omega)]
  by_cases h2 : n / 16 % 2 = 1
  · simp [h2]; omega
  · simp [h2]; omega
theorem pbox (w : World) (a : Int) (b : Bool) (c d : Int) : ∃ W, W = w.alloc (.cells #[Value.int .i64 a, .bool b, .int .i64 c, .int .i64 d] 26) ∧ Has W w.heap.size [Value.int .i64 a, .bool b, .int .i64 c, .int .i64 d] 26 ∧ Below w.heap.size w W :=
  ⟨_, rfl, Has.new w _ _, (Below.refl _ _).alloc (Nat.le_refl _) _⟩
theorem uprop_val (n : Int) (v : Value) (h : unV n = v) (w : World) : Calls Try.prog 31 #[.int .i64 n] w (Gives w v) := h ▸ uprop_any n w
theorem code_self (a : Int) (b : Bool) (c d : Int) (n : Int) (h : codeI a b c d = n) (w : World) : Calls Try.prog 30 #[.agg #[.int .i64 a, .bool b, .int .i64 c, .int .i64 d]] w (Gives w (.int .i64 n)) := h ▸ rcode_any a b c d w
set_option maxRecDepth 100000 in
set_option maxHeartbeats 2000000 in
theorem walkV (w : World) (a : Int) (b : Bool) (c d n : Int) : Calls Try.prog 8 #[.agg #[.int .i64 a, .bool b, .int .i64 c, .int .i64 d], .int .i64 n] w (Yes w) := by
  have q1 := prop_eql
  have q2 := prop_neq
  have q3 := propEq_self
  have hcode := code_ok a b c d
  rcases hcode with ⟨hc, hun⟩ | hc
  all_goals
    go_enter Try.func8, Try.ntmps8
    go_wp2_with fail
    obtain ⟨W, hW, hb, hl⟩ := pbox w a b c d
    rw [← hW]
    have HB := Lib.hid hb
    have HL := Lib.hid hl
    have e0 := ext_cell (hb.cell 0 _ rfl)
    have e1 := ext_cell (hb.cell 1 _ rfl)
    have e2 := ext_cell (hb.cell 2 _ rfl)
    have e3 := ext_cell (hb.cell 3 _ rfl)
    clear hb hl hW
    refine wp_region_ext (by kernel_rfl) (by kernel_rfl) ?_
    repeat (go_big_quiet_step ((first | (go_at_call 28; exact callx (works13_any _)) | (go_at_call 29; exact callx (code_any a b c d _)) | (go_at_call 30; exact callx (rcode_any a b c d _)))))
    refine wpQuiet_nil ?_
    intro _ hw'
    obtain ⟨u, hw''⟩ := hw'
    subst hw''
    obtain ⟨W2, hW2⟩ : ∃ W2, W2 = ext W u := ⟨_, rfl⟩
    rw [← hW2]
    have hb2 : Has W2 w.heap.size [Value.int .i64 a, .bool b, .int .i64 c, .int .i64 d] 26 := by rw [hW2]; exact HB.out.below u.ok HB.out.lt
    have hl2 : Below w.heap.size w W2 := by rw [hW2]; exact ext_below HL.out u
    clear e0 e1 e2 e3 HB HL hW2
    have HL2 := Lib.hid hl2
    have e0 := ext_cell (hb2.cell 0 _ rfl)
    have e1 := ext_cell (hb2.cell 1 _ rfl)
    have e2 := ext_cell (hb2.cell 2 _ rfl)
    have e3 := ext_cell (hb2.cell 3 _ rfl)
    clear hb2 hl2
    go_wp2_with fail
    refine wp_region_ext (by kernel_rfl) (by kernel_rfl) ?_
    repeat (go_big_quiet_step ((first | (go_at_call 30; exact callx (rcode_any a b c d _)) | (go_at_call 29; exact callx (code_any a b c d _)) | (go_at_call 31; exact callx (uprop_val _ _ hun _)))))
    refine wpQuiet_nil ?_
    intro _ hw'
    obtain ⟨u, hw''⟩ := hw'
    subst hw''
    obtain ⟨W3, hW3⟩ : ∃ W3, W3 = ext W2 u := ⟨_, rfl⟩
    rw [← hW3]
    have hl3 : Below w.heap.size w W3 := by rw [hW3]; exact ext_below HL2.out u
    clear e0 e1 e2 e3 HL2 hW3
    clear hc
    rcases un_cases n with ⟨d1, hs⟩ | ⟨d1, d2, hs⟩ | ⟨n0, d1, d2, d3, hs⟩ | ⟨n0, n1, d1, d2, d3, hs⟩
    · have hv : unV n = .agg #[.int .i64 0, .bool false, .int .i64 0, .int .i64 0] := by unfold unV; rw [hs]; rfl
      go_wp2_with fail
      refine (uprop_val n _ hv _).mono ?_
      rintro e w4 ⟨rfl, b4⟩
      have hl4 := hl3.trans (b4.mono hl3.size)
      have HL4 := Lib.hid (hl4.alloc hl4.size (.cells #[.int .i64 0, .bool false, .int .i64 0, .int .i64 0] 26))
      clear hv hs hl3 hl4 b4
      go_wp2
      go_ret
      exact ⟨(ret_eq (by first | rfl | (simp <;> omega))), HL4.out⟩
    · have hv : unV n = .agg #[.int .i64 0, .bool false, .int .i64 0, .int .i64 0] := by unfold unV; rw [hs]; rfl
      have d2' : decide (511 < n) = true := by simp at d2 ⊢; omega
      go_wp2_with fail
      refine (uprop_val n _ hv _).mono ?_
      rintro e w4 ⟨rfl, b4⟩
      have hl4 := hl3.trans (b4.mono hl3.size)
      have HL4 := Lib.hid (hl4.alloc hl4.size (.cells #[.int .i64 0, .bool false, .int .i64 0, .int .i64 0] 26))
      clear hv hs hl3 hl4 b4
      go_wp2
      go_ret
      exact ⟨(ret_eq (by first | rfl | (simp <;> omega))), HL4.out⟩
    · have hv : unV n = .agg #[.int .i64 0, .bool false, .int .i64 0, .int .i64 0] := by unfold unV; rw [hs]; rfl
      have d2' : decide (511 < n) = false := by simp at d2 ⊢; omega
      go_wp2_with fail
      refine (uprop_val n _ hv _).mono ?_
      rintro e w4 ⟨rfl, b4⟩
      have hl4 := hl3.trans (b4.mono hl3.size)
      have HL4 := Lib.hid (hl4.alloc hl4.size (.cells #[.int .i64 0, .bool false, .int .i64 0, .int .i64 0] 26))
      clear hv hs hl3 hl4 b4
      go_wp2
      go_ret
      exact ⟨(ret_eq (by first | rfl | (simp <;> omega))), HL4.out⟩
    · have hv : unV n = .agg #[.int .i64 (n % 16), .bool (n / 16 % 2 == 1), .int .i64 (n / 32 % 4), .int .i64 (n / 128)] := by unfold unV; rw [hs]; rfl
      have d2' : decide (511 < n) = false := by simp at d2 ⊢; omega
      have HC := Lib.hid (code_self _ _ _ _ n (code_un n hs))
      go_wp2_with fail
      refine (uprop_val n _ hv _).mono ?_
      rintro e w4 ⟨rfl, b4⟩
      have hl4 := hl3.trans (b4.mono hl3.size)
      have HL4 := Lib.hid (hl4.alloc hl4.size (.cells #[.int .i64 (n % 16), .bool (n / 16 % 2 == 1), .int .i64 (n / 32 % 4), .int .i64 (n / 128)] 26))
      clear hv hs hl3 hl4 b4
      go_wp2_with fail
      refine (HC.out _).mono ?_
      rintro e w5 ⟨rfl, b5⟩
      have hl5 := HL4.out.trans (b5.mono HL4.out.size)
      go_wp2
      go_ret
      exact ⟨(ret_eq (by first | rfl | (simp <;> omega))), hl5⟩
set_option maxRecDepth 100000 in
theorem open_prop {H : Type} {enc : TypeId × Value → H} {W : World} {base : Nat} {v : Value} {d : DataW H} {p : List MemPlace} (hv : Value.okWide Try.prog W .any base 26 v) (h : DataW.Trod enc Try.prog W 0 (fun _ => true) true 26 v d p) :
    ∃ (a : Int) (b : Bool) (c e : Int), v = .agg #[.int .i64 a, .bool b, .int .i64 c, .int .i64 e] := by
  obtain ⟨v0, v1, v2, v3, y0, y1, y2, y3, n, rfl, _, _, h0, h1, h2, h3⟩ := open_agg4 Try.underlying26 (by kernel_rfl) cells_prop hv h
  obtain ⟨a, e0, _, _⟩ := DataW.trod_int Try.underlying3 h0
  obtain ⟨b, e1, _⟩ := DataW.trod_bool Try.underlying4 h1
  obtain ⟨c, e2, _, _⟩ := DataW.trod_int Try.underlying3 h2
  obtain ⟨e, e3, _, _⟩ := DataW.trod_int Try.underlying3 h3
  simp at e0 e1 e2 e3
  subst e0 e1 e2 e3
  exact ⟨a, b, c, e, rfl⟩
set_option maxRecDepth 100000 in
theorem walk {H : Type} {enc : TypeId × Value → H} (W : World) {base : Nat} (v : Value) {d : DataW H} {p : List MemPlace} (hv : Value.okWide Try.prog W .any base 26 v) (h : DataW.Trod enc Try.prog W 0 (fun _ => true) true 26 v d p) (n : Int) (_wn : (Lit.int .i64 n).wf = true) : Calls Try.prog 8 #[v, .int .i64 n] W (Yes W) := by
  obtain ⟨a, b, c, e, rfl⟩ := open_prop hv h
  exact walkV W a b c e n

set_option maxRecDepth 100000 in
theorem lifted (os : Os) (started : os.Started) (H : Type) (enc : TypeId × Value → H) :
    ReturnsInHanded {} Try.checked os 8 .any (Rows.ucdCodesSpec.pre6 enc Try.prog Try.f8 Rows.ucdCodesRow.domain false) (Rows.ucdCodesSpec.post enc Try.prog Try.f8 false true false false) := by
  refine law_frame_plain (C := Try.checked) (tb := 4) (by kernel_rfl) started (by kernel_rfl) Try.func8 (by kernel_rfl) (by kernel_rfl) Try.underlying4 rfl
    (by rw [Try.params8]; intro t ht; simp at ht; rcases ht with rfl | rfl <;> exact ⟨by kernel_rfl, of_decide_eq_true (by kernel_rfl)⟩)
    (by rw [Try.params8]; intro ds hd; match ds, hd with | [_, _], _ => rfl)
    (ChangeSpec.witness6 (enc := enc) (C := Try.checked) false ⟨#[], #[.agg #[.int .i64 0, .bool false, .int .i64 0, .int .i64 0], .int .i64 0], []⟩ 8 (by kernel_rfl) (by kernel_rfl) (by kernel_rfl) (by kernel_rfl)) ?_
  intro W base args ds before hval hA
  rw [Try.params8] at hA hval
  obtain ⟨v0, vs0, d0, ds0, p0, q0, hargs, rfl, rfl, h0, r0⟩ := trodAll_cons hA
  obtain ⟨v1, vs1, d1, ds1, p1, q1, rfl, rfl, rfl, h1, r1⟩ := trodAll_cons r0
  obtain ⟨rfl, rfl, rfl⟩ := trodAll_nil r1
  obtain rfl : args = #[v0, v1] := by cases args; simp_all
  obtain ⟨x1, rfl, rfl, rfl, wx1⟩ := open_int Try.underlying3 (hval 1 3 v1 rfl rfl) h1
  exact walk W v0 (hval 0 26 v0 rfl rfl) h0 x1 wx1

theorem proved : Rows.UcdCodesSaid :=
  OpenClaim.holds_of_wide 8 Try.f8 rfl rfl rfl rfl rfl rfl rfl ⟨rfl, rfl, rfl, rfl, rfl⟩ rfl rfl rfl rfl rfl (by kernel_rfl) Try.func8 (by kernel_rfl)
    (of_decide_eq_true (by kernel_rfl)) (by unfold Func.isWrapper; first | (rw [if_pos (by decide +kernel)]; kernel_rfl) | (rw [if_neg (by decide +kernel)]; exact ⟨rfl, rfl⟩))
    (fun os started H enc _ => lifted os started H enc)
#print axioms proved

end Go.Proofs.Ythagaoakeniikaa.lawUcdCodes
