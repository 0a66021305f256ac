/- FeedNone (37.1) answers true at every row of bytes and every number, and turns nothing. No condition. -/
import Derived.Test.YtoeggiplcaegoaaGreatDoorFedW
import Derived.Test.YtoeggiplcaegoaaGreatDoorMg1
import Derived.Test.YtoeggiplcaegoaaGreatDoorMg3
import Derived.Test.YtoeggiplcaegoaaGreatDoorCards
import Derived.Test.YtoeggiplcaegoaaGreatDoorTie
import Derived.ProofKit
namespace Go.Proofs.YtoeggiplcaegoaaGreatDoor.lawFeedNone
open Go.ChangeShapes Go.WideShapes Go.ChangeAt Go.RowKit
set_option maxRecDepth 100000 in
set_option maxHeartbeats 6000000 in
theorem walkH (w : World) (v : Value) (x : Int) : Calls Tryz.prog 4 #[v, .int .i32 x] w (Yes w) := by
  go_enter Tryz.func4, Tryz.ntmps4
  go_wp2_with fail
  refine (fbytes_nil v w).mono ?_
  rintro e wz ⟨rfl, rfl⟩
  go_wp2_with fail
  refine (frune_nil x w).mono ?_
  rintro e wz ⟨rfl, rfl⟩
  go_wp2_with fail
  refine (fflush_nil w).mono ?_
  rintro e wz ⟨rfl, rfl⟩
  go_wp2_with fail
  refine (fclose_nil w).mono ?_
  rintro e wz ⟨rfl, rfl⟩
  go_wp2_with fail
  refine (fheld_nil w).mono ?_
  rintro e wz ⟨rfl, rfl⟩
  go_wp2_with fail
  refine (fopen_nil w).mono ?_
  rintro e wz ⟨rfl, rfl⟩
  go_wp2_with fail
  refine (fnew_nil w).mono ?_
  rintro e w3 ⟨rfl, b3⟩
  have hb5 := (Below.refl w3.heap.size w3).alloc (Nat.le_refl _) (.cells [Value.pointer none, .int .i64 0, .int .i64 0, .bool false, .bool false].toArray 42)
  have hn5 := Has.new w3 [Value.pointer none, .int .i64 0, .int .i64 0, .bool false, .bool false] 42
  obtain ⟨w4, hw4⟩ : ∃ w4, w4 = w3.alloc (.cells [Value.pointer none, .int .i64 0, .int .i64 0, .bool false, .bool false].toArray 42) := ⟨_, rfl⟩
  have B4 := Lib.hid (show Below w.heap.size w w4 from by rw [hw4]; exact b3.trans (hb5.mono b3.size))
  have HBE := Lib.hid (show Calls Tryz.prog 29 #[.pointer (some ⟨w3.heap.size, 0, none⟩)] w4 (Gives w4 (.pointer none)) from by rw [hw4]; exact fnew_empty w3.heap.size _ _ hn5)
  have HW4 := Lib.hid (show w4 = w3.alloc (.cells #[Value.pointer none, .int .i64 0, .int .i64 0, .bool false, .bool false] 42) from hw4)
  clear hb5 hn5 hw4 b3
  go_wp2_with fail
  rw [← HW4.out]
  refine HBE.out.mono ?_
  rintro e w5 ⟨rfl, b5⟩
  have B5 := Lib.hid (B4.out.trans (b5.mono B4.out.size))
  clear b5 B4 HBE HW4
  go_wp2_with fail
  refine (works37_any w5).mono ?_
  rintro e w8 ⟨rfl, b8⟩
  have HF := Lib.hid (B5.out.trans (b8.mono B5.out.size))
  clear b8
  go_wp2
  go_ret
  exact ⟨(ret_eq (by first | rfl | (simp <;> omega))), HF.out⟩
theorem walk {H : Type} {enc : TypeId × Value → H} (W : World) (v : Value) {base : Nat} {d : DataW H} {p : List MemPlace} (_ : Value.okWide Tryz.prog W .any base 55 v) (_ : DataW.Trod enc Tryz.prog W 0 (fun _ => true) true 55 v d p) (x : Int) (_ : (Lit.int .i32 x).wf = true) (_ : laidMetH Tryz.prog Rows.feedNoneRow.laid W) : Calls Tryz.prog 4 #[v, .int .i32 x] W (Yes W) := walkH W v x

theorem door_met (os : Os) : laidMetH Tryz.prog Rows.feedNoneRow.laid ((World.doorLaid Tryz.prog 400 os).forCall (fun _ _ => 0) ⟨#[], #[.slice none 0 0, .int .i32 0], []⟩).memory :=
  laidMetH_of_parts3 (fuel := 8) (laidMet_of_run' 8 (by kernel_rfl) (by kernel_rfl)) (by kernel_rfl) (by kernel_rfl)

set_option maxRecDepth 100000 in
theorem lifted (os : Os) (started : os.Started) (H : Type) (enc : TypeId × Value → H) :
    ReturnsInHanded {} Tryz.checked os 4 .any (fun w args => (Rows.feedNoneSpec.pre enc Tryz.prog Tryz.f4 [] false w args ∧ laidMetH Tryz.prog Rows.feedNoneRow.laid w) ∧ sizedMet enc Tryz.prog Tryz.f4 (OpenSpec.ofChange Rows.feedNoneSpec) false w args)
      (Rows.feedNoneSpec.post enc Tryz.prog Tryz.f4 false true false false) := by
  refine law_frame (C := Tryz.checked) (tb := 4) (by kernel_rfl) started (by kernel_rfl) Tryz.func4 (by kernel_rfl) (by kernel_rfl) Tryz.underlying4 rfl
    (by rw [Tryz.params4]; intro t ht; simp at ht; rcases ht with rfl | rfl <;> exact ⟨by kernel_rfl, of_decide_eq_true (by kernel_rfl)⟩)
    (by rw [Tryz.params4]; intro ds hd; match ds, hd with | [_, _], _ => rfl)
    (ChangeSpec.witness_shaped (enc := enc) (C := Tryz.checked) (os := os) (X := fun w _ => laidMetH Tryz.prog Rows.feedNoneRow.laid w) false (World.doorLaid Tryz.prog 400 os) #[.slice none 0 0, .int .i32 0] 8 rfl (World.shaped_of_RefB (by kernel_rfl) (by kernel_rfl)) (by kernel_rfl) (by kernel_rfl) (by kernel_rfl) (door_met os)) ?_
  intro W base args ds before hval hA hsz hL
  rw [Tryz.params4] at hA hval
  obtain ⟨v0, vs0, d0, ds0, p0, q0, hargs, rfl, rfl, h0, r0⟩ := trodAll_cons hA
  obtain ⟨v1, vs1, d1, ds1, p1, q1, rfl, rfl, rfl, h1, r1⟩ := trodAll_cons r0
  obtain ⟨rfl, rfl, rfl⟩ := trodAll_nil r1
  obtain rfl : args = #[v0, v1] := by cases args; simp_all
  obtain ⟨x1, rfl, rfl, rfl, wx1⟩ := open_int Tryz.underlying21 (hval 1 21 v1 rfl rfl) h1
  exact walk W v0 (hval 0 55 v0 rfl rfl) h0 x1 wx1 hL

theorem and_two {a b : Bool} (ha : a = true) (hb : b = true) : (a && b) = true := by rw [ha, hb]; rfl
/- The row's own facts, one by one: all at once pass the memory that a process may use. -/
set_option maxRecDepth 100000 in
set_option maxHeartbeats 8000000 in
theorem joined : joinedFacts Tryz.pinned.checked.prog 4 Tryz.f4 Rows.feedNoneSpec Rows.feedNoneRow = true := by
  unfold joinedFacts
  repeat' (with_reducible refine and_two ?_ ?_)
  all_goals (as_aux_lemma => kernel_rfl)
theorem said : Rows.FeedNoneSaid :=
  OpenClaim.holds_of_wide 4 Tryz.f4 rfl rfl rfl rfl rfl rfl rfl ⟨rfl, rfl, rfl, rfl, rfl⟩ rfl rfl rfl rfl rfl (by kernel_rfl) Tryz.func4 joined
    (of_decide_eq_true (by kernel_rfl)) (by unfold Func.isWrapper; first | (rw [if_pos (by decide +kernel)]; kernel_rfl) | (rw [if_neg (by decide +kernel)]; exact ⟨rfl, rfl⟩))
    (fun os started H enc _ => lifted os started H enc)

theorem plain (f : FuncId) (fn : Func) (hf : Tryz.pinned.checked.prog.funcNamed "linotype/linotypelaw37.FeedNone" = some f) (hfn : Tryz.pinned.checked.prog.funcs[f]? = some fn) :
    true = Tryz.pinned.checked.prog.looks [] ∧ ∀ (j : Nat) t, fn.params[j]? = some t → Tryz.pinned.checked.prog.wantsStandIn t = false := by
  obtain rfl : f = 4 := Option.some.inj ((show Tryz.prog.funcNamed "linotype/linotypelaw37.FeedNone" = some 4 by kernel_rfl).symm.trans hf) |>.symm
  obtain rfl : fn = Tryz.f4 := (Option.some.inj (Tryz.func4.symm.trans hfn)).symm
  refine ⟨by kernel_rfl, fun j t ht => ?_⟩
  rw [Tryz.params4] at ht
  have hm : t ∈ [55, 21] := by simpa using Array.mem_of_getElem? ht
  have hall : ([55, 21].all fun u => !Tryz.prog.wantsStandIn u) = true := by kernel_rfl
  exact (show Tryz.prog.wantsStandIn t = false by simpa using List.all_eq_true.1 hall t hm)

/-- THE CARD. -/
theorem card : Rows.FeedNoneCardSaid :=
  Claim7.holds_tied_plain_at .later [] _ _ _ _ said (fun _ h => by cases h) (by kernel_rfl) (fun _ h => by cases h) feedNone_row_tie rfl ⟨rfl, rfl⟩ (by kernel_rfl) rfl plain (by kernel_rfl)
#print axioms card

end Go.Proofs.YtoeggiplcaegoaaGreatDoor.lawFeedNone
