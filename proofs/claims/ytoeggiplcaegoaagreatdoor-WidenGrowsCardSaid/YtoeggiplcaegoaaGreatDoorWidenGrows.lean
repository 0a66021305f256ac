/- WidenGrows (35.1 to 35.3) answers true at all lines, cursors, numbers and properties, and turns nothing. No condition. -/
import Derived.Test.YtoeggiplcaegoaaGreatDoorWidH
import Derived.Test.YtoeggiplcaegoaaGreatDoorMg6
import Derived.Test.YtoeggiplcaegoaaGreatDoorMg1
import Derived.Test.YtoeggiplcaegoaaGreatDoorRows
import Derived.Test.YtoeggiplcaegoaaGreatDoorCards
import Derived.Test.YtoeggiplcaegoaaGreatDoorTie
import Derived.ProofKit
namespace Go.Proofs.YtoeggiplcaegoaaGreatDoor.lawWidenGrows
open Go.ChangeShapes Go.WideShapes Go.ChangeAt Go.RowKit
set_option maxRecDepth 100000 in
theorem walk {H : Type} {enc : TypeId × Value → H} (W : World) (u : Value) {base : Nat} {d : DataW H} {p : List MemPlace} (hv : Value.okWide Tryz.prog W .any base 26 u) (h : DataW.Trod enc Tryz.prog W 0 (fun _ => true) true 26 u d p) (v : Value) {base' : Nat} {d' : DataW H} {p' : List MemPlace} (hv' : Value.okWide Tryz.prog W .any base' 27 v) (h' : DataW.Trod enc Tryz.prog W 0 (fun _ => true) true 27 v d' p') (x : Value) {base'' : Nat} {d'' : DataW H} {p'' : List MemPlace} (hv'' : Value.okWide Tryz.prog W .any base'' 28 x) (h'' : DataW.Trod enc Tryz.prog W 0 (fun _ => true) true 28 x d'' p'') (hL : laidMetH Tryz.prog Rows.widenGrowsRow.laid W) : Calls Tryz.prog 3 #[u, v, x] W (Yes W) := by
  have hE := opens_triple (P := Tryz.prog) Tryz.underlying26 (by kernel_rfl) rfl rfl rfl (opens_slice Tryz.underlying22 (by kernel_rfl) (by decide) (opens_pair Tryz.underlying104 (by kernel_rfl) rfl rfl (opens_slice Tryz.underlying102 (by kernel_rfl) (by decide) (opens_pair Tryz.underlying147 (by kernel_rfl) rfl rfl (opens_int (k := .i64) Tryz.underlying3 (by kernel_rfl)) (opens_slice Tryz.underlying27 (by kernel_rfl) (by decide) (opens_int (k := .i32) Tryz.underlying21 (by kernel_rfl))))) (opens_bool Tryz.underlying4 (by kernel_rfl)))) (opens_triple Tryz.underlying24 (by kernel_rfl) rfl rfl rfl (opens_int (k := .i64) Tryz.underlying3 (by kernel_rfl)) (opens_int (k := .i64) Tryz.underlying3 (by kernel_rfl)) (opens_bool Tryz.underlying4 (by kernel_rfl))) (opens_bool Tryz.underlying4 (by kernel_rfl))
  obtain ⟨cs, ⟨Ls, ⟨P, Q, S⟩, au⟩, rfl, ⟨C1, C2, hcs, ⟨tv, rfl, ht⟩, C3, C4, rfl, ⟨C5, C6, rfl, rfl, C7, C8, rfl, rfl, rfl⟩, rfl⟩, _⟩ := opens_struct Tryz.underlying26 hE hv h
  obtain rfl : cs = #[tv, .int .i64 P, .int .i64 Q, .bool S, .bool au] := by
    apply Array.toList_inj.1
    rw [hcs]
    rfl
  obtain ⟨xs, hx, kx, hw⟩ := heldw_arg Tryz.underlying27 Tryz.underlying21 (by kernel_rfl) hv' h'
  obtain ⟨L, hl⟩ := open_props hv'' h''
  exact walkH W tv v x Ls P Q S au xs L _ ht hx hw hl kx (capW_arg hv'' h'')

theorem door_met (os : Os) : laidMetH Tryz.prog Rows.widenGrowsRow.laid ((World.doorLaid Tryz.prog 400 os).forCall (fun _ _ => 0) ⟨#[], #[.agg #[.slice none 0 0, .int .i64 0, .int .i64 0, .bool false, .bool false], .slice none 0 0, .slice none 0 0], []⟩).memory :=
  laidMetH_of_parts3 (fuel := 8) (laidMet_of_run' 8 (by kernel_rfl) (by kernel_rfl)) (by kernel_rfl) (by kernel_rfl)

set_option maxRecDepth 100000 in
theorem lifted (os : Os) (started : os.Started) (H : Type) (enc : TypeId × Value → H) :
    ReturnsInHanded {} Tryz.checked os 3 .any (fun w args => (Rows.widenGrowsSpec.pre enc Tryz.prog Tryz.f3 [] false w args ∧ laidMetH Tryz.prog Rows.widenGrowsRow.laid w) ∧ sizedMet enc Tryz.prog Tryz.f3 (OpenSpec.ofChange Rows.widenGrowsSpec) false w args)
      (Rows.widenGrowsSpec.post enc Tryz.prog Tryz.f3 false true false false) := by
  refine law_frame (C := Tryz.checked) (tb := 4) (by kernel_rfl) started (by kernel_rfl) Tryz.func3 (by kernel_rfl) (by kernel_rfl) Tryz.underlying4 rfl
    (by rw [Tryz.params3]; intro t ht; simp at ht; rcases ht with rfl | rfl | rfl <;> exact ⟨by kernel_rfl, of_decide_eq_true (by kernel_rfl)⟩)
    (by rw [Tryz.params3]; intro ds hd; match ds, hd with | [_, _, _], _ => rfl)
    (ChangeSpec.witness_shaped (enc := enc) (C := Tryz.checked) (os := os) (X := fun w _ => laidMetH Tryz.prog Rows.widenGrowsRow.laid w) false (World.doorLaid Tryz.prog 400 os) #[.agg #[.slice none 0 0, .int .i64 0, .int .i64 0, .bool false, .bool false], .slice none 0 0, .slice none 0 0] 8 rfl (World.shaped_of_RefB (by kernel_rfl) (by kernel_rfl)) (by kernel_rfl) (by kernel_rfl) (by kernel_rfl) (door_met os)) ?_
  intro W base args ds before hval hA hsz hL
  rw [Tryz.params3] at hA hval
  obtain ⟨v0, vs0, d0, ds0, p0, q0, hargs, rfl, rfl, h0, r0⟩ := trodAll_cons hA
  obtain ⟨v1, vs1, d1, ds1, p1, q1, rfl, rfl, rfl, h1, r1⟩ := trodAll_cons r0
  obtain ⟨v2, vs2, d2, ds2, p2, q2, rfl, rfl, rfl, h2, r2⟩ := trodAll_cons r1
  obtain ⟨rfl, rfl, rfl⟩ := trodAll_nil r2
  obtain rfl : args = #[v0, v1, v2] := by cases args; simp_all

  exact walk W v0 (hval 0 26 v0 rfl rfl) h0 v1 (hval 1 27 v1 rfl rfl) h1 v2 (hval 2 28 v2 rfl rfl) h2 hL

theorem and_two {a b : Bool} (ha : a = true) (hb : b = true) : (a && b) = true := by rw [ha, hb]; rfl
/- The row's own facts, one by one: all at once pass the memory that a process may use. -/
set_option maxRecDepth 100000 in
set_option maxHeartbeats 8000000 in
theorem joined : joinedFacts Tryz.pinned.checked.prog 3 Tryz.f3 Rows.widenGrowsSpec Rows.widenGrowsRow = true := by
  unfold joinedFacts
  repeat' (with_reducible refine and_two ?_ ?_)
  all_goals (as_aux_lemma => kernel_rfl)
theorem said : Rows.WidenGrowsSaid :=
  OpenClaim.holds_of_wide 3 Tryz.f3 rfl rfl rfl rfl rfl rfl rfl ⟨rfl, rfl, rfl, rfl, rfl⟩ rfl rfl rfl rfl rfl (by kernel_rfl) Tryz.func3 joined
    (of_decide_eq_true (by kernel_rfl)) (by unfold Func.isWrapper; first | (rw [if_pos (by decide +kernel)]; kernel_rfl) | (rw [if_neg (by decide +kernel)]; exact ⟨rfl, rfl⟩))
    (fun os started H enc _ => lifted os started H enc)

theorem plain (f : FuncId) (fn : Func) (hf : Tryz.pinned.checked.prog.funcNamed "linotype/linotypelaw35.WidenGrows" = some f) (hfn : Tryz.pinned.checked.prog.funcs[f]? = some fn) :
    true = Tryz.pinned.checked.prog.looks [] ∧ ∀ (j : Nat) t, fn.params[j]? = some t → Tryz.pinned.checked.prog.wantsStandIn t = false := by
  obtain rfl : f = 3 := Option.some.inj ((show Tryz.prog.funcNamed "linotype/linotypelaw35.WidenGrows" = some 3 by kernel_rfl).symm.trans hf) |>.symm
  obtain rfl : fn = Tryz.f3 := (Option.some.inj (Tryz.func3.symm.trans hfn)).symm
  refine ⟨by kernel_rfl, fun j t ht => ?_⟩
  rw [Tryz.params3] at ht
  have hm : t ∈ [26, 27, 28] := by simpa using Array.mem_of_getElem? ht
  have hall : ([26, 27, 28].all fun u => !Tryz.prog.wantsStandIn u) = true := by kernel_rfl
  exact (show Tryz.prog.wantsStandIn t = false by simpa using List.all_eq_true.1 hall t hm)

/-- THE CARD. -/
theorem card : Rows.WidenGrowsCardSaid :=
  Claim7.holds_tied_plain_at .later [] _ _ _ _ said (fun _ h => by cases h) (by kernel_rfl) (fun _ h => by cases h) widenGrows_row_tie rfl ⟨rfl, rfl⟩ (by kernel_rfl) rfl plain (by kernel_rfl)
#print axioms card

end Go.Proofs.YtoeggiplcaegoaaGreatDoor.lawWidenGrows
