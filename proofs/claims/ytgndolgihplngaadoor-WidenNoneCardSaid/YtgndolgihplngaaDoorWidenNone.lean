/- WidenNone (35.1, 35.2) answers true at every number and every property, and turns nothing. No condition. -/
import Derived.Test.YtgndolgihplngaaDoorWidW
import Derived.Test.YtgndolgihplngaaDoorMg1
import Derived.Test.YtgndolgihplngaaDoorCards
import Derived.Test.YtgndolgihplngaaDoorTie
import Derived.OpenShut
import Derived.ProofKit
namespace Go.Proofs.YtgndolgihplngaaDoor.lawWidenNone
open Go.ChangeShapes Go.WideShapes Go.ChangeAt Go.RowKit
set_option maxRecDepth 100000 in
set_option maxHeartbeats 6000000 in
theorem walkH (w : World) (x br : Int) (pc : Bool) (cv ea : Int) : Calls Tryd.prog 6 #[.int .i32 x, .agg #[.int .i64 br, .bool pc, .int .i64 cv, .int .i64 ea]] w (Yes w) := by
  obtain ⟨W1, hW1, hp, hb⟩ := wgbox w br pc cv ea
  obtain ⟨gq, hgq⟩ : ∃ gq, gq = w.heap.size := ⟨_, rfl⟩
  rw [← hgq] at hp
  have HGQ := Lib.hid hgq
  have HQ1 := Lib.hid hp
  have B1 := Lib.hid hb
  have HNW := Lib.hid (pnew_any 2 2 W1)
  rw [show rowN 2 = 2 from rfl] at HNW
  clear hp hb hgq
  go_enter Tryd.func6, Tryd.ntmps6
  go_upto_region 1 with (fail)
  rw [← hW1, ← HGQ.out]
  clear hW1
  go_wp2_with fail
  refine HNW.out.mono ?_
  rintro e w2 ⟨gp, gg, gr, R0, rfl, h2, b2⟩
  have HQ2 := Lib.hid (HQ1.out.below b2 HQ1.out.lt)
  have B2 := Lib.hid (B1.out.trans (b2.mono B1.out.size))
  clear h2 b2 HNW HQ1 B1
  have q0 := HQ2.out.cell 0 _ rfl
  have q1 := HQ2.out.cell 1 _ rfl
  have q2 := HQ2.out.cell 2 _ rfl
  have q3 := HQ2.out.cell 3 _ rfl
  go_wp2_with fail
  refine (wbegin_nil x br pc cv ea w2).mono ?_
  rintro e w3 ⟨rfl, b3⟩
  have HQ3 := Lib.hid (HQ2.out.below b3 HQ2.out.lt)
  have B3 := Lib.hid (B2.out.trans (b3.mono B2.out.size))
  clear b3 q0 q1 q2 q3 HQ2 B2
  have hb5 := (Below.refl w3.heap.size w3).alloc (Nat.le_refl _) (.cells [Value.pointer none, .int .i64 0, .int .i64 0, .bool false, .bool false].toArray 38)
  have hn5 := Has.new w3 [Value.pointer none, .int .i64 0, .int .i64 0, .bool false, .bool false] 38
  obtain ⟨w4, hw4⟩ : ∃ w4, w4 = w3.alloc (.cells [Value.pointer none, .int .i64 0, .int .i64 0, .bool false, .bool false].toArray 38) := ⟨_, rfl⟩
  have HQ4 := Lib.hid (show Has w4 gq _ 64 from by rw [hw4]; exact HQ3.out.below hb5 HQ3.out.lt)
  have B4 := Lib.hid (show Below w.heap.size w w4 from by rw [hw4]; exact B3.out.trans (hb5.mono B3.out.size))
  have HBE := Lib.hid (show Calls Tryd.prog 26 #[.pointer (some ⟨w3.heap.size, 0, none⟩), .int .i32 x, .agg #[.int .i64 br, .bool pc, .int .i64 cv, .int .i64 ea]] w4 (Gives w4 (.pointer none)) from by rw [hw4]; exact wbegin_empty w3.heap.size _ x br pc cv ea _ hn5)
  have HW4 := Lib.hid (show w4 = w3.alloc (.cells #[Value.pointer none, .int .i64 0, .int .i64 0, .bool false, .bool false] 38) from hw4)
  have q0 := HQ4.out.cell 0 _ rfl
  have q1 := HQ4.out.cell 1 _ rfl
  have q2 := HQ4.out.cell 2 _ rfl
  have q3 := HQ4.out.cell 3 _ rfl
  rw [hw4] at q0 q1 q2 q3
  clear hb5 hn5 hw4 HQ3 B3
  go_wp2_with fail
  rw [← HW4.out]
  refine HBE.out.mono ?_
  rintro e w5 ⟨rfl, b5⟩
  have HQ5 := Lib.hid (HQ4.out.below b5 HQ4.out.lt)
  have B5 := Lib.hid (B4.out.trans (b5.mono B4.out.size))
  clear b5 q0 q1 q2 q3 HQ4 B4 HBE HW4
  have q0 := HQ5.out.cell 0 _ rfl
  have q1 := HQ5.out.cell 1 _ rfl
  have q2 := HQ5.out.cell 2 _ rfl
  have q3 := HQ5.out.cell 3 _ rfl
  go_wp2_with fail
  refine (wjoin_nil (some ⟨gp, 0, none⟩) x br pc cv ea w5).mono ?_
  rintro e w6 ⟨rfl, b6⟩
  have B6 := Lib.hid (B5.out.trans (b6.mono B5.out.size))
  have k1 := cur_self 0 0 false
  clear b6 q0 q1 q2 q3 HQ5 B5
  go_wp2_with fail
  refine (wat_nil w6).mono ?_
  rintro e w7 ⟨rfl, b7⟩
  have B7 := Lib.hid (B6.out.trans (b7.mono B6.out.size))
  clear b7 B6
  go_wp2_with fail
  refine (wwide_nil w7).mono ?_
  rintro e wz ⟨rfl, rfl⟩
  go_wp2_with fail
  refine (wtxt_nil w7).mono ?_
  rintro e wz ⟨rfl, rfl⟩
  go_wp2_with fail
  refine (works35_any w7).mono ?_
  rintro e w8 ⟨rfl, b8⟩
  have HF := Lib.hid (B7.out.trans (b8.mono B7.out.size))
  clear b8
  go_wp2
  go_ret
  exact ⟨(ret_eq (by first | rfl | (simp <;> omega))), HF.out⟩
set_option maxRecDepth 100000 in
theorem walk {H : Type} {enc : TypeId × Value → H} (W : World) (x : Int) (_ : (Lit.int .i32 x).wf = true) (v : Value) {base' : Nat} {d' : DataW H} {p' : List MemPlace} (hv' : Value.okWide Tryd.prog W .any base' 64 v) (h' : DataW.Trod enc Tryd.prog W 0 (fun _ => true) true 64 v d' p') (_ : laidMetH Tryd.prog Rows.widenNoneRow.laid W) : Calls Tryd.prog 6 #[.int .i32 x, v] W (Yes W) := by
  have hE2 := opens_four (P := Tryd.prog) Tryd.underlying64 (by kernel_rfl) rfl rfl rfl rfl (opens_int (k := .i64) Tryd.underlying3 (by kernel_rfl)) (opens_bool Tryd.underlying4 (by kernel_rfl)) (opens_int (k := .i64) Tryd.underlying3 (by kernel_rfl)) (opens_int (k := .i64) Tryd.underlying3 (by kernel_rfl))
  obtain ⟨cs2, ⟨br, pc, cv, ea⟩, rfl, ⟨D1, D2, hcs2, rfl, D3, D4, rfl, rfl, D5, D6, rfl, rfl, rfl⟩, _⟩ := opens_struct Tryd.underlying64 hE2 hv' h'
  obtain rfl : cs2 = #[.int .i64 br, .bool pc, .int .i64 cv, .int .i64 ea] := by
    apply Array.toList_inj.1
    rw [hcs2]
    rfl
  exact walkH W x br pc cv ea

theorem door_met (os : Os) : laidMetH Tryd.prog Rows.widenNoneRow.laid ((World.doorLaid Tryd.prog 400 os).forCall (fun _ _ => 0) ⟨#[], #[.int .i32 0, .agg #[.int .i64 0, .bool false, .int .i64 0, .int .i64 0]], []⟩).memory :=
  laidMetH_of_parts3 (fuel := 8) (laidMet_of_run' 8 (by kernel_rfl) (by kernel_rfl)) (by kernel_rfl) (by kernel_rfl)

set_option maxRecDepth 100000 in
theorem lifted (os : Os) (started : os.Started) (H : Type) (enc : TypeId × Value → H) :
    ReturnsInHanded {} Tryd.checked os 6 .any (fun w args => (Rows.widenNoneSpec.pre enc Tryd.prog Tryd.f6 [] false w args ∧ laidMetH Tryd.prog Rows.widenNoneRow.laid w) ∧ sizedMet enc Tryd.prog Tryd.f6 (OpenSpec.ofChange Rows.widenNoneSpec) false w args)
      (Rows.widenNoneSpec.post enc Tryd.prog Tryd.f6 false true false false) := by
  refine law_frame (C := Tryd.checked) (tb := 4) (by kernel_rfl) started (by kernel_rfl) Tryd.func6 (by kernel_rfl) (by kernel_rfl) Tryd.underlying4 rfl
    (by rw [Tryd.params6]; intro t ht; simp at ht; rcases ht with rfl | rfl <;> exact ⟨by kernel_rfl, of_decide_eq_true (by kernel_rfl)⟩)
    (by rw [Tryd.params6]; intro ds hd; match ds, hd with | [_, _], _ => rfl)
    (ChangeSpec.witness_shaped (enc := enc) (C := Tryd.checked) (os := os) (X := fun w _ => laidMetH Tryd.prog Rows.widenNoneRow.laid w) false (World.doorLaid Tryd.prog 400 os) #[.int .i32 0, .agg #[.int .i64 0, .bool false, .int .i64 0, .int .i64 0]] 8 rfl (World.shaped_of_RefB (by kernel_rfl) (by kernel_rfl)) (by kernel_rfl) (by kernel_rfl) (by kernel_rfl) (door_met os)) ?_
  intro W base args ds before hval hA hsz hL
  rw [Tryd.params6] at hA hval
  obtain ⟨v0, vs0, d0, ds0, p0, q0, hargs, rfl, rfl, h0, r0⟩ := trodAll_cons hA
  obtain ⟨v1, vs1, d1, ds1, p1, q1, rfl, rfl, rfl, h1, r1⟩ := trodAll_cons r0
  obtain ⟨rfl, rfl, rfl⟩ := trodAll_nil r1
  obtain rfl : args = #[v0, v1] := by cases args; simp_all
  obtain ⟨x0, rfl, rfl, rfl, wx0⟩ := open_int Tryd.underlying21 (hval 0 21 v0 rfl rfl) h0
  exact walk W x0 wx0 v1 (hval 1 64 v1 rfl rfl) h1 hL

theorem said : Rows.WidenNoneSaid :=
  OpenClaim.holds_of_wide 6 Tryd.f6 rfl rfl rfl rfl rfl rfl rfl ⟨rfl, rfl, rfl, rfl, rfl⟩ rfl rfl rfl rfl rfl (by kernel_rfl) Tryd.func6 (by kernel_rfl)
    (of_decide_eq_true (by kernel_rfl)) (by unfold Func.isWrapper; first | (rw [if_pos (by decide +kernel)]; kernel_rfl) | (rw [if_neg (by decide +kernel)]; exact ⟨rfl, rfl⟩))
    (fun os started H enc _ => lifted os started H enc)

theorem plain (f : FuncId) (fn : Func) (hf : Tryd.pinned.checked.prog.funcNamed "linotype/linotypelaw35.WidenNone" = some f) (hfn : Tryd.pinned.checked.prog.funcs[f]? = some fn) :
    true = Tryd.pinned.checked.prog.looks [] ∧ ∀ (j : Nat) t, fn.params[j]? = some t → Tryd.pinned.checked.prog.wantsStandIn t = false := by
  obtain rfl : f = 6 := Option.some.inj ((show Tryd.prog.funcNamed "linotype/linotypelaw35.WidenNone" = some 6 by kernel_rfl).symm.trans hf) |>.symm
  obtain rfl : fn = Tryd.f6 := (Option.some.inj (Tryd.func6.symm.trans hfn)).symm
  refine ⟨by kernel_rfl, fun j t ht => ?_⟩
  rw [Tryd.params6] at ht
  have hm : t ∈ [21, 64] := by simpa using Array.mem_of_getElem? ht
  have hall : ([21, 64].all fun u => !Tryd.prog.wantsStandIn u) = true := by kernel_rfl
  exact (show Tryd.prog.wantsStandIn t = false by simpa using List.all_eq_true.1 hall t hm)

/-- THE CARD. -/
theorem card : Rows.WidenNoneCardSaid :=
  Claim7.holds_tied_plain_at .later [] _ _ _ _ said (fun _ h => by cases h) (by kernel_rfl) (fun _ h => by cases h) widenNone_row_tie rfl ⟨rfl, rfl⟩ (by kernel_rfl) rfl plain (by kernel_rfl)
#print axioms card

end Go.Proofs.YtgndolgihplngaaDoor.lawWidenNone
