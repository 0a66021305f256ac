/- ScalarPuts (1.2) answers true at every list of numbers, and turns nothing. Conditions: api's eight errors and errors.errorType read as their initialisers lay them (tied to the program's text by the card). -/
import Derived.Test.YtblmjemgfpbdlaaDoorScalarW
import Derived.Test.YtblmjemgfpbdlaaDoorScalarQ
import Derived.Test.YtblmjemgfpbdlaaDoorErrL
import Derived.Test.YtblmjemgfpbdlaaDoorCards
import Derived.Test.YtblmjemgfpbdlaaDoorTie
namespace Go.Proofs.YtblmjemgfpbdlaaDoor.lawScalarPuts
open Go.ChangeShapes Go.WideShapes Go.ChangeAt Go.RowKit

theorem repl_valid (x : Int) : validB (repl x) = true := by
  unfold repl
  split
  · assumption
  · decide

set_option maxRecDepth 100000 in
set_option maxHeartbeats 1000000 in
theorem walk_ok (v : Value) (xs : List Int) (w : World) (hh : Held .i32 w v xs) (hvalid : ∀ i, i < xs.length → validB (xs.getD i 0) = true) (hlen5 : xs.length ≤ 5000) :
    Calls Tryd.prog 4 #[v] w (Yes w) := by
  have hlen : xs.length ≤ 1000000000 := by omega
  have HV := Lib.hid hvalid
  clear hvalid
  obtain ⟨ao0, cap0, rfl⟩ := hh.len
  have h5 : ¬ (5000 : Int) < (xs.length : Int) := by omega
  go_enter Tryd.func4, Tryd.ntmps4
  go_wp2_with fail
  refine (works_any _).mono ?_
  rintro e w1 ⟨rfl, b1⟩
  have hl1 := hh.below b1
  go_wp2_with fail
  refine (put_ok _ xs _ hl1 HV.out hlen).mono ?_
  rintro e w2 ⟨v2, rfl, h2, b2⟩
  have hl2 := hl1.below b2
  go_wp2_with fail
  refine (refput_ok _ xs _ hl2 HV.out hlen).mono ?_
  rintro e w3 ⟨v3, rfl, h3, b3⟩
  have hl := hl2.below b3
  have h2' := h2.below b3
  have hb0 : Below w.heap.size w w3 := (b1.trans (b2.mono b1.size)).trans (b3.mono (Nat.le_trans b1.size b2.size))
  clear hl1 hl2 hh b2 b3 h2
  go_wp2_with fail
  refine (bytes_any _ _ _ _ _ h2' h3).mono ?_
  rintro e w' ⟨rfl, rfl⟩
  rw [beq_self_eq_true]
  clear h2' h3
  · have hlr : ∀ i, i < (xs.map repl).length → validB ((xs.map repl).getD i 0) = true := by
      intro i hi
      simp at hi
      simp only [List.getD, List.getElem?_map, List.getElem?_eq_getElem hi, Option.map_some, Option.getD_some]
      exact repl_valid _
    have HLR := Lib.hid hlr
    clear hlr
    go_wp2_with fail
    refine (replace_any _ xs _ hl hlen).mono ?_
    rintro e w6 ⟨v6, rfl, hm6, b6⟩
    have hl6 := hl.below b6
    have hb6 : Below w.heap.size w w6 := hb0.trans (b6.mono hb0.size)
    have HC := Lib.hid hl6.spots
    have HM := Lib.hid hm6
    obtain ⟨am, capm, rfl, hcm⟩ := hm6.view
    have HCM := Lib.hid hcm
    have HB6 := Lib.hid hb6
    clear hcm b6 hb6 hb0 hl hl6 hm6 b1
    rw [List.length_map]
    go_wp2_with fail
    go_loop [8] (fun i => ∃ k : Nat, k ≤ xs.length ∧ i = .int .i64 k) (fun i => xs.length - (intOf i).toNat)
    case atStart => exact ⟨0, Nat.zero_le _, rfl⟩
    case round =>
      obtain ⟨m, hm, rfl⟩ := hrel
      by_cases hlm : m < xs.length
      · obtain ⟨b, off, rfl, hb, hcx⟩ := HC.out m hlm
        obtain ⟨bm, offm, rfl, hbm, hcmx⟩ := HCM.out m (by simpa using hlm)
        obtain ⟨x, hx⟩ : ∃ x, x = xs.getD m 0 := ⟨_, rfl⟩
        have hxm : (xs.map repl).getD m 0 = repl x := by rw [hx]; simp [List.getD, List.getElem?_map, List.getElem?_eq_getElem hlm]
        rw [← hx] at hcx
        rw [hxm] at hcmx
        clear hx hxm
        cases hvx : validB x with
        | true =>
          have HV := Lib.hid hvx
          rw [show repl x = x from by unfold repl; rw [if_pos hvx]] at hcmx
          clear hvx
          go_wp2_with fail
          refine (refvalid_any _ _).mono ?_
          rintro e w' ⟨rfl, rfl⟩
          rw [HV.out]
          go_wp2
          go_round
          case rel => exact ⟨m + 1, by omega, by go_num⟩
          case measure => simp [intOf]; omega
        | false =>
          have HV := Lib.hid hvx
          rw [show repl x = 65533 from by unfold repl; rw [if_neg (by rw [hvx]; decide)]] at hcmx
          clear hvx
          go_wp2_with fail
          refine (refvalid_any _ _).mono ?_
          rintro e w' ⟨rfl, rfl⟩
          rw [HV.out]
          go_wp2
          go_round
          case rel => exact ⟨m + 1, by omega, by go_num⟩
          case measure => simp [intOf]; omega
      · go_wp2_with fail
        refine (put_ok _ (xs.map repl) _ (by simpa using HM.out) HLR.out (by simpa using hlen)).mono ?_
        rintro e w7 ⟨v7, rfl, _, b7⟩
        have hb7 : Below w.heap.size w w7 := HB6.out.trans (b7.mono HB6.out.size)
        clear b7
        go_wp2
        go_ret
        exact ⟨rfl, hb7⟩

set_option maxRecDepth 100000 in
set_option maxHeartbeats 1000000 in
theorem walk_bad (v : Value) (xs : List Int) (w : World) (hh : Held .i32 w v xs) (sa : Nat → Addr) (hs : Sents w sa) (hg : Handle w) (j : Nat) (hj : j < xs.length) (hbad : validB (xs.getD j 0) = false) (hvalid : ∀ i, i < j → validB (xs.getD i 0) = true) (hlen5 : xs.length ≤ 5000) :
    Calls Tryd.prog 4 #[v] w (Yes w) := by
  have hlen : xs.length ≤ 1000000000 := by omega
  have HV := Lib.hid hvalid
  have HBD := Lib.hid hbad
  clear hvalid hbad
  obtain ⟨ao0, cap0, rfl⟩ := hh.len
  have h5 : ¬ (5000 : Int) < (xs.length : Int) := by omega
  go_enter Tryd.func4, Tryd.ntmps4
  go_wp2_with fail
  refine (works_any _).mono ?_
  rintro e w1 ⟨rfl, b1⟩
  have hl1 := hh.below b1
  have hs1 := hs.below b1
  have hg1 := hg.keep b1
  go_wp2_with fail
  refine (put_bad _ xs _ hl1 sa hs1 j hj HBD.out HV.out hlen).mono ?_
  rintro e w2 ⟨e2, rfl, he2, b2⟩
  have hl2 := hl1.below b2
  have hs2 := hs1.below b2
  have hg2 := hg1.keep b2
  go_wp2_with fail
  refine (refput_bad _ xs _ hl2 j hj HBD.out HV.out hlen).mono ?_
  rintro e w3 ⟨rfl, b3⟩
  have hl3 := hl2.below b3
  have hs3 := hs2.below b3
  have hg3 := hg2.keep b3
  have he3 := he2.keep b3
  have hb3 : Below w.heap.size w w3 := (b1.trans (b2.mono b1.size)).trans (b3.mono (Nat.le_trans b1.size b2.size))
  have HG3 := Lib.hid hg3
  clear hl1 hl2 hh b2 b3 he2 hs hs1 hs2 hg hg1 hg2 hg3
  obtain ⟨T, u, rfl, _⟩ := he3.iface
  go_wp2_with fail
  refine (bytes_any _ _ [] [] _ (Held.nil _ _) (Held.nil _ _)).mono ?_
  rintro e w' ⟨rfl, rfl⟩
  rw [beq_self_eq_true]
  go_wp2_with fail
  refine (code_any sa _ hs3 _ [(j : Int)] 1 (.inr he3)).mono ?_
  rintro e w' ⟨rfl, rfl⟩
  go_wp2_with fail
  refine (at_any sa _ HG3.out _ [(j : Int)] 1 (.inr he3)).mono ?_
  rintro e w4 ⟨rfl, b4⟩
  have hl := hl3.below b4
  have hb0 : Below w.heap.size w w4 := hb3.trans (b4.mono hb3.size)
  clear hl3 b4 hb3 he3 hs3
  rw [show ([(j : Int)].headD (-1)) = (j : Int) from rfl]
  · have hlr : ∀ i, i < (xs.map repl).length → validB ((xs.map repl).getD i 0) = true := by
      intro i hi
      simp at hi
      simp only [List.getD, List.getElem?_map, List.getElem?_eq_getElem hi, Option.map_some, Option.getD_some]
      exact repl_valid _
    have HLR := Lib.hid hlr
    clear hlr
    go_wp2_with fail
    refine (replace_any _ xs _ hl hlen).mono ?_
    rintro e w6 ⟨v6, rfl, hm6, b6⟩
    have hl6 := hl.below b6
    have hb6 : Below w.heap.size w w6 := hb0.trans (b6.mono hb0.size)
    have HC := Lib.hid hl6.spots
    have HM := Lib.hid hm6
    obtain ⟨am, capm, rfl, hcm⟩ := hm6.view
    have HCM := Lib.hid hcm
    have HB6 := Lib.hid hb6
    clear hcm b6 hb6 hb0 hl hl6 hm6 b1
    rw [List.length_map]
    go_wp2_with fail
    go_loop [8] (fun i => ∃ k : Nat, k ≤ xs.length ∧ i = .int .i64 k) (fun i => xs.length - (intOf i).toNat)
    case atStart => exact ⟨0, Nat.zero_le _, rfl⟩
    case round =>
      obtain ⟨m, hm, rfl⟩ := hrel
      by_cases hlm : m < xs.length
      · obtain ⟨b, off, rfl, hb, hcx⟩ := HC.out m hlm
        obtain ⟨bm, offm, rfl, hbm, hcmx⟩ := HCM.out m (by simpa using hlm)
        obtain ⟨x, hx⟩ : ∃ x, x = xs.getD m 0 := ⟨_, rfl⟩
        have hxm : (xs.map repl).getD m 0 = repl x := by rw [hx]; simp [List.getD, List.getElem?_map, List.getElem?_eq_getElem hlm]
        rw [← hx] at hcx
        rw [hxm] at hcmx
        clear hx hxm
        cases hvx : validB x with
        | true =>
          have HV := Lib.hid hvx
          rw [show repl x = x from by unfold repl; rw [if_pos hvx]] at hcmx
          clear hvx
          go_wp2_with fail
          refine (refvalid_any _ _).mono ?_
          rintro e w' ⟨rfl, rfl⟩
          rw [HV.out]
          go_wp2
          go_round
          case rel => exact ⟨m + 1, by omega, by go_num⟩
          case measure => simp [intOf]; omega
        | false =>
          have HV := Lib.hid hvx
          rw [show repl x = 65533 from by unfold repl; rw [if_neg (by rw [hvx]; decide)]] at hcmx
          clear hvx
          go_wp2_with fail
          refine (refvalid_any _ _).mono ?_
          rintro e w' ⟨rfl, rfl⟩
          rw [HV.out]
          go_wp2
          go_round
          case rel => exact ⟨m + 1, by omega, by go_num⟩
          case measure => simp [intOf]; omega
      · go_wp2_with fail
        refine (put_ok _ (xs.map repl) _ (by simpa using HM.out) HLR.out (by simpa using hlen)).mono ?_
        rintro e w7 ⟨v7, rfl, _, b7⟩
        have hb7 : Below w.heap.size w w7 := HB6.out.trans (b7.mono HB6.out.size)
        clear b7
        go_wp2
        go_ret
        exact ⟨rfl, hb7⟩

theorem walk_long (v : Value) (xs : List Int) (w : World) (hh : Held .i32 w v xs) (hlen5 : ¬ xs.length ≤ 5000) : Calls Tryd.prog 4 #[v] w (Yes w) := by
  obtain ⟨ao0, cap0, rfl⟩ := hh.len
  have h5 : (5000 : Int) < (xs.length : Int) := by omega
  go_enter Tryd.func4, Tryd.ntmps4
  go_wp2_with fail
  refine (works_any _).mono ?_
  rintro e w1 ⟨rfl, b1⟩
  go_wp2_with fail
  refine (works_any _).mono ?_
  rintro e w2 ⟨rfl, b2⟩
  have hb : Below w.heap.size w w2 := b1.trans (b2.mono b1.size)
  clear b1 b2
  go_wp2
  go_ret
  exact ⟨rfl, hb⟩

theorem first_bad (xs : List Int) : (∀ i, i < xs.length → validB (xs.getD i 0) = true) ∨ ∃ j, j < xs.length ∧ validB (xs.getD j 0) = false ∧ ∀ i, i < j → validB (xs.getD i 0) = true := by
  induction xs with
  | nil => exact .inl fun i hi => by simp at hi
  | cons x xs ih =>
    cases hx : validB x with
    | false => exact .inr ⟨0, by simp, by simpa using hx, fun i hi => by omega⟩
    | true =>
      rcases ih with h | ⟨j, h1, h2, h3⟩
      · refine .inl fun i hi => ?_
        cases i with
        | zero => simpa using hx
        | succ i => simpa using h i (by simpa using hi)
      · refine .inr ⟨j + 1, by simpa using h1, by simpa using h2, fun i hi => ?_⟩
        cases i with
        | zero => simpa using hx
        | succ i => simpa using h3 i (by omega)

theorem walk {W : World} (v : Value) (xs : List Int) (hh : Held .i32 W v xs) (hL : laidMetH Tryd.prog Rows.scalarPutsRow.laid W) : Calls Tryd.prog 4 #[v] W (Yes W) := by
  by_cases h5 : xs.length ≤ 5000
  · rcases first_bad xs with h | ⟨j, h1, h2, h3⟩
    · exact walk_ok v xs W hh h h5
    · obtain ⟨hg, sa, hs⟩ := errs_of_laid hL
      exact walk_bad v xs W hh sa hs hg j h1 h2 h3 h5
  · exact walk_long v xs W hh h5

theorem door_met (os : Os) : laidMetH Tryd.prog Rows.scalarPutsRow.laid ((World.doorLaid Tryd.prog 400 os).forCall (fun _ _ => 0) ⟨#[], #[.slice none 0 0], []⟩).memory :=
  laidMetH_of_parts3 (fuel := 8) (laidMet_of_run' 8 (by kernel_rfl) (by kernel_rfl)) (by kernel_rfl) (by kernel_rfl)

set_option maxRecDepth 100000 in
theorem lifted (os : Os) (started : os.Started) (H : Type) (enc : TypeId × Value → H) :
    ReturnsInHanded {} Tryd.checked os 4 .any (fun w args => (Rows.scalarPutsSpec.pre enc Tryd.prog Tryd.f4 [] false w args ∧ laidMetH Tryd.prog Rows.scalarPutsRow.laid w) ∧ sizedMet enc Tryd.prog Tryd.f4 (OpenSpec.ofChange Rows.scalarPutsSpec) false w args)
      (Rows.scalarPutsSpec.post enc Tryd.prog Tryd.f4 false true false false) := by
  refine law_frame (C := Tryd.checked) (tb := 4) (by kernel_rfl) started (by kernel_rfl) Tryd.func4 (by kernel_rfl) (by kernel_rfl) Tryd.underlying4 rfl
    (by rw [Tryd.params4]; intro t ht; simp at ht; subst ht <;> exact ⟨by kernel_rfl, of_decide_eq_true (by kernel_rfl)⟩)
    (by rw [Tryd.params4]; intro ds hd; match ds, hd with | [_], _ => rfl)
    (ChangeSpec.witness_shaped (enc := enc) (C := Tryd.checked) (os := os) (X := fun w _ => laidMetH Tryd.prog Rows.scalarPutsRow.laid w) false (World.doorLaid Tryd.prog 400 os) #[.slice none 0 0] 8 rfl (World.shaped_of_RefB (by kernel_rfl) (by kernel_rfl)) (by kernel_rfl) (by kernel_rfl) (by kernel_rfl) (door_met os)) ?_
  intro W base args ds before hval hA hsz hL
  rw [Tryd.params4] at hA hval
  obtain ⟨v0, vs0, d0, ds0, p0, q0, hargs, rfl, rfl, h0, r0⟩ := trodAll_cons hA
  obtain ⟨rfl, rfl, rfl⟩ := trodAll_nil r0
  obtain rfl : args = #[v0] := by cases args; simp_all
  obtain ⟨x0, hx0, wx0⟩ := held_arg Tryd.underlying28 Tryd.underlying21 (by kernel_rfl) (hval 0 28 v0 rfl rfl) h0
  exact walk v0 x0 hx0 hL

theorem said : Rows.ScalarPutsSaid :=
  OpenClaim.holds_of_wide 4 Tryd.f4 rfl rfl rfl rfl rfl rfl rfl ⟨rfl, rfl, rfl, rfl, rfl⟩ rfl rfl rfl rfl rfl (by kernel_rfl) Tryd.func4 (by kernel_rfl)
    (of_decide_eq_true (by kernel_rfl)) (by unfold Func.isWrapper; first | (rw [if_pos (by decide +kernel)]; kernel_rfl) | (rw [if_neg (by decide +kernel)]; exact ⟨rfl, rfl⟩))
    (fun os started H enc _ => lifted os started H enc)

theorem plain (f : FuncId) (fn : Func) (hf : Tryd.pinned.checked.prog.funcNamed "linotype/linotypelaw01.ScalarPuts" = some f) (hfn : Tryd.pinned.checked.prog.funcs[f]? = some fn) :
    true = Tryd.pinned.checked.prog.looks [] ∧ ∀ (j : Nat) t, fn.params[j]? = some t → Tryd.pinned.checked.prog.wantsStandIn t = false := by
  obtain rfl : f = 4 := Option.some.inj ((show Tryd.prog.funcNamed "linotype/linotypelaw01.ScalarPuts" = some 4 by kernel_rfl).symm.trans hf) |>.symm
  obtain rfl : fn = Tryd.f4 := (Option.some.inj (Tryd.func4.symm.trans hfn)).symm
  refine ⟨by kernel_rfl, fun j t ht => ?_⟩
  rw [Tryd.params4] at ht
  have hm : t ∈ [28] := by simpa using Array.mem_of_getElem? ht
  have hall : ([28].all fun u => !Tryd.prog.wantsStandIn u) = true := by kernel_rfl
  exact (show Tryd.prog.wantsStandIn t = false by simpa using List.all_eq_true.1 hall t hm)

/-- THE CARD. -/
theorem card : Rows.ScalarPutsCardSaid :=
  Claim7.holds_tied_plain_at .later [] _ _ _ _ said (fun _ h => by cases h) (by kernel_rfl) (fun _ h => by cases h) scalarPuts_row_tie rfl ⟨rfl, rfl⟩ (by kernel_rfl) rfl plain (by kernel_rfl)
#print axioms card
end Go.Proofs.YtblmjemgfpbdlaaDoor.lawScalarPuts
