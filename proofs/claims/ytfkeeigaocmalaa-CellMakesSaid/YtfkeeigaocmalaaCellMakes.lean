/- CellMakes (23.1, 23.2, 23.4) answers true at every cluster, every number and every list of cells, and turns nothing. No conditions. -/
import Derived.Test.YtfkeeigaocmalaaCellW
import Derived.Test.YtfkeeigaocmalaaCellU
import Derived.Test.YtfkeeigaocmalaaCellS
import Derived.Test.YtfkeeigaocmalaaFrame
import Derived.ProofKit
import Derived.Lib.MinMax
namespace Go.Proofs.Ytfkeeigaocmalaa.lawCellMakes
open Go.ChangeShapes Go.WideShapes Go.ChangeAt Go.RowKit
theorem soundF_app (b : List Cl) : ∀ (a : List Cl) (ld : Bool), soundF ld a = true → soundF ld (a ++ b) = soundF false b
  | [], ld, h => by
    unfold soundF at h
    have : ld = false := by simpa using h
    subst this; rfl
  | c :: a, ld, h => by
    unfold soundF at h
    simp only [Bool.and_eq_true] at h
    show (rightB c && (ld == (c.1 == 3)) && soundF (c.1 == 2) (a ++ b)) = _
    rw [soundF_app b a _ h.2, h.1.1, h.1.2]
    rfl
theorem repl_valid (x : Int) : validB (repl x) = true := by
  unfold repl
  split
  · assumption
  · decide
theorem of_sound (wide : Int) (xs : List Int) : soundB (ofC wide xs) = true := by
  obtain ⟨t, ht⟩ : ∃ t, t = (xs.take 16).map repl := ⟨_, rfl⟩
  have hl : t.length ≤ 16 := by rw [ht]; simp; omega
  have hv : allValid t = true := by
    unfold allValid
    rw [List.all_eq_true, ht]
    intro x hx
    obtain ⟨y, _, rfl⟩ := List.mem_map.1 hx
    exact repl_valid y
  obtain ⟨h1, h2, h3, h4⟩ := ofC_cases wide xs t ht
  by_cases hn : t = [] <;> by_cases hw : 2 ≤ wide
  · rw [h1 hn hw]; decide
  · rw [h2 hn hw]; decide
  · rw [h3 hn hw]
    have hp : 0 < t.length := List.length_pos_iff.2 hn
    show (rightB (2, t) && true && (true && true && true)) = true
    rw [right_text (.inr rfl), decide_eq_true hp, decide_eq_true hl, hv]; rfl
  · rw [h4 hn hw]
    have hp : 0 < t.length := List.length_pos_iff.2 hn
    show (rightB (1, t) && true && true) = true
    rw [right_text (.inl rfl), decide_eq_true hp, decide_eq_true hl, hv]; rfl
theorem blank_sound (m : Nat) : soundB (List.replicate m zc) = true := by
  unfold soundB
  induction m with
  | zero => rfl
  | succ m ih => rw [List.replicate_succ]; show (true && true && soundF false _) = true; rw [ih]; rfl
theorem blank_text (m : Nat) : textL (List.replicate m zc) = [] := by
  unfold textL
  induction m with
  | zero => rfl
  | succ m ih => rw [List.replicate_succ, List.flatMap_cons, ih]; rfl
theorem of_len (wide : Int) (xs : List Int) : (ofC wide xs).length ≤ 2 := by
  obtain ⟨h1, h2, h3, h4⟩ := ofC_cases wide xs _ rfl
  by_cases hn : (xs.take 16).map repl = [] <;> by_cases hw : 2 ≤ wide
  · rw [h1 hn hw]; decide
  · rw [h2 hn hw]; decide
  · rw [h3 hn hw]; simp
  · rw [h4 hn hw]; simp
set_option maxRecDepth 100000 in
set_option maxHeartbeats 4000000 in
theorem walkH (W : World) (wide n : Int) (tv vb : Value) (xs : List Int) (M : List Cl) (Z Y : Zone) (ha : HeldE (intE .i32) Z W tv xs) (hb : HeldE cellE Y W vb M) : Calls Try.prog 5 #[.agg #[.int .i64 wide, tv, .int .i64 n], vb] W (Yes W) := by
  have hla := ha.max
  have hlb := hb.max
  have ha := ha.lower
  have hb := hb.lower
  obtain ⟨ao, ca, rfl⟩ := ha.len
  obtain ⟨bo, cb, rfl⟩ := hb.len
  have HA := Lib.hid ha
  have HB := Lib.hid hb
  clear ha hb
  have HB0 := Lib.hid ((Below.refl W.heap.size W).alloc (Nat.le_refl _) (.cells #[.int .i64 wide, .slice ao xs.length ca, .int .i64 n] 44))
  by_cases h1 : 300 < xs.length ∨ 300 < M.length
  · rcases Nat.lt_or_ge 300 xs.length with h | h
    · clear h1
      go_enter Try.func5, Try.ntmps5
      go_wp2
      go_quiet (fail)
      obtain ⟨wq, hwq⟩ : ∃ wq, wq = (W.alloc (.cells #[.int .i64 wide, .slice ao xs.length ca, .int .i64 n] 44)).drewN nq := ⟨_, rfl⟩
      rw [← hwq]
      have HQ := Lib.hid (show Below W.heap.size W wq from by rw [hwq]; exact HB0.out.drewN nq)
      clear hwq
      go_wp2_with fail
      refine (works23_any _).mono ?_
      rintro e w1 ⟨rfl, b1⟩
      have b1 := HQ.out.trans (b1.mono HQ.out.size)
      go_wp2_with fail
      refine (works23_any _).mono ?_
      rintro e w2 ⟨rfl, b2⟩
      have b2 := b1.trans (b2.mono b1.size)
      go_wp2
      go_ret
      exact ⟨(ret_eq (by first | rfl | (simp <;> omega))), b2⟩
    · have h2 : 300 < M.length := by omega
      clear h1
      go_enter Try.func5, Try.ntmps5
      go_wp2
      go_quiet (fail)
      obtain ⟨wq, hwq⟩ : ∃ wq, wq = (W.alloc (.cells #[.int .i64 wide, .slice ao xs.length ca, .int .i64 n] 44)).drewN nq := ⟨_, rfl⟩
      rw [← hwq]
      have HQ := Lib.hid (show Below W.heap.size W wq from by rw [hwq]; exact HB0.out.drewN nq)
      clear hwq
      go_wp2_with fail
      refine (works23_any _).mono ?_
      rintro e w1 ⟨rfl, b1⟩
      have b1 := HQ.out.trans (b1.mono HQ.out.size)
      go_wp2_with fail
      refine (works23_any _).mono ?_
      rintro e w2 ⟨rfl, b2⟩
      have b2 := b1.trans (b2.mono b1.size)
      go_wp2
      go_ret
      exact ⟨(ret_eq (by first | rfl | (simp <;> omega))), b2⟩
  · have h2 : xs.length ≤ 300 := by omega
    have h3 : M.length ≤ 300 := by omega
    clear h1
    obtain ⟨m, hm⟩ : ∃ m, m = blankN n := ⟨_, rfl⟩
    have hmx : max 0 (min n 1024) = (m : Int) := by rw [hm]; unfold blankN; omega
    have HBL := Lib.hid (fun w => blanks_any (fun _ => True) n w)
    rw [← hm] at HBL
    have HMX := Lib.hid hmx
    clear hm hmx
    go_enter Try.func5, Try.ntmps5
    go_wp2
    go_quiet (fail)
    obtain ⟨wq, hwq⟩ : ∃ wq, wq = (W.alloc (.cells #[.int .i64 wide, .slice ao xs.length ca, .int .i64 n] 44)).drewN nq := ⟨_, rfl⟩
    rw [← hwq]
    have HQ := Lib.hid (show Below W.heap.size W wq from by rw [hwq]; exact HB0.out.drewN nq)
    clear hwq
    go_wp2_with fail
    refine (works23_any _).mono ?_
    rintro e w1 ⟨rfl, b1⟩
    have B1 := Lib.hid (HQ.out.trans (b1.mono HQ.out.size))
    clear b1
    have HE1 := Lib.hid (OwnE.fresh0 (E := intE .i32) (Z := fun _ => True) w1 21 B1.out.size)
    have C1 := Lib.hid (B1.out.alloc B1.out.size (.cells #[] 21))
    have HU1 := Lib.hid ((HA.out.below C1.out).apart HE1.out.lt)
    go_wp2_with (at_builtin; refine wpList_append_e (E := intE .i32) (Z := fun _ => True) rfl (.tmp 31) (.tmp 32) 22 rfl (.int .i32 0) 4 Try.underlying22 info_rune rfl (Nat.lt_succ_self 0) rfl rfl HE1.out HU1.out (by simp; omega) (by simp; omega) C1.out.size ?_)
    intro v2 w2 ho2 hb2 _ _
    have B2 := Lib.hid (C1.out.trans hb2)
    have hh2 := ho2.held (fun _ _ _ => trivial)
    have H2 := Lib.hid hh2
    obtain ⟨a2, c2, rfl⟩ := hh2.len
    clear ho2 hb2 hh2
    go_wp2_with fail
    refine (cof_any (fun _ => True) _ (fun _ => trivial) wide _ xs w2 H2.out).mono ?_
    rintro e w3 ⟨v3, rfl, ho3, b3⟩
    have B3 := Lib.hid (B2.out.trans (b3.mono B2.out.size))
    have D3 := Lib.hid b3
    have H3 := Lib.hid (ho3.held (fun _ _ _ => trivial))
    clear ho3 b3
    go_wp2_with fail
    refine (rcof_any (fun _ => True) _ (fun _ => trivial) wide _ xs w3 (HA.out.below B3.out)).mono ?_
    rintro e w4 ⟨v4, rfl, ho4, b4⟩
    have B4 := Lib.hid (B3.out.trans (b4.mono B3.out.size))
    have D4 := Lib.hid (D3.out.trans (b4.mono D3.out.size))
    have E4 := Lib.hid b4
    have H4 := Lib.hid (ho4.held (fun _ _ _ => trivial))
    clear ho4 b4
    go_wp2_with fail
    refine (rcsame_any _ _ _ _ _ _ w4 (H3.out.below E4.out) H4.out).mono ?_
    rintro e w5 ⟨rfl, b5⟩
    rw [sameC_self]
    have B5 := Lib.hid (B4.out.trans (b5.mono B4.out.size))
    have D5 := Lib.hid (D4.out.trans (b5.mono D4.out.size))
    have E5 := Lib.hid (E4.out.trans (b5.mono E4.out.size))
    clear b5
    go_wp2_with fail
    refine (sound_any _ _ _ w5 (H3.out.below E5.out)).mono ?_
    rintro e w6 ⟨rfl, b6⟩
    rw [of_sound]
    have B6 := Lib.hid (B5.out.trans (b6.mono B5.out.size))
    have D6 := Lib.hid (D5.out.trans (b6.mono D5.out.size))
    have E6 := Lib.hid (E5.out.trans (b6.mono E5.out.size))
    clear b6
    go_wp2_with fail
    refine (same_any _ _ _ _ w6 (H2.out.below D6.out).ints (HA.out.below B6.out).ints hla).mono ?_
    rintro e w7 ⟨rfl, b7⟩
    rw [sameB_self]
    have B7 := Lib.hid (B6.out.trans (b7.mono B6.out.size))
    have E7 := Lib.hid (E6.out.trans (b7.mono E6.out.size))
    clear b7
    go_wp2_with fail
    refine (HBL.out w7).mono ?_
    rintro e w8 ⟨v8, rfl, ho8, b8⟩
    have B8 := Lib.hid (B7.out.trans (b8.mono B7.out.size))
    have E8 := Lib.hid (E7.out.trans (b8.mono E7.out.size))
    have hh8 := ho8.held (fun _ _ _ => trivial)
    have H8 := Lib.hid hh8
    obtain ⟨a8, c8, rfl⟩ := hh8.len
    clear ho8 hh8 b8
    rw [List.length_replicate]
    have hmx := HMX.out
    go_wp2_with fail
    clear hmx
    have hr8 := rsound_any _ _ _ w8 H8.out
    rw [← sound_iff, blank_sound, List.length_replicate] at hr8
    refine hr8.mono ?_
    rintro e w9 ⟨rfl, b9⟩
    have B9 := Lib.hid (B8.out.trans (b9.mono B8.out.size))
    have E9 := Lib.hid (E8.out.trans (b9.mono E8.out.size))
    have F9 := Lib.hid b9
    clear b9 hr8
    go_wp2_with fail
    have ht9 := ctext_any _ _ _ w9 (H8.out.below F9.out) (by rw [blank_text]; decide)
    rw [blank_text, List.length_replicate] at ht9
    refine ht9.mono ?_
    rintro e w10 ⟨v10, rfl, ho10, b10⟩
    have B10 := Lib.hid (B9.out.trans (b10.mono B9.out.size))
    have E10 := Lib.hid (E9.out.trans (b10.mono E9.out.size))
    obtain ⟨a10, c10, rfl⟩ := (ho10.held (fun _ _ _ => trivial)).len
    rw [List.length_nil]
    clear ho10 b10 ht9
    have H10 := Lib.hid (H3.out.below E10.out)
    have hxl := of_len wide xs
    have hxs := of_sound wide xs
    obtain ⟨X, hX⟩ : ∃ X, X = ofC wide xs := ⟨_, rfl⟩
    rw [← hX] at H10 hxl hxs
    have HXS := Lib.hid hxs
    clear hX hxs
    have HE11 := Lib.hid (OwnE.fresh0 (E := cellE) (Z := fun _ => True) w10 37 (Nat.le_refl w10.heap.size))
    have C11 := Lib.hid ((Below.refl w10.heap.size w10).alloc (Nat.le_refl _) (.cells #[] 37))
    have HU11 := Lib.hid ((H10.out.lower.below C11.out).apart HE11.out.lt)
    go_wp2_with (at_builtin; refine wpList_append_e (E := cellE) (Z := fun _ => True) rfl (.tmp 73) (.tmp 74) 34 rfl (.agg #[.int .i64 0, .slice none 0 0]) 32 Try.underlying34 info_cell rfl (by decide) rfl rfl HE11.out HU11.out (by simp; omega) (by simp; omega) C11.out.size ?_)
    intro v12 w12 ho12 hb12 _ _
    have B12 := Lib.hid (C11.out.trans hb12)
    have HO12 := Lib.hid ho12
    have HU12 := Lib.hid (((HB.out.below B10.out).lower.below B12.out).apart ho12.lt)
    clear ho12 hb12
    go_wp2_with (at_builtin; refine wpList_append_e (E := cellE) (Z := fun _ => True) rfl (.tmp 75) (.tmp 76) 34 rfl (.agg #[.int .i64 0, .slice none 0 0]) 32 Try.underlying34 info_cell rfl (by decide) rfl rfl HO12.out HU12.out (by omega) (by omega) B12.out.size ?_)
    intro v13 w13 ho13 hb13 _ _
    have B13 := Lib.hid (B10.out.trans ((B12.out.trans hb13).mono B10.out.size))
    have H13 := Lib.hid (ho13.held (fun _ _ _ => trivial))
    clear ho13 hb13
    go_wp2_with fail
    have hs13 := sound_any _ _ _ w13 H13.out
    rw [show soundB (X ++ M) = soundB M from soundF_app M X false HXS.out] at hs13
    refine hs13.mono ?_
    rintro e w14 ⟨rfl, b14⟩
    have B14 := Lib.hid (B13.out.trans (b14.mono B13.out.size))
    clear b14 hs13
    go_wp2_with fail
    have hs14 := rsound_any _ _ _ w14 (HB.out.below B14.out)
    rw [← sound_iff] at hs14
    refine hs14.mono ?_
    rintro e w15 ⟨rfl, b15⟩
    have B15 := Lib.hid (B14.out.trans (b15.mono B14.out.size))
    clear b15 hs14
    go_wp2
    go_ret
    exact ⟨ret_eq (by simp), B15.out⟩
set_option maxRecDepth 100000 in
theorem walk {H : Type} {enc : TypeId × Value → H} (W : World) {base base' : Nat} (v : Value) {d : DataW H} {p : List MemPlace} (hv : Value.okWide Try.prog W .any base 44 v) (h : DataW.Trod enc Try.prog W 0 (fun _ => true) true 44 v d p)
    (u : Value) {d' : DataW H} {p' : List MemPlace} (hv' : Value.okWide Try.prog W .any base' 34 u) (h' : DataW.Trod enc Try.prog W 0 (fun _ => true) true 34 u d' p') : Calls Try.prog 5 #[v, u] W (Yes W) := by
  have hE := opens_triple (P := Try.prog) Try.underlying44 (by kernel_rfl) rfl rfl rfl (opens_int (k := .i64) Try.underlying3 (by kernel_rfl)) (opens_slice Try.underlying22 (by kernel_rfl) (by decide) (opens_int (k := .i32) Try.underlying21 (by kernel_rfl))) (opens_int (k := .i64) Try.underlying3 (by kernel_rfl))
  obtain ⟨cs, ⟨wide, xs, n⟩, rfl, ⟨C1, C2, hcs, rfl, C3, C4, rfl, ⟨tv, rfl, ht⟩, rfl⟩, _⟩ := opens_struct Try.underlying44 hE hv h
  obtain ⟨M, hM, _⟩ := cells_arg hv' h'
  obtain rfl : cs = #[.int .i64 wide, tv, .int .i64 n] := by
    apply Array.toList_inj.1
    rw [hcs]
    rfl
  exact walkH W wide n tv u xs M _ _ ht hM

set_option maxRecDepth 100000 in
theorem lifted (os : Os) (started : os.Started) (H : Type) (enc : TypeId × Value → H) :
    ReturnsInHanded {} Try.checked os 5 .any (Rows.cellMakesSpec.pre6 enc Try.prog Try.f5 Rows.cellMakesRow.domain false) (Rows.cellMakesSpec.post enc Try.prog Try.f5 false true false false) := by
  refine law_frame_plain (C := Try.checked) (tb := 4) (by kernel_rfl) started (by kernel_rfl) Try.func5 (by kernel_rfl) (by kernel_rfl) Try.underlying4 rfl
    (by rw [Try.params5]; intro t ht; simp at ht; rcases ht with rfl | rfl <;> exact ⟨by kernel_rfl, of_decide_eq_true (by kernel_rfl)⟩)
    (by rw [Try.params5]; intro ds hd; match ds, hd with | [_, _], _ => rfl)
    (ChangeSpec.witness6 (enc := enc) (C := Try.checked) false ⟨#[], #[.agg #[.int .i64 0, .slice none 0 0, .int .i64 0], .slice none 0 0], []⟩ 8 (by kernel_rfl) (by kernel_rfl) (by kernel_rfl) (by kernel_rfl)) ?_
  intro W base args ds before hval hA
  rw [Try.params5] at hA hval
  obtain ⟨v0, vs0, d0, ds0, p0, q0, hargs, rfl, rfl, h0, r0⟩ := trodAll_cons hA
  obtain ⟨v1, vs1, d1, ds1, p1, q1, rfl, rfl, rfl, h1, r1⟩ := trodAll_cons r0
  obtain ⟨rfl, rfl, rfl⟩ := trodAll_nil r1
  obtain rfl : args = #[v0, v1] := by cases args; simp_all

  exact walk W v0 (hval 0 44 v0 rfl rfl) h0 v1 (hval 1 34 v1 rfl rfl) h1

theorem proved : Rows.CellMakesSaid :=
  OpenClaim.holds_of_wide 5 Try.f5 rfl rfl rfl rfl rfl rfl rfl ⟨rfl, rfl, rfl, rfl, rfl⟩ rfl rfl rfl rfl rfl (by kernel_rfl) Try.func5 (by kernel_rfl)
    (of_decide_eq_true (by kernel_rfl)) (by unfold Func.isWrapper; first | (rw [if_pos (by decide +kernel)]; kernel_rfl) | (rw [if_neg (by decide +kernel)]; exact ⟨rfl, rfl⟩))
    (fun os started H enc _ => lifted os started H enc)
#print axioms proved

end Go.Proofs.Ytfkeeigaocmalaa.lawCellMakes
