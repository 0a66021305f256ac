/- The reference's Put, and the capacity of what it hands back. -/
import Derived.Test.YtmfoldohmbaikaaScalarR
import Derived.Test.YtmfoldohmbaikaaUallE
import Derived.Laws.OwnMore
namespace Go.Proofs.Ytmfoldohmbaikaa
open Go.RowKit Go.ChangeShapes Go.WideShapes
theorem own_cap {w : World} {B e size : Nat} {v : Value} {n : Nat} {xs : List Value} (h : w.ownsRow B e size v n xs) : CapOk v := by
  rcases h.2 with ⟨rfl, _⟩ | ⟨g, cap, cur, rfl, _, _, hnc, _⟩
  · exact capOk_of (Nat.le_refl _)
  · exact capOk_of hnc
/-- The bytes of the first k. -/
def putL (xs : List Int) (k : Nat) : List Int := (xs.take k).flatMap formL
theorem putL_len (xs : List Int) (k : Nat) : (putL xs k).length ≤ 4 * k := by
  unfold putL
  induction xs generalizing k with
  | nil => simp
  | cons x xs ih =>
    cases k with
    | zero => simp
    | succ k => have := ih k; have := formL_len x; simp only [List.take_succ_cons, List.flatMap_cons, List.length_append]; omega
theorem putL_succ (xs : List Int) (k : Nat) (h : k < xs.length) : putL xs (k + 1) = putL xs k ++ formL (xs.getD k 0) := by
  unfold putL
  rw [List.take_succ_eq_append_getElem h, List.flatMap_append]
  simp [List.getD, List.getElem?_eq_getElem h]
def PutRel (w : World) (xs : List Int) (k : Nat) (v : Value) (wr : World) : Prop := wr.ownsRow w.heap.size 5 1 v (putL xs k).length ((putL xs k).map (Value.int .u8)) ∧ Below w.heap.size w wr

def RefPutC (w : World) (L : List Int) (e : Ending) (w' : World) : Prop := ∃ v', e = .returned (.tuple #[v', .int .i64 (-1)]) ∧ Held .u8 w' v' L ∧ CapOk v' ∧ Below w.heap.size w w'
set_option maxRecDepth 100000 in
theorem refput_c (v : Value) (xs : List Int) (w : World) (hh : Held .i32 w v xs) (hvalid : ∀ i, i < xs.length → validB (xs.getD i 0) = true) (hlen : xs.length ≤ 1000000000) :
    Calls Try.prog 28 #[v] w (RefPutC w (xs.flatMap formL)) := by
  obtain ⟨ao, cap, rfl, hc⟩ := hh.view
  have HC := Lib.hid hc
  have HV := Lib.hid hvalid
  clear hc hvalid hh
  go_enter Try.func28, Try.ntmps28
  go_wp2
  go_loopw [5, 4] (fun i v wr => ∃ k : Nat, k ≤ xs.length ∧ i = .int .i64 k ∧ PutRel w xs k v wr) (fun i _ _ => xs.length - (intOf i).toNat)
  case atStart => exact ⟨0, Nat.zero_le _, rfl, World.ownsRow_nil _ _ _ _, Below.refl _ _⟩
  case round =>
    obtain ⟨m, hm, rfl, hrel⟩ := hrel
    by_cases hlm : m < xs.length
    · obtain ⟨b, off, rfl, hb, hcx⟩ := HC.out m hlm
      have hvx := HV.out m hlm
      obtain ⟨x, hx⟩ : ∃ x, x = xs.getD m 0 := ⟨_, rfl⟩
      rw [← hx] at hcx hvx
      have hcx := (hrel.2.cell (p := ⟨b, off + m, none⟩) hb).trans hcx
      have HX := Lib.hid hx
      have HV := Lib.hid hvx
      clear hx hvx
      have hle := putL_len xs m
      go_wp2_with fail
      refine (refvalid_any _ _).mono ?_
      rintro e w' ⟨rfl, rfl⟩
      rw [HV.out]
      go_wp2_with fail
      refine (refform_any _ _).mono ?_
      rintro e w1 ⟨v1, rfl, hh1, hb1⟩
      have hfl := formL_len x
      have hown1 := hrel.1
      have hown2 := ownsRow_below hown1 hb1
      go_wp2_with (at_builtin; refine wpList_append_held w1 rfl (.tmp 19) (.tmp 24) 22 rfl w.heap.size 5 (.int .u8 0) 1 Try.underlying22 Try.info5 rfl .u8 _ (putL xs m).length (putL xs m) rfl hown2 v1 (formL x) rfl hh1 (by omega) (by omega) (Nat.le_trans hrel.2.size hb1.size) ?_)
      intro v2 w2 hown3 hb2
      have hrel1 : PutRel w xs (m + 1) v2 w2 := by
        rw [HX.out] at hown3
        refine ⟨?_, (hrel.2.trans (hb1.mono hrel.2.size)).trans hb2⟩
        rw [putL_succ xs m hlm, List.length_append, List.map_append]
        exact hown3
      clear hown1 hown2 hown3 hb1 hb2 hrel hcx hh1
      go_wp2
      go_roundw
      case rel => exact ⟨m + 1, by omega, by go_num, hrel1⟩
      case measure => simp [intOf]; omega
    · go_wp2
      go_ret2
      have hkk : m = xs.length := by omega
      subst hkk
      have := held_of_owns hrel.1
      exact ⟨_, rfl, by simpa [putL] using this, own_cap hrel.1, hrel.2⟩

def RefBad (w : World) (at_ : Int) (e : Ending) (w' : World) : Prop := e = .returned (.tuple #[.slice none 0 0, .int .i64 at_]) ∧ Below w.heap.size w w'

set_option maxRecDepth 100000 in
theorem refput_bad (v : Value) (xs : List Int) (w : World) (hh : Held .i32 w v xs) (j : Nat) (hj : j < xs.length) (hbad : validB (xs.getD j 0) = false) (hvalid : ∀ i, i < j → validB (xs.getD i 0) = true) (hlen : xs.length ≤ 1000000000) :
    Calls Try.prog 28 #[v] w (RefBad w j) := by
  obtain ⟨ao, cap, rfl, hc⟩ := hh.view
  have HC := Lib.hid hc
  have HV := Lib.hid hvalid
  have HB := Lib.hid hbad
  clear hc hvalid hh hbad
  go_enter Try.func28, Try.ntmps28
  go_wp2
  go_loopw [5, 4] (fun i v wr => ∃ k : Nat, k ≤ j ∧ i = .int .i64 k ∧ PutRel w xs k v wr) (fun i _ _ => xs.length - (intOf i).toNat)
  case atStart => exact ⟨0, Nat.zero_le _, rfl, World.ownsRow_nil _ _ _ _, Below.refl _ _⟩
  case round =>
    obtain ⟨m, hm, rfl, hrel⟩ := hrel
    have hlm : m < xs.length := by omega
    obtain ⟨b, off, rfl, hb, hcx⟩ := HC.out m hlm
    by_cases hmj : m < j
    · have hvx := HV.out m hmj
      obtain ⟨x, hx⟩ : ∃ x, x = xs.getD m 0 := ⟨_, rfl⟩
      rw [← hx] at hcx hvx
      have hcx := (hrel.2.cell (p := ⟨b, off + m, none⟩) hb).trans hcx
      have HX := Lib.hid hx
      have HV := Lib.hid hvx
      clear hx hvx
      have hle := putL_len xs m
      go_wp2_with fail
      refine (refvalid_any _ _).mono ?_
      rintro e w' ⟨rfl, rfl⟩
      rw [HV.out]
      go_wp2_with fail
      refine (refform_any _ _).mono ?_
      rintro e w1 ⟨v1, rfl, hh1, hb1⟩
      have hfl := formL_len x
      have hown1 := hrel.1
      have hown2 := ownsRow_below hown1 hb1
      go_wp2_with (at_builtin; refine wpList_append_held w1 rfl (.tmp 19) (.tmp 24) 22 rfl w.heap.size 5 (.int .u8 0) 1 Try.underlying22 Try.info5 rfl .u8 _ (putL xs m).length (putL xs m) rfl hown2 v1 (formL x) rfl hh1 (by omega) (by omega) (Nat.le_trans hrel.2.size hb1.size) ?_)
      intro v2 w2 hown3 hb2
      have hrel1 : PutRel w xs (m + 1) v2 w2 := by
        rw [HX.out] at hown3
        refine ⟨?_, (hrel.2.trans (hb1.mono hrel.2.size)).trans hb2⟩
        rw [putL_succ xs m hlm, List.length_append, List.map_append]
        exact hown3
      clear hown1 hown2 hown3 hb1 hb2 hrel hcx hh1
      go_wp2
      go_roundw
      case rel => exact ⟨m + 1, by omega, by go_num, hrel1⟩
      case measure => simp [intOf]; omega
    · obtain rfl : m = j := by omega
      have hvx := HB.out
      have hcx := (hrel.2.cell (p := ⟨b, off + m, none⟩) hb).trans hcx
      generalize xs.getD m 0 = x at hcx hvx
      have HV := Lib.hid hvx
      clear hvx
      go_wp2_with fail
      refine (refvalid_any _ _).mono ?_
      rintro e w' ⟨rfl, rfl⟩
      rw [HV.out]
      go_wp2
      go_ret2
      exact ⟨rfl, hrel.2⟩

end Go.Proofs.Ytmfoldohmbaikaa
