import Derived.Test.YtblmjemgfpbdlaaDoorScalarR
import Derived.Test.YtblmjemgfpbdlaaDoorErrB
namespace Go.Proofs.YtblmjemgfpbdlaaDoor
open Go.RowKit

def PutOk (w : World) (L : List Int) (e : Ending) (w' : World) : Prop := ∃ v', e = .returned (.tuple #[v', .nilIface]) ∧ Held .u8 w' v' L ∧ Below w.heap.size w w'

/-- The bytes of the first k. -/
def putL (xs : List Int) (k : Nat) : List Int := (xs.take k).flatMap formL
theorem putL_len (xs : List Int) (k : Nat) : (putL xs k).length ≤ 4 * k := by
  unfold putL
  induction xs generalizing k with
  | nil => simp
  | cons x xs ih =>
    cases k with
    | zero => simp
    | succ k => have := ih k; have := formL_len x; simp only [List.take_succ_cons, List.flatMap_cons, List.length_append]; omega
theorem putL_succ (xs : List Int) (k : Nat) (h : k < xs.length) : putL xs (k + 1) = putL xs k ++ formL (xs.getD k 0) := by
  unfold putL
  rw [List.take_succ_eq_append_getElem h, List.flatMap_append]
  simp [List.getD, List.getElem?_eq_getElem h]
def PutRel (w : World) (xs : List Int) (k : Nat) (v : Value) (wr : World) : Prop := wr.ownsRow w.heap.size 5 1 v (putL xs k).length ((putL xs k).map (Value.int .u8)) ∧ Below w.heap.size w wr

set_option maxRecDepth 100000 in
theorem put_ok (v : Value) (xs : List Int) (w : World) (hh : Held .i32 w v xs) (hvalid : ∀ i, i < xs.length → validB (xs.getD i 0) = true) (hlen : xs.length ≤ 1000000000) :
    Calls Tryd.prog 14 #[v] w (PutOk w (xs.flatMap formL)) := by
  obtain ⟨ao, cap, rfl, hc⟩ := hh.view
  have HC := Lib.hid hc
  have HV := Lib.hid hvalid
  clear hc hvalid hh
  go_enter Tryd.func14, Tryd.ntmps14
  go_wp2
  go_loop [11] (fun i => ∃ k : Nat, k ≤ xs.length ∧ i = .int .i64 k) (fun i => xs.length - (intOf i).toNat)
  case atStart => exact ⟨0, Nat.zero_le _, rfl⟩
  case round =>
    obtain ⟨k, hk, rfl⟩ := hrel
    by_cases hlt : k < xs.length
    · obtain ⟨b, off, rfl, hb, hcx⟩ := HC.out k hlt
      have hvx := HV.out k hlt
      generalize xs.getD k 0 = x at hcx hvx
      have hvx := Lib.hid hvx
      go_wp2_with fail
      refine (valid_any _ _).mono ?_
      rintro e w' ⟨rfl, rfl⟩
      rw [hvx.out]
      go_wp2
      go_round
      case rel => exact ⟨k + 1, by omega, by go_num⟩
      case measure => simp [intOf]; omega
    · go_wp2
      go_loopw [25, 6] (fun i v wr => ∃ k : Nat, k ≤ xs.length ∧ i = .int .i64 k ∧ PutRel w xs k v wr) (fun i _ _ => xs.length - (intOf i).toNat)
      case atStart => exact ⟨0, Nat.zero_le _, rfl, World.ownsRow_nil _ _ _ _, Below.refl _ _⟩
      case round =>
        obtain ⟨m, hm, rfl, hrel⟩ := hrel
        by_cases hlm : m < xs.length
        · obtain ⟨b, off, rfl, hb, hcx⟩ := HC.out m hlm
          obtain ⟨x, hx⟩ : ∃ x, x = xs.getD m 0 := ⟨_, rfl⟩
          rw [← hx] at hcx
          have hcx := (hrel.2.cell (p := ⟨b, off + m, none⟩) hb).trans hcx
          have HX := Lib.hid hx
          clear hx
          have hle := putL_len xs m
          go_wp2_with fail
          refine (append_any w.heap.size _ _ (putL xs m) x _ hrel.1 hrel.2.size (by omega)).mono ?_
          rintro e w1 ⟨v1, rfl, hown1, hb1⟩
          have hrel1 : PutRel w xs (m + 1) v1 w1 := by
            rw [HX.out] at hown1
            refine ⟨?_, hrel.2.trans hb1⟩
            rw [putL_succ xs m hlm, List.length_append]
            exact hown1
          clear hown1 hb1 hrel hcx
          go_wp2
          go_roundw
          case rel => exact ⟨m + 1, by omega, by go_num, hrel1⟩
          case measure => simp [intOf]; omega
        · go_wp2
          go_ret2
          have hkk : m = xs.length := by omega
          subst hkk
          have := held_of_owns hrel.1
          exact ⟨_, rfl, by simpa [putL] using this, hrel.2⟩

def PutBad (sa : Nat → Addr) (w : World) (k : Int) (e : Ending) (w' : World) : Prop := ∃ e', e = .returned (.tuple #[.slice none 0 0, e']) ∧ IsErr sa w' e' [k] 1 ∧ Below w.heap.size w w'

set_option maxRecDepth 100000 in
theorem put_bad (v : Value) (xs : List Int) (w : World) (hh : Held .i32 w v xs) (sa : Nat → Addr) (hs : Sents w sa) (m : Nat) (hm : m < xs.length) (hbad : validB (xs.getD m 0) = false) (hvalid : ∀ i, i < m → validB (xs.getD i 0) = true) (hlen : xs.length ≤ 1000000000) :
    Calls Tryd.prog 14 #[v] w (PutBad sa w m) := by
  obtain ⟨ao, cap, rfl, hc⟩ := hh.view
  have hs0 := hs.cell 0 (by decide)
  simp only [glob] at hs0
  have HC := Lib.hid hc
  have HV := Lib.hid hvalid
  have HB := Lib.hid hbad
  clear hc hvalid hh hs hbad
  go_enter Tryd.func14, Tryd.ntmps14
  go_wp2
  go_loop [11] (fun i => ∃ k : Nat, k ≤ m ∧ i = .int .i64 k) (fun i => xs.length - (intOf i).toNat)
  case atStart => exact ⟨0, Nat.zero_le _, rfl⟩
  case round =>
    obtain ⟨k, hk, rfl⟩ := hrel
    have hlt : k < xs.length := by omega
    obtain ⟨b, off, rfl, hb, hcx⟩ := HC.out k hlt
    by_cases hkm : k < m
    · have hvx := HV.out k hkm
      generalize xs.getD k 0 = x at hcx hvx
      have hvx := Lib.hid hvx
      go_wp2_with fail
      refine (valid_any _ _).mono ?_
      rintro e w' ⟨rfl, rfl⟩
      rw [hvx.out]
      go_wp2
      go_round
      case rel => exact ⟨k + 1, by omega, by go_num⟩
      case measure => simp [intOf]; omega
    · obtain rfl : k = m := by omega
      have hvx := HB.out
      generalize xs.getD k 0 = x at hcx hvx
      have hvx := Lib.hid hvx
      go_wp2_with fail
      refine (valid_any _ _).mono ?_
      rintro e w' ⟨rfl, rfl⟩
      rw [hvx.out]
      go_wp2_with fail
      refine (wrong_any _ _ _ _).mono ?_
      rintro e w' ⟨rfl, rfl⟩
      go_wp2
      go_ret2
      refine ⟨_, rfl, .fault _ 0 _ _ [] 1 ?_ ?_ (.sent 0 (by decide)), (Below.refl _ _).alloc (Nat.le_refl _) _⟩
      · simp
      · simp
end Go.Proofs.YtblmjemgfpbdlaaDoor
