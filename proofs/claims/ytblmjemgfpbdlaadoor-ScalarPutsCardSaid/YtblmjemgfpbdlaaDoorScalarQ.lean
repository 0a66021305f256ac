/- The reference's Put, and Replace. -/
import Derived.Test.YtblmjemgfpbdlaaDoorScalarP
import Derived.Laws.OwnMore
namespace Go.Proofs.YtblmjemgfpbdlaaDoor
open Go.RowKit

def RefPut (w : World) (L : List Int) (at_ : Int) (e : Ending) (w' : World) : Prop := ∃ v', e = .returned (.tuple #[v', .int .i64 at_]) ∧ Held .u8 w' v' L ∧ Below w.heap.size w w'

set_option maxRecDepth 100000 in
theorem refput_ok (v : Value) (xs : List Int) (w : World) (hh : Held .i32 w v xs) (hvalid : ∀ i, i < xs.length → validB (xs.getD i 0) = true) (hlen : xs.length ≤ 1000000000) :
    Calls Tryd.prog 15 #[v] w (RefPut w (xs.flatMap formL) (-1)) := by
  obtain ⟨ao, cap, rfl, hc⟩ := hh.view
  have HC := Lib.hid hc
  have HV := Lib.hid hvalid
  clear hc hvalid hh
  go_enter Tryd.func15, Tryd.ntmps15
  go_wp2
  go_loopw [5, 4] (fun i v wr => ∃ k : Nat, k ≤ xs.length ∧ i = .int .i64 k ∧ PutRel w xs k v wr) (fun i _ _ => xs.length - (intOf i).toNat)
  case atStart => exact ⟨0, Nat.zero_le _, rfl, World.ownsRow_nil _ _ _ _, Below.refl _ _⟩
  case round =>
    obtain ⟨m, hm, rfl, hrel⟩ := hrel
    by_cases hlm : m < xs.length
    · obtain ⟨b, off, rfl, hb, hcx⟩ := HC.out m hlm
      have hvx := HV.out m hlm
      obtain ⟨x, hx⟩ : ∃ x, x = xs.getD m 0 := ⟨_, rfl⟩
      rw [← hx] at hcx hvx
      have hcx := (hrel.2.cell (p := ⟨b, off + m, none⟩) hb).trans hcx
      have HX := Lib.hid hx
      have HV := Lib.hid hvx
      clear hx hvx
      have hle := putL_len xs m
      go_wp2_with fail
      refine (refvalid_any _ _).mono ?_
      rintro e w' ⟨rfl, rfl⟩
      rw [HV.out]
      go_wp2_with fail
      refine (refform_any _ _).mono ?_
      rintro e w1 ⟨v1, rfl, hh1, hb1⟩
      have hfl := formL_len x
      have hown1 := hrel.1
      have hown2 := ownsRow_below hown1 hb1
      go_wp2_with (at_builtin; refine wpList_append_held w1 rfl (.tmp 19) (.tmp 24) 25 rfl w.heap.size 5 (.int .u8 0) 1 Tryd.underlying25 Tryd.info5 rfl .u8 _ (putL xs m).length (putL xs m) rfl hown2 v1 (formL x) rfl hh1 (by omega) (by omega) (Nat.le_trans hrel.2.size hb1.size) ?_)
      intro v2 w2 hown3 hb2
      have hrel1 : PutRel w xs (m + 1) v2 w2 := by
        rw [HX.out] at hown3
        refine ⟨?_, (hrel.2.trans (hb1.mono hrel.2.size)).trans hb2⟩
        rw [putL_succ xs m hlm, List.length_append, List.map_append]
        exact hown3
      clear hown1 hown2 hown3 hb1 hb2 hrel hcx hh1
      go_wp2
      go_roundw
      case rel => exact ⟨m + 1, by omega, by go_num, hrel1⟩
      case measure => simp [intOf]; omega
    · go_wp2
      go_ret2
      have hkk : m = xs.length := by omega
      subst hkk
      have := held_of_owns hrel.1
      exact ⟨_, rfl, by simpa [putL] using this, hrel.2⟩

def RefBad (w : World) (at_ : Int) (e : Ending) (w' : World) : Prop := e = .returned (.tuple #[.slice none 0 0, .int .i64 at_]) ∧ Below w.heap.size w w'

set_option maxRecDepth 100000 in
theorem refput_bad (v : Value) (xs : List Int) (w : World) (hh : Held .i32 w v xs) (j : Nat) (hj : j < xs.length) (hbad : validB (xs.getD j 0) = false) (hvalid : ∀ i, i < j → validB (xs.getD i 0) = true) (hlen : xs.length ≤ 1000000000) :
    Calls Tryd.prog 15 #[v] w (RefBad w j) := by
  obtain ⟨ao, cap, rfl, hc⟩ := hh.view
  have HC := Lib.hid hc
  have HV := Lib.hid hvalid
  have HB := Lib.hid hbad
  clear hc hvalid hh hbad
  go_enter Tryd.func15, Tryd.ntmps15
  go_wp2
  go_loopw [5, 4] (fun i v wr => ∃ k : Nat, k ≤ j ∧ i = .int .i64 k ∧ PutRel w xs k v wr) (fun i _ _ => xs.length - (intOf i).toNat)
  case atStart => exact ⟨0, Nat.zero_le _, rfl, World.ownsRow_nil _ _ _ _, Below.refl _ _⟩
  case round =>
    obtain ⟨m, hm, rfl, hrel⟩ := hrel
    have hlm : m < xs.length := by omega
    obtain ⟨b, off, rfl, hb, hcx⟩ := HC.out m hlm
    by_cases hmj : m < j
    · have hvx := HV.out m hmj
      obtain ⟨x, hx⟩ : ∃ x, x = xs.getD m 0 := ⟨_, rfl⟩
      rw [← hx] at hcx hvx
      have hcx := (hrel.2.cell (p := ⟨b, off + m, none⟩) hb).trans hcx
      have HX := Lib.hid hx
      have HV := Lib.hid hvx
      clear hx hvx
      have hle := putL_len xs m
      go_wp2_with fail
      refine (refvalid_any _ _).mono ?_
      rintro e w' ⟨rfl, rfl⟩
      rw [HV.out]
      go_wp2_with fail
      refine (refform_any _ _).mono ?_
      rintro e w1 ⟨v1, rfl, hh1, hb1⟩
      have hfl := formL_len x
      have hown1 := hrel.1
      have hown2 := ownsRow_below hown1 hb1
      go_wp2_with (at_builtin; refine wpList_append_held w1 rfl (.tmp 19) (.tmp 24) 25 rfl w.heap.size 5 (.int .u8 0) 1 Tryd.underlying25 Tryd.info5 rfl .u8 _ (putL xs m).length (putL xs m) rfl hown2 v1 (formL x) rfl hh1 (by omega) (by omega) (Nat.le_trans hrel.2.size hb1.size) ?_)
      intro v2 w2 hown3 hb2
      have hrel1 : PutRel w xs (m + 1) v2 w2 := by
        rw [HX.out] at hown3
        refine ⟨?_, (hrel.2.trans (hb1.mono hrel.2.size)).trans hb2⟩
        rw [putL_succ xs m hlm, List.length_append, List.map_append]
        exact hown3
      clear hown1 hown2 hown3 hb1 hb2 hrel hcx hh1
      go_wp2
      go_roundw
      case rel => exact ⟨m + 1, by omega, by go_num, hrel1⟩
      case measure => simp [intOf]; omega
    · obtain rfl : m = j := by omega
      have hvx := HB.out
      have hcx := (hrel.2.cell (p := ⟨b, off + m, none⟩) hb).trans hcx
      generalize xs.getD m 0 = x at hcx hvx
      have HV := Lib.hid hvx
      clear hvx
      go_wp2_with fail
      refine (refvalid_any _ _).mono ?_
      rintro e w' ⟨rfl, rfl⟩
      rw [HV.out]
      go_wp2
      go_ret2
      exact ⟨rfl, hrel.2⟩

/-- What Replace gives of a number. -/
def repl (x : Int) : Int := if validB x = true then x else 65533
theorem Tryd.info21 : (Tryd.prog.info? 21).map (fun i => (i.zero, i.size, i.bytes)) = some (some (.int .i32 0), 1, 4) := by kernel_rfl
/-- The first k replaced, zeros behind. -/
def replL (xs : List Int) (k : Nat) : List Int := (xs.take k).map repl ++ List.replicate (xs.length - k) 0
theorem replL_len (xs : List Int) (k : Nat) (h : k ≤ xs.length) : (replL xs k).length = xs.length := by simp [replL]; omega
theorem replL_set (xs : List Int) (k : Nat) (h : k < xs.length) : (replL xs k).set k (repl (xs.getD k 0)) = replL xs (k + 1) := by
  unfold replL
  have e1 : xs.length - k = (xs.length - (k + 1)) + 1 := by omega
  have e3 : ((xs.take k).map repl).length = k := by simp; omega
  rw [e1, List.replicate_succ, List.set_append, if_neg (by omega), List.take_succ_eq_append_getElem h, e3, Nat.sub_self]
  simp [List.getD, List.getElem?_eq_getElem h, List.take_succ_eq_append_getElem (show k < (xs.map repl).length by simpa using h)]
theorem made_ints (k : IntKind) (n : Nat) : (madeCells (Value.int k 0).cells (n * 1)).toList = (List.replicate n (0 : Int)).map (Value.int k) := by
  apply List.ext_getElem
  · simp [madeCells]
  · intro i h1 h2
    simp [madeCells, Value.cells, Nat.mod_one]
def ReplRel (w : World) (g : Nat) (xs : List Int) (k : Nat) (wr : World) : Prop :=
  wr.ownsRow w.heap.size 21 1 (.slice (some ⟨g, 0, none⟩) xs.length xs.length) xs.length ((replL xs k).map (Value.int .i32)) ∧ Below w.heap.size w wr

set_option maxRecDepth 100000 in
theorem replace_any (v : Value) (xs : List Int) (w : World) (hh : Held .i32 w v xs) (hlen : xs.length ≤ 1000000000) :
    Calls Tryd.prog 18 #[v] w (Made .i32 w (xs.map repl)) := by
  obtain ⟨ao, cap, rfl, hc⟩ := hh.view
  have HC := Lib.hid hc
  clear hc hh
  obtain ⟨i0, hi, hz0, hz1, hz2⟩ := info_parts Tryd.info21
  go_enter Tryd.func18, Tryd.ntmps18
  go_wp2_with (at_make; refine wpList_make_full w rfl (.tmp 7) (.tmp 7) 28 rfl w.heap.size 21 i0 (.int .i32 0) 1 Tryd.underlying28 hi hz0 hz1 .i64 .i64 _ _ xs.length rfl rfl rfl rfl (by rw [hz2]; omega) (by unfold maxLen; omega) (Nat.le_refl _) ?_)
  intro w1 hown1 hg1
  have hb1 : Below w.heap.size w w1 := (Below.refl _ _).grown hg1 (Nat.le_refl _) (by intro k hk; cases hk)
  have hrel0 : ReplRel w w.heap.size xs 0 w1 := by
    refine ⟨?_, hb1⟩
    have e : replL xs 0 = List.replicate xs.length 0 := by simp [replL]
    rw [e, ← made_ints, Nat.mul_one]
    exact hown1
  clear hown1 hg1 hb1
  have HR := Lib.hid hrel0
  clear hrel0
  generalize hgn : w.heap.size = g at HR
  have HG := Lib.hid hgn
  clear hgn
  go_wp2
  go_loopw [11] (fun i wr => ∃ k : Nat, k ≤ xs.length ∧ i = .int .i64 k ∧ ReplRel w g xs k wr) (fun i _ => xs.length - (intOf i).toNat)
  case atStart => exact ⟨0, Nat.zero_le _, rfl, HR.out⟩
  case round =>
    obtain ⟨m, hm, rfl, hrel⟩ := hrel
    by_cases hlm : m < xs.length
    · obtain ⟨b, off, rfl, hb, hcx⟩ := HC.out m hlm
      have hcx := (hrel.2.cell (p := ⟨b, off + m, none⟩) hb).trans hcx
      obtain ⟨x, hx⟩ : ∃ x, x = xs.getD m 0 := ⟨_, rfl⟩
      rw [← hx] at hcx
      have hcell0 : ∃ y, wr.cell? ⟨g, m, none⟩ = some y := by
        rw [hrel.1.cellAt m (by omega)]
        exact ⟨_, List.getElem?_eq_getElem (by simp [replL_len xs m (by omega)]; omega)⟩
      obtain ⟨y, hy⟩ := hcell0
      have hfro := hrel.1.frozenAt m
      have hst := fun u => hrel.1.stored m u
      have hBg : w.heap.size ≤ g := (hrel.1.lt g rfl).1
      have next : ∀ z, z = repl x → ReplRel w g xs (m + 1) (wr.setCell ⟨g, m, none⟩ (.int .i32 z)) := by
        intro z hz
        refine ⟨?_, hrel.2.setCell (p := ⟨g, m, none⟩) hBg _⟩
        rw [hz, hx]
        have := (hst (.int .i32 (repl (xs.getD m 0)))).1
        rw [← List.map_set, replL_set xs m hlm] at this
        exact this
      have NX := Lib.hid next
      clear next hst hx hrel
      by_cases hvx : validB x = true
      · have HV := Lib.hid hvx
        clear hvx
        go_wp2_with fail
        refine (valid_any _ _).mono ?_
        rintro e w' ⟨rfl, rfl⟩
        rw [HV.out]
        go_wp2
        go_roundw
        case rel => exact ⟨m + 1, by omega, by go_num, NX.out x (by unfold repl; rw [if_pos HV.out])⟩
        case measure => simp [intOf]; omega
      · have HV := Lib.hid (show validB x = false by simpa using hvx)
        clear hvx
        go_wp2_with fail
        refine (valid_any _ _).mono ?_
        rintro e w' ⟨rfl, rfl⟩
        rw [HV.out]
        go_wp2
        go_roundw
        case rel => exact ⟨m + 1, by omega, by go_num, NX.out 65533 (by unfold repl; rw [if_neg (by rw [HV.out]; decide)])⟩
        case measure => simp [intOf]; omega
    · go_wp2
      go_ret
      have hkk : m = xs.length := by omega
      subst hkk
      have := held_of_owns hrel.1
      exact ⟨_, rfl, by simpa [replL] using this, hrel.2⟩
end Go.Proofs.YtblmjemgfpbdlaaDoor
