/- What Replace gives. -/
import Derived.Test.YtomfclkldmmmgaaDoorScalarC
import Derived.Laws.OwnMore
namespace Go.Proofs.YtomfclkldmmmgaaDoor
open Go.RowKit Go.ChangeShapes Go.WideShapes
/-- What Replace gives of a number. -/
def repl (x : Int) : Int := if validB x = true then x else 65533
theorem Tryd.info21r : (Tryd.prog.info? 21).map (fun i => (i.zero, i.size, i.bytes)) = some (some (.int .i32 0), 1, 4) := by kernel_rfl
/-- The first k replaced, zeros behind. -/
def replL (xs : List Int) (k : Nat) : List Int := (xs.take k).map repl ++ List.replicate (xs.length - k) 0
theorem replL_len (xs : List Int) (k : Nat) (h : k ≤ xs.length) : (replL xs k).length = xs.length := by simp [replL]; omega
theorem replL_set (xs : List Int) (k : Nat) (h : k < xs.length) : (replL xs k).set k (repl (xs.getD k 0)) = replL xs (k + 1) := by
  unfold replL
  have e1 : xs.length - k = (xs.length - (k + 1)) + 1 := by omega
  have e3 : ((xs.take k).map repl).length = k := by simp; omega
  rw [e1, List.replicate_succ, List.set_append, if_neg (by omega), List.take_succ_eq_append_getElem h, e3, Nat.sub_self]
  simp [List.getD, List.getElem?_eq_getElem h, List.take_succ_eq_append_getElem (show k < (xs.map repl).length by simpa using h)]
theorem made_ints (k : IntKind) (n : Nat) : (madeCells (Value.int k 0).cells (n * 1)).toList = (List.replicate n (0 : Int)).map (Value.int k) := by
  apply List.ext_getElem
  · simp [madeCells]
  · intro i h1 h2
    simp [madeCells, Value.cells, Nat.mod_one]
def ReplRel (w : World) (g : Nat) (xs : List Int) (k : Nat) (wr : World) : Prop :=
  wr.ownsRow w.heap.size 21 1 (.slice (some ⟨g, 0, none⟩) xs.length xs.length) xs.length ((replL xs k).map (Value.int .i32)) ∧ Below w.heap.size w wr

set_option maxRecDepth 100000 in
theorem replace_own (v : Value) (xs : List Int) (w : World) (hh : Held .i32 w v xs) (hlen : xs.length ≤ 1000000000) :
    Calls Tryd.prog 105 #[v] w (fun e w' => ∃ v', e = .returned v' ∧ w'.ownsRow w.heap.size 21 1 v' xs.length ((xs.map repl).map (Value.int .i32)) ∧ Below w.heap.size w w') := by
  obtain ⟨ao, cap, rfl, hc⟩ := hh.view
  have HC := Lib.hid hc
  clear hc hh
  obtain ⟨i0, hi, hz0, hz1, hz2⟩ := info_parts Tryd.info21r
  go_enter Tryd.func105, Tryd.ntmps105
  go_wp2_with (at_make; refine wpList_make_full w rfl (.tmp 7) (.tmp 7) 25 rfl w.heap.size 21 i0 (.int .i32 0) 1 Tryd.underlying25 hi hz0 hz1 .i64 .i64 _ _ xs.length rfl rfl rfl rfl (by rw [hz2]; omega) (by unfold maxLen; omega) (Nat.le_refl _) ?_)
  intro w1 hown1 hg1
  have hb1 : Below w.heap.size w w1 := (Below.refl _ _).grown hg1 (Nat.le_refl _) (by intro k hk; cases hk)
  have hrel0 : ReplRel w w.heap.size xs 0 w1 := by
    refine ⟨?_, hb1⟩
    have e : replL xs 0 = List.replicate xs.length 0 := by simp [replL]
    rw [e, ← made_ints, Nat.mul_one]
    exact hown1
  clear hown1 hg1 hb1
  have HR := Lib.hid hrel0
  clear hrel0
  generalize hgn : w.heap.size = g at HR
  have HG := Lib.hid hgn
  clear hgn
  go_wp2
  go_loopw [11] (fun i wr => ∃ k : Nat, k ≤ xs.length ∧ i = .int .i64 k ∧ ReplRel w g xs k wr) (fun i _ => xs.length - (intOf i).toNat)
  case atStart => exact ⟨0, Nat.zero_le _, rfl, HR.out⟩
  case round =>
    obtain ⟨m, hm, rfl, hrel⟩ := hrel
    by_cases hlm : m < xs.length
    · obtain ⟨b, off, rfl, hb, hcx⟩ := HC.out m hlm
      have hcx := (hrel.2.cell (p := ⟨b, off + m, none⟩) hb).trans hcx
      obtain ⟨x, hx⟩ : ∃ x, x = xs.getD m 0 := ⟨_, rfl⟩
      rw [← hx] at hcx
      have hcell0 : ∃ y, wr.cell? ⟨g, m, none⟩ = some y := by
        rw [hrel.1.cellAt m (by omega)]
        exact ⟨_, List.getElem?_eq_getElem (by simp [replL_len xs m (by omega)]; omega)⟩
      obtain ⟨y, hy⟩ := hcell0
      have hfro := hrel.1.frozenAt m
      have hst := fun u => hrel.1.stored m u
      have hBg : w.heap.size ≤ g := (hrel.1.lt g rfl).1
      have next : ∀ z, z = repl x → ReplRel w g xs (m + 1) (wr.setCell ⟨g, m, none⟩ (.int .i32 z)) := by
        intro z hz
        refine ⟨?_, hrel.2.setCell (p := ⟨g, m, none⟩) hBg _⟩
        rw [hz, hx]
        have := (hst (.int .i32 (repl (xs.getD m 0)))).1
        rw [← List.map_set, replL_set xs m hlm] at this
        exact this
      have NX := Lib.hid next
      clear next hst hx hrel
      by_cases hvx : validB x = true
      · have HV := Lib.hid hvx
        clear hvx
        go_wp2_with fail
        refine (valid_any _ _).mono ?_
        rintro e w' ⟨rfl, rfl⟩
        rw [HV.out]
        go_wp2
        go_roundw
        case rel => exact ⟨m + 1, by omega, by go_num, NX.out x (by unfold repl; rw [if_pos HV.out])⟩
        case measure => simp [intOf]; omega
      · have HV := Lib.hid (show validB x = false by simpa using hvx)
        clear hvx
        go_wp2_with fail
        refine (valid_any _ _).mono ?_
        rintro e w' ⟨rfl, rfl⟩
        rw [HV.out]
        go_wp2
        go_roundw
        case rel => exact ⟨m + 1, by omega, by go_num, NX.out 65533 (by unfold repl; rw [if_neg (by rw [HV.out]; decide)])⟩
        case measure => simp [intOf]; omega
    · go_wp2
      go_ret
      have hkk : m = xs.length := by omega
      subst hkk
      have hr1 := hrel.1
      rw [show replL xs xs.length = xs.map repl by simp [replL]] at hr1
      exact ⟨_, rfl, hr1, hrel.2⟩
theorem replace_any (v : Value) (xs : List Int) (w : World) (hh : Held .i32 w v xs) (hlen : xs.length ≤ 1000000000) :
    Calls Tryd.prog 105 #[v] w (Made .i32 w (xs.map repl)) :=
  (replace_own v xs w hh hlen).mono fun _ _ ⟨v', h1, h2, h3⟩ => ⟨v', h1, held_of_owns h2, h3⟩
end Go.Proofs.YtomfclkldmmmgaaDoor
