/- Contracts of cluster. -/
import Derived.Test.YtkpmmkokfllafaaGreatMg1
import Derived.Laws.StructEq
import Derived.ChangeKeysEq
import Derived.StillTailTactics
namespace Go.Proofs.YtkpmmkokfllafaaGreat
open Go.RowKit Go.ChangeShapes Go.WideShapes
def padI (l : List Int) : List Int := l ++ List.replicate (16 - l.length) 0
theorem padI_len (l : List Int) (h : l.length ≤ 16) : (padI l).length = 16 := by simp [padI]; omega
/-- The cells of a cluster. -/
def clCells (l : List Int) : List Value := .int .i64 l.length :: (padI l).map (Value.int .i32)
theorem clCells_len (l : List Int) (h : l.length ≤ 16) : (clCells l).length = 17 := by simp [clCells, padI_len l h]
def ClAt (w : World) (g : Nat) (l : List Int) : Prop := Has w g (clCells l) 76
theorem cl_zero : clCells [] = [Value.int .i64 0, .int .i32 0, .int .i32 0, .int .i32 0, .int .i32 0, .int .i32 0, .int .i32 0, .int .i32 0, .int .i32 0, .int .i32 0, .int .i32 0, .int .i32 0, .int .i32 0, .int .i32 0, .int .i32 0, .int .i32 0, .int .i32 0] := rfl
theorem cl_put (l : List Int) (r : Int) (h : l.length < 16) : ((clCells l).set (1 + l.length) (.int .i32 r)).set 0 (.int .i64 ((l.length : Int) + 1)) = clCells (l ++ [r]) := by
  unfold clCells
  rw [Nat.add_comm, List.set_cons_succ, List.set_cons_zero]
  have h1 : ((padI l).map (Value.int .i32)).set l.length (.int .i32 r) = (padI (l ++ [r])).map (Value.int .i32) := by
    rw [← List.map_set]
    congr 1
    unfold padI
    obtain ⟨m, hm⟩ : ∃ m, 16 - l.length = m + 1 := ⟨15 - l.length, by omega⟩
    have hm2 : 16 - (l ++ [r]).length = m := by simp; omega
    rw [hm, hm2, List.replicate_succ, List.set_append_right _ _ (Nat.le_refl _)]
    simp
  rw [h1]
  simp
theorem cl_at (w : World) (g : Nat) (l : List Int) (h : ClAt w g l) (i : Nat) (hi : i < l.length) : w.cell? ⟨g, 1 + i, none⟩ = some (.int .i32 (l.getD i 0)) := by
  refine h.cell (1 + i) _ ?_
  unfold clCells padI
  rw [Nat.add_comm, List.getElem?_cons_succ, List.getElem?_map, List.getElem?_append_left hi, List.getElem?_eq_getElem hi]
  simp [List.getD, List.getElem?_eq_getElem hi]
theorem clen_any (g : Nat) (l : List Int) (w : World) (h : ClAt w g l) : Calls Tryz.prog 94 #[.pointer (some ⟨g, 0, none⟩)] w fun e w' => e = .returned (.int .i64 l.length) ∧ w = w' := by
  have c0 := h.cell 0 _ rfl
  clear h
  go_enter Tryz.func94, Tryz.ntmps94
  go_wp2
  go_ret
  exact ⟨(ret_eq (by first | rfl | (simp <;> omega))), rfl⟩
theorem clen_nil (w : World) : Calls Tryz.prog 94 #[.pointer none] w fun e w' => e = .returned (.int .i64 0) ∧ w = w' := by
  go_enter Tryz.func94, Tryz.ntmps94
  go_wp2
  go_ret
  exact ⟨(ret_eq (by first | rfl | (simp <;> omega))), rfl⟩
theorem cfull_any (g : Nat) (l : List Int) (w : World) (h : ClAt w g l) (b : Bool) (hb : ((l.length : Int) == 16) = b) : Calls Tryz.prog 85 #[.pointer (some ⟨g, 0, none⟩)] w fun e w' => e = .returned (.bool b) ∧ w = w' := by
  have HB := Lib.hid hb
  clear hb
  go_enter Tryz.func85, Tryz.ntmps85
  go_wp2_with fail
  refine (clen_any g l _ h).mono ?_
  rintro e w' ⟨rfl, rfl⟩
  go_wp2
  go_ret
  exact ⟨ret_eq (by first | rfl | (rw [HB.out]; try rfl)), rfl⟩
theorem cfull_nil (w : World) : Calls Tryz.prog 85 #[.pointer none] w fun e w' => e = .returned (.bool false) ∧ w = w' := by
  go_enter Tryz.func85, Tryz.ntmps85
  go_wp2_with fail
  refine (clen_nil _).mono ?_
  rintro e w' ⟨rfl, rfl⟩
  go_wp2
  go_ret
  exact ⟨(ret_eq (by first | rfl | (simp <;> omega))), rfl⟩
theorem cadd_nil (r : Int) (w : World) : Calls Tryz.prog 67 #[.pointer none, .int .i32 r] w fun e w' => e = .returned (.bool false) ∧ w = w' := by
  go_enter Tryz.func67, Tryz.ntmps67
  go_wp2
  go_ret
  exact ⟨(ret_eq (by first | rfl | (simp <;> omega))), rfl⟩
theorem cadd_full (g : Nat) (l : List Int) (r : Int) (w : World) (h : ClAt w g l) (hl : l.length = 16) : Calls Tryz.prog 67 #[.pointer (some ⟨g, 0, none⟩), .int .i32 r] w fun e w' => e = .returned (.bool false) ∧ w = w' := by
  have hb : ((l.length : Int) == 16) = true := by simp; omega
  have HB := Lib.hid hb
  clear hb hl
  go_enter Tryz.func67, Tryz.ntmps67
  go_wp2_with fail
  refine (cfull_any g l _ h true HB.out).mono ?_
  rintro e w' ⟨rfl, rfl⟩
  go_wp2
  go_ret
  exact ⟨(ret_eq (by first | rfl | (simp <;> omega))), rfl⟩
def Added (w : World) (g : Nat) (l : List Int) (e : Ending) (w' : World) : Prop := e = .returned (.bool true) ∧ ClAt w' g l ∧ But g w.heap.size w w'
set_option maxRecDepth 100000 in
theorem cadd_any (g : Nat) (l : List Int) (r : Int) (w : World) (h : ClAt w g l) (hl : l.length < 16) : Calls Tryz.prog 67 #[.pointer (some ⟨g, 0, none⟩), .int .i32 r] w (Added w g (l ++ [r])) := by
  have hb : ((l.length : Int) == 16) = false := by simp; omega
  have HB := Lib.hid hb
  have c0 := h.cell 0 _ rfl
  have f0 := h.free 0
  have f1 := h.free (1 + l.length)
  obtain ⟨x1, hx1⟩ : ∃ x, w.cell? ⟨g, 1 + l.length, none⟩ = some x := ⟨_, h.cell (1 + l.length) ((clCells l)[1 + l.length]'(by rw [clCells_len l (by omega)]; omega)) (List.getElem?_eq_getElem _)⟩
  have hfin : ∀ W, Has W g (clCells l) 76 → ClAt ((W.setCell ⟨g, 1 + l.length, none⟩ (.int .i32 r)).setCell ⟨g, 0, none⟩ (.int .i64 ((l.length : Int) + 1))) g (l ++ [r]) ∧ But g W.heap.size W ((W.setCell ⟨g, 1 + l.length, none⟩ (.int .i32 r)).setCell ⟨g, 0, none⟩ (.int .i64 ((l.length : Int) + 1))) := fun W h => by
    have := (h.set (1 + l.length) (.int .i32 r)).set 0 (.int .i64 ((l.length : Int) + 1))
    rw [cl_put l r hl] at this
    exact ⟨this, ((But.refl _ _ _).set _ _).set _ _⟩
  have HF := Lib.hid hfin
  clear hfin
  have HH := Lib.hid h
  have b0 : (0 : Int) ≤ (l.length : Int) := by omega
  have b1 : (l.length : Int) < 16 := by omega
  clear hb h
  go_enter Tryz.func67, Tryz.ntmps67
  go_wp2_with fail
  refine (cfull_any g l _ HH.out false HB.out).mono ?_
  rintro e w' ⟨rfl, rfl⟩
  go_wp2
  go_still_tail 9, (by kernel_rfl)
  go_wp2
  go_ret
  exact ⟨(ret_eq (by first | rfl | (simp <;> omega))), (HF.out w HH.out).1, (HF.out w HH.out).2.drew⟩
set_option maxRecDepth 100000 in
theorem ctext_any (g : Nat) (l : List Int) (w : World) (h : ClAt w g l) (hl : l.length ≤ 16) : Calls Tryz.prog 50 #[.pointer (some ⟨g, 0, none⟩)] w (Cloned 21 .i32 w l) := by
  have c0 := h.cell 0 _ rfl
  have hh : Held .i32 w.drew (.slice (some ⟨g, 1, none⟩) l.length 16) l := held_at (show g < w.drew.heap.size from h.lt) (fun i hi => cl_at w g l h i hi)
  have b0 : (0 : Int) ≤ (l.length : Int) := by omega
  have b1 : (l.length : Int) ≤ 16 := by omega
  have hcl := rclone_any _ l w.drew hh (by omega)
  have HCL := Lib.hid hcl
  clear h hh hcl
  go_enter Tryz.func50, Tryz.ntmps50
  go_wp2
  go_still_tail 8, (by kernel_rfl)
  go_wp2_with fail
  refine HCL.out.mono ?_
  rintro e w1 ⟨v1, rfl, ho, hb⟩
  go_wp2
  go_ret
  exact ⟨_, rfl, ho, undrew hb⟩
theorem ctext_nil (w : World) : Calls Tryz.prog 50 #[.pointer none] w fun e w' => e = .returned (.slice none 0 0) ∧ w = w' := by
  go_enter Tryz.func50, Tryz.ntmps50
  go_wp2
  go_ret
  exact ⟨(ret_eq (by first | rfl | (simp <;> omega))), rfl⟩
theorem info_cl : (Tryz.prog.info? 76).map (·.size) = some 17 := by kernel_rfl
theorem cl_cells_one (l : List Int) : ∀ v ∈ clCells l, v.oneCell' = true := by
  intro v hv
  rcases List.mem_cons.1 hv with rfl | hv
  · rfl
  · exact ints_oneCell .i32 (padI l) v hv
theorem two_cl (w : World) : ∃ W, W = (w.alloc (.cells #[Value.int .i64 0, .int .i32 0, .int .i32 0, .int .i32 0, .int .i32 0, .int .i32 0, .int .i32 0, .int .i32 0, .int .i32 0, .int .i32 0, .int .i32 0, .int .i32 0, .int .i32 0, .int .i32 0, .int .i32 0, .int .i32 0, .int .i32 0] 76)).alloc (.cells #[Value.int .i64 0, .int .i32 0, .int .i32 0, .int .i32 0, .int .i32 0, .int .i32 0, .int .i32 0, .int .i32 0, .int .i32 0, .int .i32 0, .int .i32 0, .int .i32 0, .int .i32 0, .int .i32 0, .int .i32 0, .int .i32 0, .int .i32 0] 76) ∧
    ClAt W w.heap.size [] ∧ ClAt W (w.heap.size + 1) [] ∧ Below w.heap.size w W ∧ W.heap.size = w.heap.size + 2 := by
  refine ⟨_, rfl, (Has.new w _ _).alloc _, ?_, ((Below.refl _ _).alloc (Nat.le_refl _) _).alloc (by simp) _, by simp⟩
  have := Has.new (w.alloc (.cells (clCells []).toArray 76)) (clCells []) 76
  rw [World.size_alloc] at this
  exact this
def CluOf (w : World) (l : List Int) (e : Ending) (w' : World) : Prop := e = .returned (.agg (clCells (l.take 16)).toArray) ∧ Below w.heap.size w w'
set_option maxRecDepth 100000 in
set_option maxHeartbeats 1000000 in
theorem cluof_any (v : Value) (xs : List Int) (w : World) (hv : Held .i32 w v xs) (hl : xs.length ≤ 1000000000) : Calls Tryz.prog 49 #[v] w (CluOf w xs) := by
  obtain ⟨ao, cap, rfl, _⟩ := id hv.view
  have HV := Lib.hid hv
  clear hv
  have hend : ∀ wr w', But w.heap.size wr.heap.size wr w' → Below w.heap.size w wr → Below w.heap.size w w' := fun wr w' h1 h2 => h2.trans (h1.below h2.size (Nat.le_refl _))
  have HEND := Lib.hid hend
  clear hend
  go_enter Tryz.func49, Tryz.ntmps49
  go_wp2
  obtain ⟨W, hW, h2, h3, hb, hsz⟩ := two_cl w
  rw [← hW]
  have HSZ := Lib.hid hsz
  have H2 := Lib.hid h2
  have H3 := Lib.hid h3
  obtain ⟨g, hg⟩ : ∃ g, g = w.heap.size + 1 := ⟨_, rfl⟩
  have hgne : g ≠ w.heap.size := by omega
  have HGE := Lib.hid (show w.heap.size ≤ g by omega)
  rw [← hg] at H3 ⊢
  clear hW h2 h3 hsz hg
  go_loopw [8] (fun i wr => ∃ k : Nat, k ≤ xs.length ∧ k ≤ 16 ∧ i = .int .i64 k ∧ ClAt wr g (xs.take k) ∧ ClAt wr w.heap.size [] ∧ Below w.heap.size w wr) (fun i _ => xs.length - (intOf i).toNat)
  case atStart => exact ⟨0, Nat.zero_le _, Nat.zero_le _, rfl, H3.out, H2.out, hb⟩
  case round =>
    obtain ⟨k, hk, hk16, rfl, hcl, hrs, hbw⟩ := hrel
    have htl : (xs.take k).length = k := by simp; omega
    by_cases hlt : k < xs.length
    · obtain ⟨b, off, e1, hb1, hc⟩ := (HV.out.below hbw).spots k hlt
      subst e1
      have hc' : wr.cell? ⟨b, off + k, none⟩ = some (.int .i32 (xs.getD k 0)) := hc
      have hsn : xs.take (k + 1) = xs.take k ++ [xs.getD k 0] := by rw [List.take_succ_eq_append_getElem hlt]; simp [List.getD, List.getElem?_eq_getElem hlt]
      obtain ⟨x, hx0⟩ : ∃ x, x = xs.getD k 0 := ⟨_, rfl⟩
      rw [← hx0] at hc' hsn
      have HSN := Lib.hid hsn
      clear hc hx0 hsn
      by_cases h16 : k < 16
      · have hadd := fun w' h => cadd_any g (xs.take k) x w' h (by omega)
        have HA := Lib.hid hadd
        have HC := Lib.hid hcl
        clear hadd hcl htl
        go_wp2_with fail
        refine (HA.out _ HC.out).mono ?_
        rintro e w1 ⟨rfl, hcl1, hbut⟩
        have hr1 : ClAt w1 w.heap.size [] := hrs.but hbut hrs.lt hgne.symm
        have hb2 : Below w.heap.size w w1 := hbw.trans (hbut.below hbw.size HGE.out)
        rw [← HSN.out] at hcl1
        go_wp2
        go_roundw
        case rel => exact ⟨k + 1, by omega, by omega, by go_num, hcl1, hr1, hb2⟩
        case measure => simp [intOf] <;> omega
      · have hk2 : k = 16 := by omega
        subst hk2
        have hadd := fun w' h => cadd_full g (xs.take 16) x w' h (by omega)
        have HA := Lib.hid hadd
        have HC := Lib.hid hcl
        clear hadd hcl
        go_wp2_with fail
        refine (HA.out _ HC.out).mono ?_
        rintro e w1 ⟨rfl, rfl⟩
        have hcl := HC.out
        obtain ⟨l, hl2⟩ : ∃ l, l = xs.take 16 := ⟨_, rfl⟩
        have HL := Lib.hid (show l.length ≤ 16 by rw [hl2]; omega)
        rw [← hl2] at hcl
        have HX := Lib.hid hl2.symm
        clear hl2 htl HC HSN
        go_wp2_with (first | (refine wpList_load_has rfl 76 (.tmp 3) rfl g rfl 76 (clCells l) _ 17 hcl Tryz.underlying76 rfl info_cl (clCells_len l HL.out) ?_) | (refine wpList_store_has rfl 76 (.tmp 2) (.tmp 16) rfl w.heap.size rfl 76 (clCells []) (clCells l) 17 rfl hrs info_cl rfl (clCells_len l HL.out) (cl_cells_one l) ?_; intro w9 hr9 hb9))
        go_wp2
        exact bodyPost_ret (v := .agg (clCells l).toArray) (results_has Tryz.results49 _ _ w.heap.size 76 (clCells l) _ 17 rfl hr9 Tryz.underlying76 rfl info_cl (clCells_len l HL.out)) rfl ⟨by rw [HX.out], HEND.out _ _ hb9 hbw⟩
    · have hk2 : k = xs.length := by omega
      subst hk2
      have hx16 : xs.take 16 = xs := List.take_of_length_le hk16
      rw [List.take_of_length_le (Nat.le_refl _)] at hcl
      obtain ⟨l, hl2⟩ : ∃ l, l = xs := ⟨_, rfl⟩
      have HL := Lib.hid (show l.length ≤ 16 by rw [hl2]; omega)
      have HX := Lib.hid (hx16.trans hl2.symm)
      rw [← hl2] at hcl
      clear hl2 htl hx16
      go_wp2_with (first | (refine wpList_load_has rfl 76 (.tmp 3) rfl g rfl 76 (clCells l) _ 17 hcl Tryz.underlying76 rfl info_cl (clCells_len l HL.out) ?_) | (refine wpList_store_has rfl 76 (.tmp 2) (.tmp 16) rfl w.heap.size rfl 76 (clCells []) (clCells l) 17 rfl hrs info_cl rfl (clCells_len l HL.out) (cl_cells_one l) ?_; intro w9 hr9 hb9))
      go_wp2
      exact bodyPost_ret (v := .agg (clCells l).toArray) (results_has Tryz.results49 _ _ w.heap.size 76 (clCells l) _ 17 rfl hr9 Tryz.underlying76 rfl info_cl (clCells_len l HL.out)) rfl ⟨by rw [HX.out], HEND.out _ _ hb9 hbw⟩
end Go.Proofs.YtkpmmkokfllafaaGreat
