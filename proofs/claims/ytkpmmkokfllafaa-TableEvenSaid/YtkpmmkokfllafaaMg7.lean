/- Texts put together: CwidA, CwidB, CwidC, MeaA, MeaB, MeaC, MeaD, MeaF, TblT, TblU. -/
import Derived.Test.YtkpmmkokfllafaaGaugeC
import Derived.Test.YtkpmmkokfllafaaMg2
import Derived.Test.YtkpmmkokfllafaaMg5
import Derived.Test.YtkpmmkokfllafaaCluN
import Derived.Test.YtkpmmkokfllafaaMg6
import Derived.Lib.MinMax
import Derived.Test.YtkpmmkokfllafaaMg1
/- How wide a row of numbers with properties is; the reference's Row. -/
namespace Go.Proofs.Ytkpmmkokfllafaa
open Go.RowKit Go.ChangeShapes Go.WideShapes
def picAt (ps : List Pr) : Nat → Bool
  | 0 => false
  | k + 1 => (ps.getD k Pr.none).pc
def condW (xs : List Int) (ps : List Pr) (i : Nat) : Bool := widB (decide (0 < i)) (picAt ps i) (xs.getD i 0) (ps.getD i Pr.none).br (ps.getD i Pr.none).pc (ps.getD i Pr.none).ea
def anyW (xs : List Int) (ps : List Pr) : Nat → Bool
  | 0 => false
  | k + 1 => anyW xs ps k || condW xs ps k
def rowW (xs : List Int) (ps : List Pr) (n : Nat) : Int := if anyW xs ps n = true then 2 else 1
theorem anyW_mono {xs : List Int} {ps : List Pr} {k n : Nat} (h : k ≤ n) (ha : anyW xs ps k = true) : anyW xs ps n = true := by
  induction n with
  | zero => obtain rfl : k = 0 := by omega
            exact ha
  | succ n ih =>
    by_cases e : k = n + 1
    · subst e; exact ha
    · show (anyW xs ps n || condW xs ps n) = true
      rw [ih (by omega)]; rfl
theorem anyW_hit {xs : List Int} {ps : List Pr} {k n : Nat} (h : k < n) (hc : condW xs ps k = true) : rowW xs ps n = 2 := by
  unfold rowW
  rw [if_pos (anyW_mono (k := k + 1) (by omega) (by show (anyW xs ps k || condW xs ps k) = true; rw [hc]; simp))]
theorem cond_zero (xs : List Int) (ps : List Pr) : condW xs ps 0 = (basewI (ps.getD 0 Pr.none).br (ps.getD 0 Pr.none).ea == 2) := by
  unfold condW widB picAt
  simp
theorem cond_cases (r br : Int) (pic pc : Bool) (ea : Int) : ((basewI br ea == 2) = true ∧ widB true pic r br pc ea = true) ∨ ((basewI br ea == 2) = false ∧ (r == 65039) = true ∧ pic = true ∧ widB true pic r br pc ea = true)
    ∨ ((basewI br ea == 2) = false ∧ ((r == 65039) = true ∧ pic = false ∨ (r == 65039) = false) ∧ pc = true ∧ widB true pic r br pc ea = true) ∨ ((basewI br ea == 2) = false ∧ ((r == 65039) = true ∧ pic = false ∨ (r == 65039) = false) ∧ pc = false ∧ (br == 6) = true ∧ widB true pic r br pc ea = true)
    ∨ ((basewI br ea == 2) = false ∧ ((r == 65039) = true ∧ pic = false ∨ (r == 65039) = false) ∧ pc = false ∧ (br == 6) = false ∧ widB true pic r br pc ea = false) := by
  unfold widB
  cases h1 : (basewI br ea == 2) <;> cases h2 : (r == 65039) <;> cases pic <;> cases h3 : (br == 6) <;> cases pc <;> simp
end Go.Proofs.Ytkpmmkokfllafaa
/- The reference's Of of layer 19; cwidth.Of; works. -/
namespace Go.Proofs.Ytkpmmkokfllafaa
open Go.RowKit Go.ChangeShapes Go.WideShapes
end Go.Proofs.Ytkpmmkokfllafaa
/- cwidth.Of; works of layer 19. -/
namespace Go.Proofs.Ytkpmmkokfllafaa
open Go.RowKit Go.ChangeShapes Go.WideShapes
theorem picAt_known {xs : List Int} (k : Nat) (hk : k < xs.length) : picAt (knownL xs) (k + 1) = inTab tPict (xs.getD k 0) := by
  show ((knownL xs).getD k Pr.none).pc = _
  rw [knownL_at hk]
  rfl
theorem rowW_two (xs : List Int) (ps : List Pr) (k : Nat) : (if anyW xs ps k = true then (2 : Int) else 1) = rowW xs ps k := rfl
set_option maxRecDepth 100000 in
set_option maxHeartbeats 1000000 in
theorem cof_any (v : Value) (xs : List Int) (w : World) (hx : Held .i32 w v xs) (hn : xs.length ≤ 1000000) :
    Calls Try.prog 36 #[v] w (Gives w (.int .i64 (rowW xs (knownL xs) xs.length))) := by
  obtain ⟨ao, ca, rfl, hc⟩ := hx.view
  have HC := Lib.hid hc
  clear hc hx
  go_enter Try.func36, Try.ntmps36
  go_wp2
  go_loopw [3, 9] (fun wd i wr => ∃ k : Nat, k ≤ xs.length ∧ i = .int .i64 k ∧ wd = .int .i64 (rowW xs (knownL xs) k) ∧ GaugeAt wr w.heap.size (decide (0 < k)) (picAt (knownL xs) k) (anyW xs (knownL xs) k) ∧ Below w.heap.size w wr) (fun _ i _ => xs.length - (intOf i).toNat)
  case atStart => exact ⟨0, Nat.zero_le _, rfl, rfl, Has.new w _ _, (Below.refl _ _).alloc (Nat.le_refl _) _⟩
  case round =>
    obtain ⟨k, hk, rfl, rfl, hg, hbw⟩ := hrel
    by_cases hlt : k < xs.length
    · obtain ⟨b, off, rfl, hb, hcx⟩ := HC.out k hlt
      have hcx := (hbw.cell (p := ⟨b, off + k, none⟩) hb).trans hcx
      have hst := fun w' (h : GaugeAt w' w.heap.size (decide (0 < k)) (picAt (knownL xs) k) (anyW xs (knownL xs) k)) => gstep_any w.heap.size _ _ _ (xs.getD k 0) ((knownL xs).getD k Pr.none).br ((knownL xs).getD k Pr.none).pc ((knownL xs).getD k Pr.none).cv ((knownL xs).getD k Pr.none).ea w' h
      rw [knownL_at hlt] at hst
      have hnext : (anyW xs (knownL xs) k || widB (decide (0 < k)) (picAt (knownL xs) k) (xs.getD k 0) (knownPr (xs.getD k 0)).br (knownPr (xs.getD k 0)).pc (knownPr (xs.getD k 0)).ea) = anyW xs (knownL xs) (k + 1) := by
        show _ = (anyW xs (knownL xs) k || condW xs (knownL xs) k)
        unfold condW
        rw [knownL_at hlt]
      rw [hnext] at hst
      have hpic := picAt_known (xs := xs) k hlt
      rw [show (knownPr (xs.getD k 0)).pc = picAt (knownL xs) (k + 1) from hpic.symm] at hst
      obtain ⟨pic', hp'⟩ : ∃ y, y = picAt (knownL xs) (k + 1) := ⟨_, rfl⟩
      have HST := Lib.hid hst
      have HP := Lib.hid hpic
      have HG := Lib.hid hg
      clear hst hnext hpic hg hp'
      obtain ⟨r, hr⟩ : ∃ r, r = xs.getD k 0 := ⟨_, rfl⟩
      rw [← hr] at hcx HST HP
      clear hr
      go_wp2_with fail
      refine (ucdof_any r _).mono ?_
      rintro e w1 ⟨rfl, b1⟩
      rw [show knownV r = .agg #[.int .i64 (knownPr r).br, .bool (picAt (knownL xs) (k + 1)), .int .i64 (knownPr r).cv, .int .i64 (knownPr r).ea] by rw [HP.out]; rfl]
      have hg1 : GaugeAt w1 w.heap.size _ _ _ := Has.below HG.out b1 (Has.lt HG.out)
      have hb1 := hbw.trans (b1.mono hbw.size)
      have HG1 := Lib.hid hg1
      clear hg1 hcx
      go_wp2_with fail
      refine (HST.out _ HG1.out).mono ?_
      rintro e w2 ⟨rfl, hg2, hbut⟩
      have hb2 := hb1.trans (hbut.below hb1.size (Nat.le_refl _))
      rw [rowW_two]
      have hg3 : GaugeAt w2 w.heap.size (decide (0 < k + 1)) (picAt (knownL xs) (k + 1)) (anyW xs (knownL xs) (k + 1)) := by rw [decide_eq_true (show 0 < k + 1 by omega)]; exact hg2
      clear hg2 hbut
      go_wp2
      go_roundw
      case rel => exact ⟨k + 1, by omega, by go_num, rfl, hg3, hb2⟩
      case measure => simp [intOf] <;> omega
    · obtain rfl : k = xs.length := by omega
      go_wp2
      go_ret
      exact ⟨(ret_eq (by first | rfl | (simp <;> omega))), hbw⟩
theorem cof_val (v : Value) (xs : List Int) (n : Int) (h : rowW xs (knownL xs) xs.length = n) (w : World) (hx : Held .i32 w v xs) (hn : xs.length ≤ 1000000) : Calls Try.prog 36 #[v] w (Gives w (.int .i64 n)) := h ▸ cof_any v xs w hx hn
theorem tabB1 {w0 w1 w2 : World} {o : Obj} (h : Below w0.heap.size w0 w1) (c : Below (w1.alloc o).heap.size (w1.alloc o) w2) : Below w0.heap.size w0 w2 := (h.alloc h.size o).trans (c.mono (by have := h.size; simp; omega))
end Go.Proofs.Ytkpmmkokfllafaa
/- How wide a cluster is: measure.first, measure.width; the reference's First, Wide (21). -/
namespace Go.Proofs.Ytkpmmkokfllafaa
open Go.RowKit Go.ChangeShapes Go.WideShapes
def wdC (T : List Int) : Int := if silB (T.getD 0 0) = true then 0 else rowW (T.take 16) (knownL (T.take 16)) (T.take 16).length
theorem rowW_bd (xs : List Int) (ps : List Pr) (n : Nat) : rowW xs ps n = 1 ∨ rowW xs ps n = 2 := by unfold rowW; split <;> simp
theorem wdC_bd (T : List Int) : (silB (T.getD 0 0) = true ∧ wdC T = 0) ∨ (silB (T.getD 0 0) = false ∧ 1 ≤ wdC T ∧ wdC T ≤ 2) := by
  unfold wdC
  cases h : silB (T.getD 0 0) with
  | true => exact .inl ⟨rfl, by simp⟩
  | false =>
    right
    refine ⟨rfl, ?_⟩
    rw [if_neg (by simp)]
    rcases rowW_bd (T.take 16) (knownL (T.take 16)) (T.take 16).length with h | h <;> omega
set_option maxRecDepth 100000 in
set_option maxHeartbeats 1600000 in
theorem mfirst_any (v : Value) (xs : List Int) (w : World) (hv : Held .i32 w v xs) (hl : xs.length ≤ 1000000000) : Calls Try.prog 37 #[v] w (Cloned 21 .i32 w (xs.take 16)) := by
  obtain ⟨ao, ca, rfl⟩ := hv.len
  have HO := Lib.hid (cluof_any _ xs w hv hl)
  have HL := Lib.hid (show (xs.take 16).length ≤ 16 by rw [List.length_take]; omega)
  clear hv
  go_enter Try.func37, Try.ntmps37
  go_wp2_with fail
  refine HO.out.mono ?_
  rintro e w1 ⟨rfl, b1⟩
  obtain ⟨T, hT⟩ : ∃ T, T = xs.take 16 := ⟨_, rfl⟩
  rw [← hT] at HL ⊢
  have HB := Lib.hid b1
  have HTE := Lib.hid hT
  clear b1 hT HO
  go_wp2_with (refine wpList_store_has rfl 76 (.tmp 3) (.tmp 5) rfl w1.heap.size rfl 76 (clCells []) (clCells T) 17 rfl (Has.new w1 (clCells []) _) info_cl rfl (clCells_len T HL.out) (cl_cells_one T) ?_; intro w5 h5 b5)
  have hb5 : Below w.heap.size w w5 := (HB.out.alloc HB.out.size _).trans (b5.below (by have := HB.out.size; simp; omega) HB.out.size)
  have HC := Lib.hid (ctext_any w1.heap.size T w5 h5 HL.out)
  have HB5 := Lib.hid hb5
  clear h5 b5 hb5
  go_wp2_with fail
  refine HC.out.mono ?_
  rintro e w6 ⟨v6, rfl, ho6, b6⟩
  have HR := Lib.hid (show Cloned 21 .i32 w (xs.take 16) (.returned v6) w6 from by rw [← HTE.out]; exact ⟨v6, rfl, owns_mono ho6 HB5.out.size, HB5.out.trans (b6.mono HB5.out.size)⟩)
  clear ho6 b6
  go_wp2
  go_ret
  exact HR.out
set_option maxRecDepth 100000 in
set_option maxHeartbeats 1600000 in
theorem mwidth_any (v : Value) (T : List Int) (w : World) (hv : Held .i32 w v T) (h0 : 0 < T.length) (hl : T.length ≤ 1000000) : Calls Try.prog 16 #[v] w (Gives w (.int .i64 (wdC T))) := by
  obtain ⟨ao, ca, rfl⟩ := hv.len
  obtain ⟨b, off, rfl, _, c0⟩ := hv.spots 0 h0
  rw [Nat.add_zero] at c0
  have HF := Lib.hid (fun w' (h : Below w.heap.size w w') => mfirst_any _ T w' (hv.below h) (by omega))
  have HS := Lib.hid (bsil_any (T.getD 0 0))
  have hbd := wdC_bd T
  have HW := Lib.hid (show silB (T.getD 0 0) = false → rowW (T.take 16) (knownL (T.take 16)) (T.take 16).length = wdC T from fun h => by unfold wdC; rw [if_neg (by rw [h]; decide)])
  have HT := Lib.hid (show (T.take 16).length ≤ 1000000 by rw [List.length_take]; omega)
  obtain ⟨x, hx⟩ : ∃ x, x = T.getD 0 0 := ⟨_, rfl⟩
  rw [← hx] at c0 HS hbd HW
  obtain ⟨n, hn⟩ : ∃ n, n = T.length := ⟨_, rfl⟩
  rw [← hn] at HF h0 hl ⊢
  obtain ⟨F, hF⟩ : ∃ F, F = T.take 16 := ⟨_, rfl⟩
  rw [← hF] at HF HW HT
  obtain ⟨W, hW⟩ : ∃ W, W = wdC T := ⟨_, rfl⟩
  rw [← hW] at hbd HW ⊢
  clear hv hx hn hF hW
  rcases hbd with ⟨hs, hw0⟩ | ⟨hs, hw1, hw2⟩
  · have HZ := Lib.hid hw0
    rw [hs] at HS
    clear hs hw0
    go_enter Try.func16, Try.ntmps16
    go_wp2_with fail
    refine (HS.out w).mono ?_
    rintro e w1 ⟨rfl, b1⟩
    have HB := Lib.hid b1
    clear b1
    go_wp2
    go_ret
    exact ⟨ret_eq (by rw [HZ.out]; try rfl), HB.out⟩
  · have HE := Lib.hid (HW.out hs)
    rw [hs] at HS
    clear hs hw1 hw2
    go_enter Try.func16, Try.ntmps16
    go_wp2_with fail
    refine (HS.out w).mono ?_
    rintro e w1 ⟨rfl, b1⟩
    have HB := Lib.hid b1
    clear b1 c0
    go_wp2_with fail
    refine (HF.out w1 HB.out).mono ?_
    rintro e w2 ⟨v2, rfl, ho2, b2⟩
    have hc := cof_any v2 F w2 (held_of_owns ho2) HT.out
    rw [HE.out] at hc
    have HB2 := Lib.hid (HB.out.trans (b2.mono HB.out.size))
    clear ho2 b2
    go_wp2_with fail
    refine hc.mono ?_
    rintro e w3 ⟨rfl, b3⟩
    have HB3 := Lib.hid (HB2.out.trans (b3.mono HB2.out.size))
    clear b3 hc
    go_wp2
    go_ret
    exact ⟨(ret_eq (by first | rfl | (simp <;> omega))), HB3.out⟩
end Go.Proofs.Ytkpmmkokfllafaa
/- The reference's First, Wide (21). -/
namespace Go.Proofs.Ytkpmmkokfllafaa
open Go.RowKit Go.ChangeShapes Go.WideShapes
end Go.Proofs.Ytkpmmkokfllafaa
/- measure.Columns (21). -/
namespace Go.Proofs.Ytkpmmkokfllafaa
open Go.RowKit Go.ChangeShapes Go.WideShapes
attribute [local go_sem] Oper.semAt_some
def sumW (L : List (List Int)) : Int := (L.map wdC).sum
theorem sumW_snoc (L : List (List Int)) (T : List Int) : sumW (L ++ [T]) = sumW L + wdC T := by unfold sumW; simp
theorem sumW_bd : ∀ L : List (List Int), 0 ≤ sumW L ∧ sumW L ≤ 2 * (L.length : Int)
  | [] => by simp [sumW]
  | T :: L => by
    have h1 := sumW_bd L
    have h2 := wdC_bd T
    unfold sumW at h1 ⊢
    simp only [List.map_cons, List.sum_cons, List.length_cons]
    omega
def colsC (xs : List Int) : Int := sumW (cluA xs)
theorem colsC_bd (xs : List Int) : 0 ≤ colsC xs ∧ colsC xs ≤ 2 * (xs.length : Int) := by
  have h1 := sumW_bd (cluA xs)
  have h2 := cluA_len xs
  have h3 := startB_len (jR (knownL xs)) xs.length
  unfold colsC
  omega
/-- What is known of a cluster that comes. -/
theorem cu_pos {xs : List Int} {lo hi : Nat} {x : Cu} {W : World} (h : XCu xs lo hi x W) : 0 < (sliceL xs x.p).length ∧ (sliceL xs x.p).length ≤ xs.length := by
  obtain ⟨g, hv, h1, h2, h3, h4, h5, h6⟩ := h
  rw [sliceL_len xs x.p (Nat.le_of_lt h4) h5]
  omega
theorem pre_len {xs : List Int} {pre : List Cu} {x : Cu} (h : (pre ++ [x]).map Cu.p <+: clS xs) : pre.length + 1 ≤ xs.length := by
  have h9 := h.length_le
  rw [List.length_map, List.length_append, List.length_singleton] at h9
  have := clS_len xs
  omega
def ColI (w : World) (bx lo : Nat) (xs : List Int) (hi : Nat) (pre : List Cu) (W : World) : Prop := lo ≤ hi ∧ Has W bx [.int .i64 (sumW (cluL xs pre))] 3 ∧ Below w.heap.size w W ∧ hi ≤ W.heap.size ∧ pre.length ≤ 1000000
set_option maxRecDepth 100000 in
set_option maxHeartbeats 3000000 in
theorem mcols_any (v : Value) (xs : List Int) (w : World) (hx : Held .i32 w v xs) (hn : xs.length ≤ 1000000) : Calls Try.prog 9 #[v] w (Gives w (.int .i64 (colsC xs))) := by
  obtain ⟨ao, ca, rfl⟩ := hx.len
  refine (callsIn_wide (n := 9)).1 ?_
  have b1 : Below w.heap.size w (w.alloc (.cells #[.int .i64 0] 3)) := (Below.refl _ _).alloc (Nat.le_refl _) _
  have HC := Lib.hid (gall_any _ xs _ (hx.below b1) hn)
  have HBX := Lib.hid (Has.new w [.int .i64 0] 3)
  have HB1 := Lib.hid b1
  clear hx b1
  refine callsIn_of_wp_marks Try.func9 rfl trivial ?_ rfl
  simp only [Try.ntmps9, List.size_toArray, List.length_cons, List.length_nil, Nat.reduceAdd, Nat.reduceSub, Array.replicate_succ, Array.replicate_zero, List.push_toArray, List.append_toArray, List.nil_append, List.cons_append]
  gi_wp2_with fail
  first | refine ⟨trivial, (fun h => absurd h (by decide)), (callsIn_wide.2 (HC.out)).mono ?_⟩ | refine ⟨trivial, (callsIn_wide.2 (HC.out)).mono ?_⟩
  rintro e w1 ⟨B, vk, rfl, hB, hk, b1, hBl⟩
  have hbx := HBX.out.below b1 HBX.out.lt
  have HX := Lib.hid hbx
  have HW := Lib.hid (HB1.out.trans (b1.mono HB1.out.size))
  have HLT := Lib.hid (show w.heap.size < w1.heap.size from hbx.lt)
  have h1 : 1 ≤ 9 := by decide
  gi_wp2_with fail
  refine wpIn_rangeO rfl h1 (gf := 32) (lb := #[.pointer (some ⟨B, 0, none⟩)]) rfl trivial (enters_of Try.func32 (by kernel_rfl) rfl) (gall1_in B vk xs w1 hB hk hn _ (fun b => b = w.heap.size)) (Below.refl _ _) (fun _ => rfl) (fun b e => by subst e; exact HLT.out)
    (ColI w w.heap.size (w1.heap.size + 2) xs) (fun _ _ _ _ => False) ?hI (fun _ _ _ _ _ h _ => h) ?h0 (fun x => { tmps := #[.slice ao xs.length ca, undef, .int .i64 0, .pointer (some ⟨w.heap.size, 0, none⟩), undef, x.v, .slice ao xs.length ca, .func (.func 32) #[] #[.pointer (some ⟨B, 0, none⟩)], .int .i64 (x.p.1 : Int), x.v, undef, undef, undef, undef, undef], defers := [] }) ?assign ?body ?done ?stop
  case hI =>
    rintro hi pre A A' ⟨hlo, h1, h3, h4, h5⟩ hu
    exact ⟨hlo, hu.keep.has h1 (fun e => by have := HLT.out; omega), h3.upd hu h3.size (fun b e => by have := HLT.out; omega), Nat.le_trans h4 hu.size, h5⟩
  case h0 =>
    intro hi W1 hb h1 h2
    exact ⟨h1, HX.out.below hb HX.out.lt, HW.out.trans (hb.mono HW.out.size), h2, Nat.zero_le _⟩
  case assign =>
    intro l x W K hK
    unfold encCu
    gi_wp2
    exact hK
  case stop =>
    intro hi c pre W _ h _
    exact h.elim
  case done =>
    rintro hi ys W hS ⟨hlo, h1, h3, h4, h5⟩ hK
    rw [cluL_all hS, show sumW (cluA xs) = colsC xs from rfl] at h1
    have c1 := h1.cell 0 _ rfl
    have HE := Lib.hid (h3.upd (upd_putObj (S := fun b => b = w1.heap.size) W w1.heap.size (.deferred none) rfl) h3.size (fun b e => by have := HLT.out; omega))
    clear h1 h3
    gi_wp2
    refine ⟨by simp, .inl ⟨_, _, rfl, run_takeDeferred hK, ?_⟩⟩
    exact ⟨.int .i64 (colsC xs), by simp [results, Try.results9, go_sem], rfl, HE.out⟩
  case body =>
    rintro l hi pre x W hlo hhi ⟨_, h1, h3, h4, h5⟩ ⟨Wx, hx, hux⟩ hR
    have hx := hx.upd hux (fun b h1 h2 => by omega)
    have HXV := Lib.hid hx.held
    have HXP := Lib.hid (cu_pos hx)
    have hpl := pre_len hR
    have HPL := Lib.hid (show pre.length + 1 ≤ 1000000 by omega)
    have HDD := Lib.hid (show w.heap.size < hi from by have := HLT.out; omega)
    have HHI := Lib.hid (And.intro hlo hhi)
    have HL := Lib.hid h3
    have HH := Lib.hid h1
    have hsn : sumW (cluL xs (pre ++ [x])) = sumW (cluL xs pre) + wdC (sliceL xs x.p) := by rw [show cluL xs (pre ++ [x]) = cluL xs pre ++ [sliceL xs x.p] from by simp [cluL], sumW_snoc]
    have HSN := Lib.hid hsn
    have hsb := sumW_bd (cluL xs pre)
    have hcl : (cluL xs pre).length = pre.length := by simp [cluL]
    have hwb := wdC_bd (sliceL xs x.p)
    obtain ⟨T, hT⟩ : ∃ T, T = sliceL xs x.p := ⟨_, rfl⟩
    rw [← hT] at HXV HXP HSN hwb
    obtain ⟨xv, hxv⟩ : ∃ xv, xv = x.v := ⟨_, rfl⟩
    rw [← hxv] at HXV ⊢
    obtain ⟨s, hs⟩ : ∃ s, s = sumW (cluL xs pre) := ⟨_, rfl⟩
    rw [← hs] at HSN hsb HH
    obtain ⟨wd, hwd⟩ : ∃ wd, wd = wdC T := ⟨_, rfl⟩
    have HWD := Lib.hid (show ∀ w', Below W.heap.size W w' → Calls Try.prog 16 #[xv] w' (Gives w' (.int .i64 wd)) from fun w' h => by rw [hwd]; exact mwidth_any xv T w' (HXV.out.below h) HXP.out.1 (by have := HXP.out; omega))
    rw [← hwd] at HSN hwb
    have hsw : IntKind.i64.wrap (s + wd) = s + wd := by rw [IntKind.wrap_i64]; omega
    clear hx hux hR hpl h1 h3 h4 hsn hcl hT hxv hs hwd h5
    gi_wp2
    obtain ⟨Erg, hErg⟩ : ∃ EE : Nat → Value → World → Prop, EE = fun jj xx ww => match jj with
        | 0 => xx = .int .i64 s
        | 1 => xx = xv
        | 2 => xx = .int .i64 wd
        | 3 => xx = .int .i64 (s + wd)
        | 4 => xx = undef
        | _ => True := ⟨_, rfl⟩
    have erg0 : ∀ xx ww, Erg 0 xx ww = (xx = .int .i64 s) := fun xx ww => congrFun (congrFun (congrFun hErg 0) xx) ww
    have erg1 : ∀ xx ww, Erg 1 xx ww = (xx = xv) := fun xx ww => congrFun (congrFun (congrFun hErg 1) xx) ww
    have erg2 : ∀ xx ww, Erg 2 xx ww = (xx = .int .i64 wd) := fun xx ww => congrFun (congrFun (congrFun hErg 2) xx) ww
    have erg3 : ∀ xx ww, Erg 3 xx ww = (xx = .int .i64 (s + wd)) := fun xx ww => congrFun (congrFun (congrFun hErg 3) xx) ww
    have erg4 : ∀ xx ww, Erg 4 xx ww = (xx = undef) := fun xx ww => congrFun (congrFun (congrFun hErg 4) xx) ww
    obtain ⟨Crg, hCrg⟩ : ∃ CC : Array Bool → World → Prop, CC = fun L8 w' => (Mix.one L8 4 = 0 → Below W.heap.size W w') ∧ (Mix.one L8 4 = 1 → Has w' w.heap.size [.int .i64 (s + wd)] 3 ∧ Upd (fun b => b = w.heap.size) W w') := ⟨_, rfl⟩
    have krg : ∀ i L w, i ≠ 4 →  Crg L w → Crg (L.setIfInBounds i true) w := by
      intro i L w q4 h
      rw [hCrg] at h ⊢
      simp only [Mix.one_ne q4]; exact h
    obtain ⟨Xrg, hXrg⟩ : ∃ XX : World → World → Prop, XX = fun x y => Upd (fun b => b = w.heap.size) x y := ⟨_, rfl⟩
    have xrg : ∀ w, Xrg w w := fun w => by rw [hXrg]; exact Upd.refl _ _
    have strg : ∀ j x w w1, Xrg w w1 → Erg j x w → Erg j x w1 := by
      intro j x w w1 hx h
      rw [hXrg] at hx
      match j with
      | 0 => rw [erg0] at h ⊢; exact h
      | 1 => rw [erg1] at h ⊢; exact h
      | 2 => rw [erg2] at h ⊢; exact h
      | 3 => rw [erg3] at h ⊢; exact h
      | 4 => rw [erg4] at h ⊢; exact h
      | j + 5 => rw [hErg]; trivial
    have crg : Crg (Array.replicate 5 false) W.drew := by rw [hCrg]; exact ⟨fun _ => (Below.refl _ _).drew, fun e => absurd e (by decide)⟩
    have brg : ∀ L w w1, Crg L w → Below w.heap.size w w1 → Crg L w1 := by
      intro L w w1 h hb
      rw [hCrg] at h ⊢
      (obtain ⟨q1, q2⟩ := h; exact ⟨fun e => (q1 e).trans (hb.mono (q1 e).size), fun e => ⟨(q2 e).1.below hb (q2 e).1.lt, (q2 e).2.trans (.ofBelow hb)⟩⟩)
    have xbrg : ∀ w w1, Below w.heap.size w w1 → Xrg w w1 := by
      intro w w1 hb
      rw [hXrg]
      exact Upd.ofBelow hb
    have Hrgb := Lib.hid brg
    have Hrgxb := Lib.hid xbrg
    clear brg xbrg
    clear hErg
    have Hrgk := Lib.hid krg
    have Hrgx := Lib.hid xrg
    have Hrgst := Lib.hid strg
    have Hrgc := Lib.hid crg
    have HrghC := Lib.hid hCrg
    have HrghX := Lib.hid hXrg
    have Hrge0 := Lib.hid erg0
    have Hrge1 := Lib.hid erg1
    have Hrge2 := Lib.hid erg2
    have Hrge3 := Lib.hid erg3
    have Hrge4 := Lib.hid erg4
    clear krg xrg strg crg hCrg hXrg erg0 erg1 erg2 erg3 erg4
    gi_wp2_with fail
    refine Reg.regionFIn (fun _ => trivial) rfl Reg.calls_round (by kernel_rfl) Erg Crg Xrg Hrgst.out (by kernel_rfl) (by kernel_rfl) (by kernel_rfl) Hrgc.out (fun Frg hFrg => ?_)
    simp only [Reg.frame, Reg.dsts, List.map_cons, List.map_nil, Mix.put_lit, Reg.put_none, List.set_cons_succ, List.set_cons_zero, Nat.zero_add, Nat.reduceAdd] at hFrg
    refine ⟨?_, ?_⟩
    · refine ⟨?_, ?_, ?_, ?_, ?_, trivial⟩
      · intro Lq wq xq hh
        simp only [hFrg]
        refine .inl ⟨rfl, ?_⟩
        unfold Reg.upon
        have hc : Crg Lq wq := hh.cls
        rw [HrghC.out] at hc
        have q0 := ((hc.1 (Mix.one_un (hh.notYet 4 (by kernel_rfl)))).cell (p := ⟨w.heap.size, 0, none⟩) HH.out.lt).trans (HH.out.cell 0 _ rfl)
        clear hc
        have hk := Hrgk.out 0 Lq wq (by decide)  hh.cls
        have hx := Hrgx.out wq
        have he : Erg 0 (.int .i64 s) wq := by rw [Hrge0.out]
        have HK := Lib.hid (And.intro hk (And.intro he hx))
        clear hk hx he
        go_simp
        exact HK.out
      · intro Lq wq xq hh
        simp only [hFrg]
        refine .inl ⟨rfl, ?_⟩
        unfold Reg.upon
        have hk := Hrgk.out 1 Lq wq (by decide)  hh.cls
        have hx := Hrgx.out wq
        have he : Erg 1 (xv) wq := by rw [Hrge1.out]
        have HK := Lib.hid (And.intro hk (And.intro he hx))
        clear hk hx he
        go_simp
        exact HK.out
      · intro Lq wq xq hh
        have d1 : Erg 1 (xq 1) wq := hh.val 1 (by kernel_rfl) (by kernel_rfl)
        rw [Hrge1.out] at d1
        simp only [hFrg, d1]
        clear d1
        refine .inl ⟨rfl, ?_⟩
        unfold Reg.upon
        have hc : Crg Lq wq := hh.cls
        rw [HrghC.out] at hc
        go_simp
        refine (HWD.out wq (hc.1 (Mix.one_un (hh.notYet 4 (by kernel_rfl))))).mono ?_
        rintro e w2 ⟨rfl, hb⟩
        exact ⟨_, rfl, Hrgk.out 2 Lq w2 (by decide) (Hrgb.out Lq wq w2 hh.cls hb), (by rw [Hrge2.out]), Hrgxb.out wq w2 hb⟩
      · intro Lq wq xq hh
        have d0 : Erg 0 (xq 0) wq := hh.val 0 (by kernel_rfl) (by kernel_rfl)
        rw [Hrge0.out] at d0
        have d2 : Erg 2 (xq 2) wq := hh.val 2 (by kernel_rfl) (by kernel_rfl)
        rw [Hrge2.out] at d2
        simp only [hFrg, d0, d2]
        clear d0 d2
        refine .inl ⟨rfl, ?_⟩
        unfold Reg.upon
        have hk := Hrgk.out 3 Lq wq (by decide)  hh.cls
        have hx := Hrgx.out wq
        have he : Erg 3 (.int .i64 (s + wd)) wq := by rw [Hrge3.out]
        have HK := Lib.hid (And.intro hk (And.intro he hx))
        clear hk hx he
        go_simp
        exact HK.out
      · intro Lq wq xq hh
        have d3 : Erg 3 (xq 3) wq := hh.val 3 (by kernel_rfl) (by kernel_rfl)
        rw [Hrge3.out] at d3
        simp only [hFrg, d3]
        clear d3
        refine .inl ⟨rfl, ?_⟩
        unfold Reg.upon
        have hc : Crg Lq wq := hh.cls
        rw [HrghC.out] at hc
        have hbq := hc.1 hh.un
        have h4 := HH.out.below hbq HH.out.lt
        have c9 := h4.cell 0 _ rfl
        have f9 := h4.free 0
        have h5 := h4.set 0 (.int .i64 (s + wd))
        have u5 := (Upd.refl (fun b => b = w.heap.size) wq).setCell (p := ⟨w.heap.size, 0, none⟩) (.inl rfl) (.int .i64 (s + wd))
        have hF : Crg (Lq.setIfInBounds 4 true) (World.setCell wq ⟨w.heap.size, 0, none⟩ (.int .i64 (s + wd))) ∧ Erg 4 undef (World.setCell wq ⟨w.heap.size, 0, none⟩ (.int .i64 (s + wd))) ∧ Xrg wq (World.setCell wq ⟨w.heap.size, 0, none⟩ (.int .i64 (s + wd))) := by
          refine ⟨?_, by rw [Hrge4.out], by rw [HrghX.out]; exact u5⟩
          rw [HrghC.out]
          exact ⟨fun e9 => (by rw [Mix.one_set (by rw [hh.size]; decide)] at e9; exact absurd e9 (by decide)), fun _ => ⟨h5, (Upd.ofBelow hbq).trans u5⟩⟩
        clear hc h5 u5 h4 hbq
        go_simp
        try exact hF
    intro xq wrg hcrg hvrg
    rw [HrghC.out] at hcrg
    simp only [hFrg]
    clear hvrg hFrg Hrgk Hrgx Hrgst Hrgc HrghC HrghX Hrgb Hrgxb Hrge0 Hrge1 Hrge2 Hrge3 Hrge4
    obtain ⟨q1, q2⟩ := hcrg.2 (by kernel_rfl)
    have HF1 := Lib.hid (q2.mono (fun b _ e => (.inl e : b = w.heap.size ∨ hi ≤ b)))
    have HF2 := Lib.hid (show ColI w w.heap.size (w1.heap.size + 2) xs hi (pre ++ [x]) wrg from ⟨HHI.out.1, by rw [HSN.out]; exact q1, HL.out.upd q2 HL.out.size (fun b e => by omega), Nat.le_trans HHI.out.2 q2.size, by rw [List.length_append, List.length_singleton]; exact HPL.out⟩)
    clear hcrg q1 q2
    gi_wp2
    exact ⟨HF1.out, HF2.out⟩
end Go.Proofs.Ytkpmmkokfllafaa
/- measure.Items (21). -/
namespace Go.Proofs.Ytkpmmkokfllafaa
open Go.RowKit Go.ChangeShapes Go.WideShapes
attribute [local go_sem] Oper.semAt_some
/-- A text that may be written. -/
def frE (k : IntKind) : Elem (List Int) where
  size := 1
  zero := []
  rep := fun Z w C L => ∃ v, C = [v] ∧ HeldE (intE k) Z w v L ∧ ∀ b, v.ownBlock = some b → Z b ∧ b < w.heap.size ∧ ∃ D t, w.heap[b]? = some (.cells D t)
  len := by rintro _ _ _ _ ⟨v, rfl, _⟩; rfl
  one := by
    rintro _ _ _ _ ⟨v, rfl, h, _⟩ u hu
    simp at hu
    subst hu
    obtain ⟨ao, cap, rfl, _⟩ := h
    rfl
  keep := by
    rintro _ _ _ _ _ _ hk hy ⟨v, rfl, h, h2⟩
    refine ⟨v, rfl, h.keep hk hy, fun b e => ?_⟩
    obtain ⟨h3, h4, D, t, h5⟩ := h2 b e
    exact ⟨hy b h4 h3, Nat.lt_of_lt_of_le h4 hk.size, D, t, (hk.block b h4 h3).trans h5⟩
def itmE : Elem (Int × List Int) := prE (intE .i64) (frE .i32)
theorem itm_rep {Z : Zone} {w : World} {C : List Value} {x : Int × List Int} : itmE.rep Z w C x ↔ ∃ tv, C = [.int .i64 x.1, tv] ∧ HeldE (intE .i32) Z w tv x.2 ∧ ∀ b, tv.ownBlock = some b → Z b ∧ b < w.heap.size ∧ ∃ D t, w.heap[b]? = some (.cells D t) := by
  constructor
  · rintro ⟨C1, C2, rfl, rfl, tv, rfl, h⟩
    exact ⟨tv, rfl, h⟩
  · rintro ⟨tv, rfl, h⟩
    exact ⟨[_], [tv], rfl, rfl, tv, rfl, h⟩
/-- A row of the call's own is a text that may be written. -/
theorem fr_own {Z : Zone} {w : World} {B n : Nat} {ty : TypeId} {v : Value} {xs : List Int} (h : w.ownsRow B ty 1 v n (xs.map (Value.int .i32))) (hz : ∀ b, B ≤ b → b < w.heap.size → Z b) : HeldE (intE .i32) Z w v xs ∧ ∀ b, v.ownBlock = some b → Z b ∧ b < w.heap.size ∧ ∃ D t, w.heap[b]? = some (.cells D t) := by
  refine ⟨(ownE_ints (Z := Z) h).held hz, fun b e => ?_⟩
  have hl := (ownE_ints (Z := fun _ => True) h).lt b e
  refine ⟨hz b hl.1 hl.2, hl.2, ?_⟩
  rcases h.2 with ⟨rfl, _⟩ | ⟨g, cap, cur, rfl, _, hg, _⟩
  · cases e
  · simp [Value.ownBlock] at e
    subst e
    exact ⟨cur, ty, hg⟩
/-- A slice value of a text that may be written. -/
def FrT (Z : Zone) (w : World) (v : Value) (L : List Int) : Prop := HeldE (intE .i32) Z w v L ∧ ∀ b, v.ownBlock = some b → Z b ∧ b < w.heap.size ∧ ∃ D t, w.heap[b]? = some (.cells D t)
theorem itm_upd {Z S : Zone} {w w' : World} {v : Value} {L : List Int} (h : FrT Z w v L) (hu : Upd S w w') (hs : ∀ b, Z b → S b → False) : FrT Z w' v L := by
  refine ⟨h.1.upd hu (fun b hb e => hs b hb e), fun b e => ?_⟩
  obtain ⟨h3, h4, D, t, h5⟩ := h.2 b e
  exact ⟨h3, Nat.lt_of_lt_of_le h4 hu.size, D, t, (hu.keep.block b h4 (fun e => hs b h3 e)).trans h5⟩
theorem agg_upd {Z S : Zone} {w w' : World} {x : Value} {d : Int} {L : List Int} (h : ∃ v9, x = .agg #[.int .i64 d, v9] ∧ FrT Z w v9 L) (hu : Upd S w w') (hs : ∀ b, Z b → S b → False) : ∃ v9, x = .agg #[.int .i64 d, v9] ∧ FrT Z w' v9 L := by
  obtain ⟨v9, e, h⟩ := h
  exact ⟨v9, e, itm_upd h hu hs⟩
def itemsL (L : List (List Int)) : List (Int × List Int) := (L.filter fun T => !silB (T.getD 0 0)).map fun T => (wdC T, T.take 16)
def itemsC (xs : List Int) : List (Int × List Int) := itemsL (cluA xs)
theorem itemsL_len (L : List (List Int)) : (itemsL L).length ≤ L.length := by unfold itemsL; rw [List.length_map]; exact List.length_filter_le _ _
theorem itemsL_sil (L : List (List Int)) {T : List Int} (h : silB (T.getD 0 0) = true) : itemsL (L ++ [T]) = itemsL L := by
  unfold itemsL
  simp only [List.filter_append, List.map_append, List.filter_cons, List.filter_nil, h, Bool.not_true, Bool.false_eq_true, if_false, List.map_nil, List.append_nil]
theorem itemsL_add (L : List (List Int)) {T : List Int} (h : silB (T.getD 0 0) = false) : itemsL (L ++ [T]) = itemsL L ++ [(wdC T, T.take 16)] := by
  unfold itemsL
  simp only [List.filter_append, List.map_append, List.filter_cons, List.filter_nil, h, Bool.not_false, if_true, List.map_cons, List.map_nil]
end Go.Proofs.Ytkpmmkokfllafaa
/- The reference's Items (21). -/
namespace Go.Proofs.Ytkpmmkokfllafaa
open Go.RowKit Go.ChangeShapes Go.WideShapes
theorem itm_at {Z : Zone} {w : World} {ao : Option Addr} {n cap : Nat} {L : List (Int × List Int)} (h : HeldE itmE Z w (.slice ao n cap) L) : n = L.length ∧ n ≤ cap ∧ ∀ i, i < L.length → ∃ b off tv, ao = some ⟨b, off, none⟩ ∧ b < w.heap.size ∧ Z b ∧
    w.cell? ⟨b, off + i * 2, none⟩ = some (.int .i64 (L.getD i (0, [])).1) ∧ w.cell? ⟨b, off + i * 2 + 1, none⟩ = some tv ∧ FrT Z w tv (L.getD i (0, [])).2 := by
  obtain ⟨h1, h2, h3⟩ := h.spots
  refine ⟨h1, h2, fun i hi => ?_⟩
  obtain ⟨b, off, rfl, hb, hz, C, hC, hr⟩ := h3 i hi
  obtain ⟨tv, rfl, ht⟩ := itm_rep.1 hr
  exact ⟨b, off, tv, rfl, hb, hz, hC 0 (by decide), hC 1 (by decide), ht⟩
theorem itm_below {Z : Zone} {w w' : World} {v : Value} {L : List Int} (h : FrT Z w v L) (hb : Below w.heap.size w w') : FrT Z w' v L := itm_upd (S := fun _ => False) h (Upd.ofBelow hb) (fun _ _ h => h)
theorem agg_below {Z : Zone} {w w' : World} {x : Value} {d : Int} {L : List Int} (h : ∃ v9, x = .agg #[.int .i64 d, v9] ∧ FrT Z w v9 L) (hb : Below w.heap.size w w') : ∃ v9, x = .agg #[.int .i64 d, v9] ∧ FrT Z w' v9 L := agg_upd (S := fun _ => False) h (Upd.ofBelow hb) (fun _ _ h => h)
theorem sliceL_bounds {xs : List Int} (hr : bounds32 xs) (p : Nat × Nat) (h1 : p.1 ≤ p.2) (h2 : p.2 ≤ xs.length) : bounds32 (sliceL xs p) := by
  intro i hi
  rw [sliceL_len xs p h1 h2] at hi
  have := hr (p.1 + i) (by omega)
  rw [show (sliceL xs p).getD i 0 = xs.getD (p.1 + i) 0 from by
    unfold sliceL
    simp [List.getD, List.getElem?_take, hi, List.getElem?_drop]]
  exact this
/-- What is known of the k-th cluster. -/
theorem cluA_at (xs : List Int) (k : Nat) (h : k < (clS xs).length) : (cluA xs).getD k [] = sliceL xs ((clS xs).getD k (0, 0)) ∧ 0 < ((cluA xs).getD k []).length ∧ ((cluA xs).getD k []).length ≤ xs.length ∧ (bounds32 xs → bounds32 ((cluA xs).getD k [])) ∧ (cluA xs).take (k + 1) = (cluA xs).take k ++ [(cluA xs).getD k []] := by
  have e : (cluA xs).getD k [] = sliceL xs ((clS xs).getD k (0, 0)) := by
    unfold cluA
    simp [List.getD, List.getElem?_map, List.getElem?_eq_getElem h]
  have h2 := clS_ok xs k h
  refine ⟨e, ?_, ?_, fun hr => ?_, by rw [e]; exact cluA_take xs k h⟩
  · rw [e, clS_at xs k h, sliceL_len _ _ (Nat.le_of_lt h2.1) h2.2]; simp only; omega
  · rw [e, clS_at xs k h, sliceL_len _ _ (Nat.le_of_lt h2.1) h2.2]; simp only; omega
  · rw [e, clS_at xs k h]; exact sliceL_bounds hr _ (Nat.le_of_lt h2.1) h2.2
theorem clA_len (xs : List Int) : (cluA xs).length = (clS xs).length := by unfold cluA; rw [List.length_map]
end Go.Proofs.Ytkpmmkokfllafaa
/- Widths of texts with a blank between. Of no program's code. -/
namespace Go.Proofs.Ytkpmmkokfllafaa
open Go.RowKit Go.ChangeShapes Go.WideShapes
theorem cluA_join {a b : List Int} {r : Int} {t : List Int} (hb : b = r :: t) (hj : ∀ i, jR (knownL (a ++ b)) (a.length + i) = jR (knownL b) i) : cluA (a ++ b) = cluA a ++ cluA b := by
  have h0 : jR (knownL (a ++ b)) a.length = false := by have := hj 0; rw [Nat.add_zero, jR_zero] at this; exact this
  have hlb : b.length = t.length + 1 := by rw [hb]; rfl
  unfold cluA clS
  rw [List.length_append, hlb, spansB_cut _ _ _ h0, List.map_append, List.map_map]
  have e1 : spansB (jR (knownL (a ++ b))) a.length = spansB (jR (knownL a)) a.length := spansB_congr _ _ _ fun i hi => jR_congr i fun k hk => known_left a b k (by omega)
  have e2 : spansB (fun i => jR (knownL (a ++ b)) (a.length + i)) (t.length + 1) = spansB (jR (knownL b)) (t.length + 1) := spansB_congr _ _ _ fun i _ => hj i
  rw [e1, e2]
  congr 1
  · refine List.map_congr_left fun p hp => ?_
    have := spansB_ok _ _ _ hp
    unfold sliceL
    rw [List.drop_append_of_le_length (by omega), List.take_append_of_le_length (by rw [List.length_drop]; omega)]
  · refine List.map_congr_left fun p hp => ?_
    show sliceL (a ++ b) (a.length + p.1, a.length + p.2) = sliceL b p
    unfold sliceL
    simp only
    rw [List.drop_length_add_append]
    congr 1
    omega
theorem clu_blank (a t : List Int) (h : 0 < a.length → barB (gcbI (a.getD (a.length - 1) 0)) = false) : cluA (a ++ 32 :: t) = cluA a ++ cluA (32 :: t) := cluA_cut32 rfl rfl fun h0 => plain_join (h h0)
theorem clu_behind {b : List Int} {r : Int} {t : List Int} (hb : b = r :: t) (hr : gcbI r = 0) : cluA ([32] ++ b) = cluA [32] ++ cluA b := cluA_join hb fun i => join_after hb hr i
theorem sumW_append (A B : List (List Int)) : sumW (A ++ B) = sumW A + sumW B := by
  unfold sumW
  simp
theorem cols_blank (a t : List Int) (h : 0 < a.length → barB (gcbI (a.getD (a.length - 1) 0)) = false) : colsC (a ++ 32 :: t) = colsC a + colsC (32 :: t) := by
  unfold colsC
  rw [clu_blank a t h, sumW_append]
theorem cols_behind {b : List Int} {r : Int} {t : List Int} (hb : b = r :: t) (hr : gcbI r = 0) : colsC (32 :: b) = 1 + colsC b := by
  have h1 : colsC ([32] ++ b) = colsC [32] + colsC b := by
    unfold colsC
    rw [clu_behind hb hr, sumW_append]
  rw [show colsC [32] = 1 from by decide +kernel] at h1
  exact h1
end Go.Proofs.Ytkpmmkokfllafaa
/- Widths of texts with blanks ahead, behind and between. Of no program's code. -/
namespace Go.Proofs.Ytkpmmkokfllafaa
open Go.RowKit Go.ChangeShapes Go.WideShapes
/-- A text that nothing joins from ahead: empty, or its first member is of no class. -/
def OpensT (b : List Int) : Prop := b = [] ∨ ∃ r t, b = r :: t ∧ gcbI r = 0
/-- A text that joins nothing behind a break: empty, or its last member bars nothing. -/
def EndsT (a : List Int) : Prop := 0 < a.length → barB (gcbI (a.getD (a.length - 1) 0)) = false
theorem cols_nil : colsC [] = 0 := by decide +kernel
theorem opens_rep (n : Nat) {b : List Int} (hb : OpensT b) : OpensT (List.replicate n 32 ++ b) := by
  cases n with
  | zero => simpa using hb
  | succ n => exact .inr ⟨32, List.replicate n 32 ++ b, by rw [List.replicate_succ]; rfl, (blank_plain rfl).1⟩
theorem cols_ahead {b : List Int} (hb : OpensT b) : ∀ n : Nat, colsC (List.replicate n 32 ++ b) = n + colsC b
  | 0 => by simp
  | n + 1 => by
    have ih := cols_ahead hb n
    rw [List.replicate_succ, List.cons_append]
    rcases opens_rep n hb with h | ⟨r, t, h, hr⟩
    · rw [h] at ih ⊢
      rw [show colsC [32] = 1 from by decide +kernel]
      rw [cols_nil] at ih
      omega
    · rw [cols_behind h hr, ih]
      omega
theorem cols_end {a : List Int} (ha : EndsT a) (n : Nat) : colsC (a ++ List.replicate n 32) = colsC a + n := by
  cases n with
  | zero => simp
  | succ n =>
    rw [List.replicate_succ, cols_blank a _ ha]
    have := cols_ahead (b := []) (.inl rfl) (n + 1)
    rw [List.append_nil, List.replicate_succ, cols_nil] at this
    rw [this]
    omega
/-- Two texts with blanks between. -/
theorem cols_mid {a b : List Int} (ha : EndsT a) (hb : OpensT b) (n : Nat) : colsC (a ++ (List.replicate (n + 1) 32 ++ b)) = colsC a + (n + 1) + colsC b := by
  have h := cols_ahead hb (n + 1)
  rw [List.replicate_succ, List.cons_append] at h ⊢
  rw [cols_blank a _ ha, h]
  omega
theorem ends_rep {a : List Int} (n : Nat) : EndsT (a ++ List.replicate (n + 1) 32) := by
  intro _
  rw [show (a ++ List.replicate (n + 1) (32 : Int)).getD ((a ++ List.replicate (n + 1) (32 : Int)).length - 1) 0 = 32 from by
    rw [List.replicate_succ', ← List.append_assoc]
    simp [List.getD]]
  rw [(blank_plain rfl).1]
  decide
/-- A plain text opens and ends. -/
theorem plain_opens {xs : List Int} (h : plainB xs = true) : OpensT xs ∧ EndsT xs := by
  unfold plainB at h
  rw [Bool.and_eq_true] at h
  obtain ⟨h1, h2⟩ := h
  refine ⟨?_, fun hp => ?_⟩
  · cases xs with
    | nil => exact .inl rfl
    | cons r t => exact .inr ⟨r, t, rfl, by simpa using h2⟩
  · have := List.all_eq_true.1 h1 (xs.getD (xs.length - 1) 0) (by simp [List.getD, List.getElem?_eq_getElem (show xs.length - 1 < xs.length by omega)])
    simpa using this
end Go.Proofs.Ytkpmmkokfllafaa
