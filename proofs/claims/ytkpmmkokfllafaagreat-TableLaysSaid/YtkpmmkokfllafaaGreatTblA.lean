/- table: member, Widths (60). -/
import Derived.Test.YtkpmmkokfllafaaGreatMg8
import Derived.Test.YtkpmmkokfllafaaGreatMg1
import Derived.Lib.MinMax
import Derived.Deep.Cut
namespace Go.Proofs.YtkpmmkokfllafaaGreat
open Go.RowKit Go.ChangeShapes Go.WideShapes
attribute [local go_sem] Oper.semAt_some
def rowsE : Elem (List (List Int)) := slE rowE
def colE : Elem (Int × Int) := prE (intE .i64) (intE .i64)
theorem col_rep {Z : Zone} {w : World} {C : List Value} {x : Int × Int} : colE.rep Z w C x ↔ C = [.int .i64 x.1, .int .i64 x.2] := by
  constructor
  · rintro ⟨C1, C2, rfl, rfl, rfl⟩; rfl
  · rintro rfl; exact ⟨[_], [_], rfl, rfl, rfl⟩
def atC (rows : List (List (List Int))) (i k : Nat) : List Int := (rows.getD i []).getD k []
def maxW (rows : List (List (List Int))) (k : Nat) : Nat → Int
  | 0 => 0
  | i + 1 => max (maxW rows k i) (colsC (atC rows i k))
def mostW (most w : Int) : Int := if 0 < most then min w most else w
def widC (rows : List (List (List Int))) (k : Nat) (most : Int) : Int := min (mostW most (maxW rows k rows.length)) 1024
def widsC (rows : List (List (List Int))) (cols : List (Int × Int)) (n : Nat) : List Int := (List.range cols.length).map fun j => if j < n then widC rows j (cols.getD j (0, 0)).1 else 0
theorem wids_len (rows : List (List (List Int))) (cols : List (Int × Int)) (n : Nat) : (widsC rows cols n).length = cols.length := by simp [widsC]
theorem wids_at (rows : List (List (List Int))) (cols : List (Int × Int)) (n j : Nat) (h : j < cols.length) : (widsC rows cols n)[j]? = some (if j < n then widC rows j (cols.getD j (0, 0)).1 else 0) := by simp [widsC, h]
theorem wids_set (rows : List (List (List Int))) (cols : List (Int × Int)) (n : Nat) (h : n < cols.length) : (widsC rows cols n).set n (widC rows n (cols.getD n (0, 0)).1) = widsC rows cols (n + 1) := by
  apply List.ext_getElem?
  intro i
  by_cases hi : i < cols.length
  · by_cases e : i = n
    · subst e
      rw [List.getElem?_set_self (by rw [wids_len]; exact hi), wids_at _ _ _ _ hi, if_pos (by omega)]
    · rw [List.getElem?_set_ne (Ne.symm e), wids_at _ _ _ _ hi, wids_at _ _ _ _ hi]
      by_cases h2 : i < n
      · rw [if_pos h2, if_pos (by omega)]
      · rw [if_neg h2, if_neg (by omega)]
  · rw [List.getElem?_eq_none (by rw [List.length_set, wids_len]; omega), List.getElem?_eq_none (by rw [wids_len]; omega)]
theorem wids_zero (rows : List (List (List Int))) (cols : List (Int × Int)) : widsC rows cols 0 = List.replicate cols.length 0 := by
  apply List.ext_getElem?
  intro i
  by_cases hi : i < cols.length
  · rw [wids_at _ _ _ _ hi, if_neg (by omega)]; simp [hi]
  · rw [List.getElem?_eq_none (by rw [wids_len]; omega), List.getElem?_eq_none (by simp; omega)]
theorem maxW_bd (rows : List (List (List Int))) (k : Nat) (h : ∀ i, (atC rows i k).length ≤ 1000) : ∀ n, 0 ≤ maxW rows k n ∧ maxW rows k n ≤ 2000
  | 0 => ⟨Int.le_refl _, by show (0 : Int) ≤ 2000; decide⟩
  | n + 1 => by
    have h1 := maxW_bd rows k h n
    have h2 := colsC_bd (atC rows n k)
    have h3 := h n
    show 0 ≤ max _ _ ∧ max _ _ ≤ 2000
    omega
/-- An ints row of the call's own, in one block. -/
def IRow (w : World) (g : Nat) (L : List Int) : Prop := Has w g (L.map (Value.int .i64)) 3
theorem IRow.cell {w : World} {g : Nat} {L : List Int} (h : IRow w g L) {k : Nat} {x : Int} (hk : L[k]? = some x) : w.cell? ⟨g, k, none⟩ = some (.int .i64 x) := Has.cell h k _ (by rw [List.getElem?_map, hk]; rfl)
theorem IRow.set {w : World} {g : Nat} {L : List Int} (h : IRow w g L) (k : Nat) (x : Int) : IRow (w.setCell ⟨g, k, none⟩ (.int .i64 x)) g (L.set k x) := by
  have := Has.set h k (.int .i64 x)
  unfold IRow
  rw [List.map_set]
  exact this
theorem IRow.own {w : World} {g B : Nat} {L : List Int} (h : IRow w g L) (hB : B ≤ g) (hn : L.length ≤ 1000000) : w.ownsRow B 3 1 (.slice (some ⟨g, 0, none⟩) L.length L.length) L.length (L.map (Value.int .i64)) :=
  ⟨by simp, .inr ⟨g, L.length, _, rfl, hB, h, Nat.le_refl _, by unfold maxLen; omega, by simp, by simp [List.take_of_length_le]⟩⟩
set_option maxRecDepth 100000 in
set_option maxHeartbeats 1600000 in
theorem member_any (Z : Zone) (v : Value) (row : List (List Int)) (k : Nat) (w : World) (hv : HeldE rowE Z w v row) (hk : k ≤ 1000000) : ∃ tv, HeldE (intE .i32) Z w tv (row.getD k []) ∧ ∀ w', Below w.heap.size w w' → Calls Tryz.prog 12 #[v, .int .i64 (k : Int)] w' (fun e w9 => e = .returned tv ∧ w' = w9) := by
  obtain ⟨ao, ca, rfl⟩ := hv.len
  by_cases h : k < row.length
  · have hcap := hv.spots.2.1
    obtain ⟨b, o, e1, hb, hz, C1, q1, tv, hC1, ht⟩ := hv.spots.2.2 k h
    subst e1 hC1
    have d1 : w.cell? ⟨b, o + k, none⟩ = some tv := by have := q1 0 (by decide); simpa [show rowE.size = 1 from rfl] using this
    refine ⟨tv, ht, fun w' hb9 => ?_⟩
    have d2 := (hb9.cell (p := ⟨b, o + k, none⟩) hb).trans d1
    obtain ⟨n, hn⟩ : ∃ n, n = row.length := ⟨_, rfl⟩
    rw [← hn] at h hcap ⊢
    have hk0 : decide ((k : Int) < 0) = false := by rw [decide_eq_false_iff_not]; omega
    have hk1 : decide ((n : Int) ≤ (k : Int)) = false := by rw [decide_eq_false_iff_not]; omega
    have hk2 : decide (n ≤ k) = false := by rw [decide_eq_false_iff_not]; omega
    have hki : (k : Int) < n := by omega
    have hkc : k < ca := by omega
    clear hv hb9 q1 ht d1 hn
    go_enter Tryz.func12, Tryz.ntmps12
    go_wp2
    go_ret
    exact ⟨(ret_eq (by first | rfl | (simp <;> omega))), rfl⟩
  · refine ⟨.slice none 0 0, ?_, fun w' _ => ?_⟩
    · rw [show row.getD k [] = [] from by simp [List.getD, List.getElem?_eq_none (show row.length ≤ k by omega)]]
      exact HeldE.nil _ _ _
    obtain ⟨n, hn⟩ : ∃ n, n = row.length := ⟨_, rfl⟩
    rw [← hn] at h ⊢
    have hk0 : decide ((k : Int) < 0) = false := by rw [decide_eq_false_iff_not]; omega
    have hk1 : decide ((n : Int) ≤ (k : Int)) = true := by rw [decide_eq_true_eq]; omega
    have hk2 : decide (n ≤ k) = true := by rw [decide_eq_true_eq]; omega
    clear hv hn
    go_enter Tryz.func12, Tryz.ntmps12
    go_wp2
    go_ret
    exact ⟨(ret_eq (by first | rfl | (simp <;> omega))), rfl⟩
theorem made_repT (z : Value) (n : Nat) : madeCells #[z] n = (List.replicate n z).toArray := by
  apply Array.ext
  · simp [madeCells]
  · intro i h1 h2
    simp [madeCells, Nat.mod_one]
theorem info_iT : (Tryz.prog.info? 3).map (fun i => (i.zero, i.size, i.bytes)) = some (some (.int .i64 0), 1, 8) := by kernel_rfl
theorem has_of_ownT {w : World} {B g N ty : Nat} {xs : List Value} (h : w.ownsRow B ty 1 (.slice (some ⟨g, 0, none⟩) N N) N xs) : Has w g xs ty := by
  rcases h.2 with ⟨e, _⟩ | ⟨g', cap, cur, e, _, hg, _, _, hs, ht⟩
  · cases e
  · cases e
    have e2 : cur = xs.toArray := by
      rw [List.take_of_length_le (by rw [Array.length_toList, hs]; exact Nat.le_refl _)] at ht
      rw [← ht]
    rw [e2] at hg
    exact hg
set_option maxRecDepth 100000 in
set_option maxHeartbeats 3000000 in
theorem twid_any (v u : Value) (rows : List (List (List Int))) (cols : List (Int × Int)) (w : World) (hv : HeldE rowsE (fun b => b < w.heap.size) w v rows) (hu : HeldE colE (fun b => b < w.heap.size) w u cols) (hn : rows.length ≤ 1000) (hc : cols.length ≤ 1000) (ht : ∀ i k, (atC rows i k).length ≤ 1000) : Calls Tryz.prog 6 #[v, u] w (fun e w' => ∃ g, e = .returned (.slice (some ⟨g, 0, none⟩) cols.length cols.length) ∧ w.heap.size ≤ g ∧ IRow w' g (widsC rows cols cols.length) ∧ Below w.heap.size w w') := by
  obtain ⟨ao, ca, rfl⟩ := hv.len
  obtain ⟨bo, cb, rfl⟩ := hu.len
  have HV := Lib.hid hv
  have HU := Lib.hid hu
  have HT := Lib.hid ht
  have HWS := Lib.hid (fun n h => wids_set rows cols n h)
  have HWA := Lib.hid (fun n j h => wids_at rows cols n j h)
  have HWL := Lib.hid (fun n => wids_len rows cols n)
  have HMB := Lib.hid (fun k n => maxW_bd rows k (fun i => ht i k) n)
  have hcap1 := hv.spots.2.1
  have hcap2 := hu.spots.2.1
  obtain ⟨i0, hi, hz0, hz1, hz2⟩ := info_parts info_iT
  have hwz := wids_zero rows cols
  obtain ⟨rl, hrl⟩ : ∃ rl, rl = rows.length := ⟨_, rfl⟩
  obtain ⟨cl, hcl⟩ : ∃ cl, cl = cols.length := ⟨_, rfl⟩
  have HRL := Lib.hid hrl
  have HCL := Lib.hid hcl
  rw [← hrl] at hn hcap1 HV ⊢
  rw [← hcl] at hc hcap2 HU HWS HWA HWL hwz ⊢
  have HWZ := Lib.hid hwz
  clear hv hu ht hrl hcl hwz
  go_enter Tryz.func6, Tryz.ntmps6
  go_wp2_with (at_make; refine wpList_make_full w rfl (.tmp 11) (.tmp 11) 26 rfl w.heap.size 3 i0 (.int .i64 0) 1 Tryz.underlying26 hi hz0 hz1 .i64 .i64 _ _ cl rfl rfl rfl rfl (by rw [hz2]; omega) (by unfold maxLen; omega) (Nat.le_refl _) ?_)
  intro w2 hown2 hg2
  have hh2 := has_of_ownT hown2
  rw [made_repT, List.toList_toArray] at hh2
  have hb2 : Below w.heap.size w w2 := (Below.refl _ _).grown hg2 (Nat.le_refl _) (by intro k hk; cases hk)
  obtain ⟨g, hge⟩ : ∃ g, g = w.heap.size := ⟨_, rfl⟩
  have HGE := Lib.hid hge
  have HR2 := Lib.hid (show IRow w2 g (widsC rows cols 0) from by
    unfold IRow
    rw [HWZ.out, List.map_replicate, hge]
    exact hh2)
  rw [← hge]
  have HB2 := Lib.hid hb2
  clear hown2 hg2 hh2 hb2 hi hz0 hz1 hz2 hge
  go_wp2
  go_loopw [15] (fun kv wr => ∃ k : Nat, k ≤ cl ∧ kv = .int .i64 k ∧ IRow wr g (widsC rows cols k) ∧ Below w.heap.size w wr) (fun kv _ => cl - (intOf kv).toNat)
  case atStart => exact ⟨0, Nat.zero_le _, rfl, HR2.out, HB2.out⟩
  case round =>
    obtain ⟨k, hk, rfl, hrow, hbw⟩ := hrel
    obtain ⟨wk, hwk⟩ : ∃ wk, wk = wr := ⟨_, rfl⟩
    subst hwk
    have HROW := Lib.hid hrow
    have HBW := Lib.hid hbw
    clear hrow hbw
    by_cases hlt : k < cl
    · have hkc : k < cb := by omega
      have hki : (k : Int) < (cl : Int) := by omega
      have hwk : IntKind.i64.wrap ((k : Int) + 1) = (k : Int) + 1 := by rw [IntKind.wrap_i64]; omega
      obtain ⟨b, o, e, hb, hz, C, q, hr⟩ := HU.out.spots.2.2 k (by rw [← HCL.out]; exact hlt)
      subst e
      rw [col_rep] at hr
      subst hr
      have c0 := (HBW.out.cell (p := ⟨b, o + k * 2, none⟩) hb).trans (q 0 (by decide))
      have c1 := (HBW.out.cell (p := ⟨b, o + k * 2 + 1, none⟩) hb).trans (q 1 (by decide))
      simp only [List.getElem?_cons_zero, List.getElem?_cons_succ] at c0 c1
      have hws := HWS.out k hlt
      have hmx := HMB.out k rl
      rw [show colE.zero = ((0, 0) : Int × Int) from rfl] at c0 c1
      have hwd : widC rows k (cols.getD k (0, 0)).1 = min (mostW (cols.getD k (0, 0)).1 (maxW rows k rl)) 1024 := by rw [HRL.out]; rfl
      obtain ⟨⟨most, side⟩, hms⟩ : ∃ y, y = cols.getD k (0, 0) := ⟨_, rfl⟩
      rw [← hms] at c0 c1 hws hwd
      simp only at c0 c1 hws hwd
      rw [hwd] at hws
      have HWSS := Lib.hid hws
      clear q hms hwd hws hb hz
      have hb4 := (Below.refl wk.heap.size wk).alloc (Nat.le_refl _) (.cells #[.int .i64 most, .int .i64 side] 32)
      have hnew := Has.new wk [.int .i64 most, .int .i64 side] 32
      obtain ⟨bx, hbx⟩ : ∃ bx, bx = wk.heap.size := ⟨_, rfl⟩
      have HBX := Lib.hid hbx
      have HGL := Lib.hid (show g < wk.heap.size from Has.lt HROW.out)
      obtain ⟨w4, hw4⟩ : ∃ w4, w4 = wk.alloc (.cells #[.int .i64 most, .int .i64 side] 32) := ⟨_, rfl⟩
      have hnew : Has w4 bx [.int .i64 most, .int .i64 side] 32 := by rw [hw4, hbx]; exact hnew
      rw [← hw4] at hb4
      have HW4 := Lib.hid hw4
      have HNEW := Lib.hid hnew
      have hr4 : IRow w4 g (widsC rows cols k) := Has.below HROW.out hb4 HGL.out
      have hset0 : (widsC rows cols k).set k (maxW rows k 0) = widsC rows cols k := by
        apply List.ext_getElem?
        intro i
        by_cases e : i = k
        · subst e
          rw [List.getElem?_set_self (by rw [HWL.out]; exact hlt), HWA.out _ _ hlt, if_neg (by omega)]
          rfl
        · rw [List.getElem?_set_ne (Ne.symm e)]
      have HR4 := Lib.hid (show IRow w4 g ((widsC rows cols k).set k (maxW rows k 0)) from by rw [hset0]; exact hr4)
      have HB4 := Lib.hid (HBW.out.trans (hb4.mono HBW.out.size))
      have HGB := Lib.hid (show g ≠ bx from by have := HGL.out; omega)
      have HGW := Lib.hid (show w.heap.size ≤ g ∧ w.heap.size ≤ bx from by have := HGE.out; have := HBW.out.size; omega)
      clear hb4 hnew hr4 hset0 hw4 hbx
      go_upto_region 5 with (fail)
      rw [← HBX.out, ← HW4.out]
      clear c0 c1
      go_wp2
      go_loopw [22] (fun iv wr => ∃ i : Nat, i ≤ rl ∧ iv = .int .i64 i ∧ IRow wr g ((widsC rows cols k).set k (maxW rows k i)) ∧ Has wr bx [.int .i64 most, .int .i64 side] 32 ∧ Below w.heap.size w wr) (fun iv _ => rl - (intOf iv).toNat)
      case atStart => exact ⟨0, Nat.zero_le _, rfl, HR4.out, HNEW.out, HB4.out⟩
      case round =>
        obtain ⟨i, hi9, rfl, hrow, hbox, hbw⟩ := hrel
        obtain ⟨wi, hwi⟩ : ∃ wi, wi = wr := ⟨_, rfl⟩
        subst hwi
        have HRI := Lib.hid hrow
        have HXI := Lib.hid hbox
        have HBI := Lib.hid hbw
        clear hrow hbox hbw
        by_cases hlti : i < rl
        · have hic : i < ca := by omega
          have hii : (i : Int) < (rl : Int) := by omega
          have hwi9 : IntKind.i64.wrap ((i : Int) + 1) = (i : Int) + 1 := by rw [IntKind.wrap_i64]; omega
          obtain ⟨b2, o2, e2, hb2, hz2, C2, q2, rv, hC2, hrv⟩ := (HV.out.below HBI.out).spots.2.2 i (by rw [← HRL.out]; exact hlti)
          subst e2 hC2
          have d1 : wi.cell? ⟨b2, o2 + i, none⟩ = some rv := by have := q2 0 (by decide); simpa [show rowsE.size = 1 from rfl] using this
          rw [show rows.getD i rowsE.zero = rows.getD i [] from rfl] at hrv
          obtain ⟨tv, htv, hmem⟩ := member_any _ rv _ k wi hrv (by omega)
          rw [show (rows.getD i []).getD k [] = atC rows i k from rfl] at htv
          have htl := HT.out i k
          have hcol := fun w' (hb : Below wi.heap.size wi w') => mcols_any tv _ w' (htv.ints.below hb) (by omega)
          have hmx : maxW rows k (i + 1) = max (maxW rows k i) (colsC (atC rows i k)) := rfl
          have hmb1 := HMB.out k i
          have hcb := colsC_bd (atC rows i k)
          obtain ⟨cc, hcc⟩ : ∃ cc, cc = colsC (atC rows i k) := ⟨_, rfl⟩
          rw [← hcc] at hcol hmx hcb
          have hset : ((widsC rows cols k).set k (maxW rows k i)).set k (maxW rows k (i + 1)) = (widsC rows cols k).set k (maxW rows k (i + 1)) := by rw [List.set_set]
          have hat : ((widsC rows cols k).set k (maxW rows k i))[k]? = some (maxW rows k i) := List.getElem?_set_self (by rw [HWL.out]; exact hlt)
          obtain ⟨mx, hmxe⟩ : ∃ mx, mx = maxW rows k i := ⟨_, rfl⟩
          rw [← hmxe] at hmx hat hset HRI
          obtain ⟨WL, hWL⟩ : ∃ WL, WL = (widsC rows cols k).set k mx := ⟨_, rfl⟩
          rw [← hWL] at hset hat HRI
          rw [hmx] at hset
          have HSET := Lib.hid hset
          have HAT := Lib.hid hat
          have HMEM := Lib.hid hmem
          have HCOL := Lib.hid hcol
          have HMX := Lib.hid hmx
          have HLTI := Lib.hid (show g < wi.heap.size from Has.lt HRI.out)
          clear q2 hrv htv htl hmem hcol hcc hmxe hWL hset hat hmx hb2 hz2 hcb hmb1
          go_wp2
          obtain ⟨Erg, hErg⟩ : ∃ EE : Nat → Value → World → Prop, EE = fun jj xx ww => match jj with
              | 0 => xx = .slice (some ⟨g, 0, none⟩) cl cl
              | 1 => xx = .int .i64 (k : Int)
              | 2 => xx = .slice (some ⟨g, 0, none⟩) cl cl
              | 3 => xx = .int .i64 (k : Int)
              | 4 => xx = .pointer (some ⟨g, k, none⟩)
              | 5 => xx = .int .i64 mx
              | 6 => xx = rv
              | 7 => xx = .int .i64 (k : Int)
              | 8 => xx = tv
              | 9 => xx = .int .i64 cc
              | 10 => xx = .int .i64 (max mx cc)
              | 11 => xx = .pointer (some ⟨g, k, none⟩)
              | 12 => xx = undef
              | _ => True := ⟨_, rfl⟩
          have erg0 : ∀ xx ww, Erg 0 xx ww = (xx = .slice (some ⟨g, 0, none⟩) cl cl) := fun xx ww => congrFun (congrFun (congrFun hErg 0) xx) ww
          have erg1 : ∀ xx ww, Erg 1 xx ww = (xx = .int .i64 (k : Int)) := fun xx ww => congrFun (congrFun (congrFun hErg 1) xx) ww
          have erg2 : ∀ xx ww, Erg 2 xx ww = (xx = .slice (some ⟨g, 0, none⟩) cl cl) := fun xx ww => congrFun (congrFun (congrFun hErg 2) xx) ww
          have erg3 : ∀ xx ww, Erg 3 xx ww = (xx = .int .i64 (k : Int)) := fun xx ww => congrFun (congrFun (congrFun hErg 3) xx) ww
          have erg4 : ∀ xx ww, Erg 4 xx ww = (xx = .pointer (some ⟨g, k, none⟩)) := fun xx ww => congrFun (congrFun (congrFun hErg 4) xx) ww
          have erg5 : ∀ xx ww, Erg 5 xx ww = (xx = .int .i64 mx) := fun xx ww => congrFun (congrFun (congrFun hErg 5) xx) ww
          have erg6 : ∀ xx ww, Erg 6 xx ww = (xx = rv) := fun xx ww => congrFun (congrFun (congrFun hErg 6) xx) ww
          have erg7 : ∀ xx ww, Erg 7 xx ww = (xx = .int .i64 (k : Int)) := fun xx ww => congrFun (congrFun (congrFun hErg 7) xx) ww
          have erg8 : ∀ xx ww, Erg 8 xx ww = (xx = tv) := fun xx ww => congrFun (congrFun (congrFun hErg 8) xx) ww
          have erg9 : ∀ xx ww, Erg 9 xx ww = (xx = .int .i64 cc) := fun xx ww => congrFun (congrFun (congrFun hErg 9) xx) ww
          have erg10 : ∀ xx ww, Erg 10 xx ww = (xx = .int .i64 (max mx cc)) := fun xx ww => congrFun (congrFun (congrFun hErg 10) xx) ww
          have erg11 : ∀ xx ww, Erg 11 xx ww = (xx = .pointer (some ⟨g, k, none⟩)) := fun xx ww => congrFun (congrFun (congrFun hErg 11) xx) ww
          have erg12 : ∀ xx ww, Erg 12 xx ww = (xx = undef) := fun xx ww => congrFun (congrFun (congrFun hErg 12) xx) ww
          obtain ⟨Crg, hCrg⟩ : ∃ CC : Array Bool → World → Prop, CC = fun L8 w' => (Mix.one L8 12 = 0 → Below wi.heap.size wi w') ∧ (Mix.one L8 12 = 1 → IRow w' g (WL.set k (max mx cc)) ∧ Upd (fun b => b = g) wi w') := ⟨_, rfl⟩
          have krg : ∀ i L w, i ≠ 12 →  Crg L w → Crg (L.setIfInBounds i true) w := by
            intro i L w q12 h
            rw [hCrg] at h ⊢
            simp only [Mix.one_ne q12]; exact h
          obtain ⟨Xrg, hXrg⟩ : ∃ XX : World → World → Prop, XX = fun x y => Upd (fun b => b = g) x y := ⟨_, rfl⟩
          have xrg : ∀ w, Xrg w w := fun w => by rw [hXrg]; exact Upd.refl _ _
          have strg : ∀ j x w w1, Xrg w w1 → Erg j x w → Erg j x w1 := by
            intro j x w w1 hx h
            rw [hXrg] at hx
            match j with
            | 0 => rw [erg0] at h ⊢; exact h
            | 1 => rw [erg1] at h ⊢; exact h
            | 2 => rw [erg2] at h ⊢; exact h
            | 3 => rw [erg3] at h ⊢; exact h
            | 4 => rw [erg4] at h ⊢; exact h
            | 5 => rw [erg5] at h ⊢; exact h
            | 6 => rw [erg6] at h ⊢; exact h
            | 7 => rw [erg7] at h ⊢; exact h
            | 8 => rw [erg8] at h ⊢; exact h
            | 9 => rw [erg9] at h ⊢; exact h
            | 10 => rw [erg10] at h ⊢; exact h
            | 11 => rw [erg11] at h ⊢; exact h
            | 12 => rw [erg12] at h ⊢; exact h
            | j + 13 => rw [hErg]; trivial
          have crg : Crg (Array.replicate 13 false) wi.drew := by rw [hCrg]; exact ⟨fun _ => (Below.refl _ _).drew, fun e => absurd e (by decide)⟩
          have brg : ∀ L w w1, Crg L w → Below w.heap.size w w1 → Crg L w1 := by
            intro L w w1 h hb
            rw [hCrg] at h ⊢
            (obtain ⟨q1, q2⟩ := h; exact ⟨fun e => (q1 e).trans (hb.mono (q1 e).size), fun e => ⟨Has.below (q2 e).1 hb (Has.lt (q2 e).1), (q2 e).2.trans (.ofBelow hb)⟩⟩)
          have xbrg : ∀ w w1, Below w.heap.size w w1 → Xrg w w1 := by
            intro w w1 hb
            rw [hXrg]
            exact Upd.ofBelow hb
          have Hrgb := Lib.hid brg
          have Hrgxb := Lib.hid xbrg
          clear brg xbrg
          clear hErg
          have Hrgk := Lib.hid krg
          have Hrgx := Lib.hid xrg
          have Hrgst := Lib.hid strg
          have Hrgc := Lib.hid crg
          have HrghC := Lib.hid hCrg
          have HrghX := Lib.hid hXrg
          have Hrge0 := Lib.hid erg0
          have Hrge1 := Lib.hid erg1
          have Hrge2 := Lib.hid erg2
          have Hrge3 := Lib.hid erg3
          have Hrge4 := Lib.hid erg4
          have Hrge5 := Lib.hid erg5
          have Hrge6 := Lib.hid erg6
          have Hrge7 := Lib.hid erg7
          have Hrge8 := Lib.hid erg8
          have Hrge9 := Lib.hid erg9
          have Hrge10 := Lib.hid erg10
          have Hrge11 := Lib.hid erg11
          have Hrge12 := Lib.hid erg12
          clear krg xrg strg crg hCrg hXrg erg0 erg1 erg2 erg3 erg4 erg5 erg6 erg7 erg8 erg9 erg10 erg11 erg12
          go_wp2_with fail
          refine Reg.regionF Erg Crg Xrg Hrgst.out (by kernel_rfl) (by kernel_rfl) (by kernel_rfl) Hrgc.out (fun Frg hFrg => ?_)
          simp only [Reg.frame, Reg.dsts, List.map_cons, List.map_nil, Mix.put_lit, Reg.put_none, List.set_cons_succ, List.set_cons_zero, Nat.zero_add, Nat.reduceAdd] at hFrg
          refine ⟨?_, ?_⟩
          · refine ⟨?_, ?_, ?_, ?_, ?_, ?_, ?_, ?_, ?_, ?_, ?_, ?_, ?_, trivial⟩
            · intro Lq wq xq hh
              simp only [hFrg]
              refine .inl ⟨rfl, ?_⟩
              unfold Reg.upon
              have hk := Hrgk.out 0 Lq wq (by decide)  hh.cls
              have hx := Hrgx.out wq
              have he : Erg 0 (.slice (some ⟨g, 0, none⟩) cl cl) wq := by rw [Hrge0.out]
              have HK := Lib.hid (And.intro hk (And.intro he hx))
              clear hk hx he
              go_simp
              exact HK.out
            · intro Lq wq xq hh
              simp only [hFrg]
              refine .inl ⟨rfl, ?_⟩
              unfold Reg.upon
              have hk := Hrgk.out 1 Lq wq (by decide)  hh.cls
              have hx := Hrgx.out wq
              have he : Erg 1 (.int .i64 (k : Int)) wq := by rw [Hrge1.out]
              have HK := Lib.hid (And.intro hk (And.intro he hx))
              clear hk hx he
              go_simp
              exact HK.out
            · intro Lq wq xq hh
              simp only [hFrg]
              refine .inl ⟨rfl, ?_⟩
              unfold Reg.upon
              have hk := Hrgk.out 2 Lq wq (by decide)  hh.cls
              have hx := Hrgx.out wq
              have he : Erg 2 (.slice (some ⟨g, 0, none⟩) cl cl) wq := by rw [Hrge2.out]
              have HK := Lib.hid (And.intro hk (And.intro he hx))
              clear hk hx he
              go_simp
              exact HK.out
            · intro Lq wq xq hh
              simp only [hFrg]
              refine .inl ⟨rfl, ?_⟩
              unfold Reg.upon
              have hk := Hrgk.out 3 Lq wq (by decide)  hh.cls
              have hx := Hrgx.out wq
              have he : Erg 3 (.int .i64 (k : Int)) wq := by rw [Hrge3.out]
              have HK := Lib.hid (And.intro hk (And.intro he hx))
              clear hk hx he
              go_simp
              exact HK.out
            · intro Lq wq xq hh
              have d2 : Erg 2 (xq 2) wq := hh.val 2 (by kernel_rfl) (by kernel_rfl)
              rw [Hrge2.out] at d2
              have d3 : Erg 3 (xq 3) wq := hh.val 3 (by kernel_rfl) (by kernel_rfl)
              rw [Hrge3.out] at d3
              simp only [hFrg, d2, d3]
              clear d2 d3
              refine .inl ⟨rfl, ?_⟩
              unfold Reg.upon
              have hk := Hrgk.out 4 Lq wq (by decide)  hh.cls
              have hx := Hrgx.out wq
              have he : Erg 4 (.pointer (some ⟨g, k, none⟩)) wq := by rw [Hrge4.out]
              have HK := Lib.hid (And.intro hk (And.intro he hx))
              clear hk hx he
              go_simp
              exact HK.out
            · intro Lq wq xq hh
              have d4 : Erg 4 (xq 4) wq := hh.val 4 (by kernel_rfl) (by kernel_rfl)
              rw [Hrge4.out] at d4
              simp only [hFrg, d4]
              clear d4
              refine .inl ⟨rfl, ?_⟩
              unfold Reg.upon
              have hc : Crg Lq wq := hh.cls
              rw [HrghC.out] at hc
              have q0 := ((hc.1 (Mix.one_un (hh.notYet 12 (by kernel_rfl)))).cell (p := ⟨g, k, none⟩) HLTI.out).trans (HRI.out.cell HAT.out)
              clear hc
              have hk := Hrgk.out 5 Lq wq (by decide)  hh.cls
              have hx := Hrgx.out wq
              have he : Erg 5 (.int .i64 mx) wq := by rw [Hrge5.out]
              have HK := Lib.hid (And.intro hk (And.intro he hx))
              clear hk hx he
              go_simp
              exact HK.out
            · intro Lq wq xq hh
              simp only [hFrg]
              refine .inl ⟨rfl, ?_⟩
              unfold Reg.upon
              have hk := Hrgk.out 6 Lq wq (by decide)  hh.cls
              have hx := Hrgx.out wq
              have he : Erg 6 (rv) wq := by rw [Hrge6.out]
              have HK := Lib.hid (And.intro hk (And.intro he hx))
              clear hk hx he
              go_simp
              exact HK.out
            · intro Lq wq xq hh
              simp only [hFrg]
              refine .inl ⟨rfl, ?_⟩
              unfold Reg.upon
              have hk := Hrgk.out 7 Lq wq (by decide)  hh.cls
              have hx := Hrgx.out wq
              have he : Erg 7 (.int .i64 (k : Int)) wq := by rw [Hrge7.out]
              have HK := Lib.hid (And.intro hk (And.intro he hx))
              clear hk hx he
              go_simp
              exact HK.out
            · intro Lq wq xq hh
              have d6 : Erg 6 (xq 6) wq := hh.val 6 (by kernel_rfl) (by kernel_rfl)
              rw [Hrge6.out] at d6
              have d7 : Erg 7 (xq 7) wq := hh.val 7 (by kernel_rfl) (by kernel_rfl)
              rw [Hrge7.out] at d7
              simp only [hFrg, d6, d7]
              clear d6 d7
              refine .inl ⟨rfl, ?_⟩
              unfold Reg.upon
              have hc : Crg Lq wq := hh.cls
              rw [HrghC.out] at hc
              go_simp
              refine (HMEM.out wq (hc.1 (Mix.one_un (hh.notYet 12 (by kernel_rfl))))).mono ?_
              rintro e w2 ⟨rfl, rfl⟩
              exact ⟨_, rfl, Hrgk.out 8 Lq wq (by decide)  hh.cls, (by rw [Hrge8.out]; try rfl), Hrgx.out _⟩
            · intro Lq wq xq hh
              have d8 : Erg 8 (xq 8) wq := hh.val 8 (by kernel_rfl) (by kernel_rfl)
              rw [Hrge8.out] at d8
              simp only [hFrg, d8]
              clear d8
              refine .inl ⟨rfl, ?_⟩
              unfold Reg.upon
              have hc : Crg Lq wq := hh.cls
              rw [HrghC.out] at hc
              go_simp
              refine (HCOL.out wq (hc.1 (Mix.one_un (hh.notYet 12 (by kernel_rfl))))).mono ?_
              rintro e w5 ⟨rfl, hb⟩
              exact ⟨_, rfl, Hrgk.out 9 Lq w5 (by decide) (Hrgb.out Lq wq w5 hh.cls hb), (by rw [Hrge9.out]), Hrgxb.out wq w5 hb⟩
            · intro Lq wq xq hh
              have d5 : Erg 5 (xq 5) wq := hh.val 5 (by kernel_rfl) (by kernel_rfl)
              rw [Hrge5.out] at d5
              have d9 : Erg 9 (xq 9) wq := hh.val 9 (by kernel_rfl) (by kernel_rfl)
              rw [Hrge9.out] at d9
              simp only [hFrg, d5, d9]
              clear d5 d9
              refine .inl ⟨rfl, ?_⟩
              unfold Reg.upon
              have hk := Hrgk.out 10 Lq wq (by decide)  hh.cls
              have hx := Hrgx.out wq
              have he : Erg 10 (.int .i64 (max mx cc)) wq := by rw [Hrge10.out]
              have HK := Lib.hid (And.intro hk (And.intro he hx))
              clear hk hx he
              go_simp
              exact HK.out
            · intro Lq wq xq hh
              have d0 : Erg 0 (xq 0) wq := hh.val 0 (by kernel_rfl) (by kernel_rfl)
              rw [Hrge0.out] at d0
              have d1 : Erg 1 (xq 1) wq := hh.val 1 (by kernel_rfl) (by kernel_rfl)
              rw [Hrge1.out] at d1
              simp only [hFrg, d0, d1]
              clear d0 d1
              refine .inl ⟨rfl, ?_⟩
              unfold Reg.upon
              have hk := Hrgk.out 11 Lq wq (by decide)  hh.cls
              have hx := Hrgx.out wq
              have he : Erg 11 (.pointer (some ⟨g, k, none⟩)) wq := by rw [Hrge11.out]
              have HK := Lib.hid (And.intro hk (And.intro he hx))
              clear hk hx he
              go_simp
              exact HK.out
            · intro Lq wq xq hh
              have d10 : Erg 10 (xq 10) wq := hh.val 10 (by kernel_rfl) (by kernel_rfl)
              rw [Hrge10.out] at d10
              have d11 : Erg 11 (xq 11) wq := hh.val 11 (by kernel_rfl) (by kernel_rfl)
              rw [Hrge11.out] at d11
              simp only [hFrg, d10, d11]
              clear d10 d11
              refine .inl ⟨rfl, ?_⟩
              unfold Reg.upon
              have hc : Crg Lq wq := hh.cls
              rw [HrghC.out] at hc
              have hbq := hc.1 hh.un
              have h4 : IRow wq g WL := Has.below HRI.out hbq HLTI.out
              have c9 := h4.cell HAT.out
              have f9 := Has.free h4 k
              have h5 := h4.set k (max mx cc)
              have u5 := (Upd.refl (fun b => b = g) wq).setCell (p := ⟨g, k, none⟩) (.inl rfl) (.int .i64 (max mx cc))
              have hF : Crg (Lq.setIfInBounds 12 true) (World.setCell wq ⟨g, k, none⟩ (.int .i64 (max mx cc))) ∧ Erg 12 undef (World.setCell wq ⟨g, k, none⟩ (.int .i64 (max mx cc))) ∧ Xrg wq (World.setCell wq ⟨g, k, none⟩ (.int .i64 (max mx cc))) := by
                refine ⟨?_, by rw [Hrge12.out], by rw [HrghX.out]; exact u5⟩
                rw [HrghC.out]
                exact ⟨fun e9 => (by rw [Mix.one_set (by rw [hh.size]; decide)] at e9; exact absurd e9 (by decide)), fun _ => ⟨h5, (Upd.ofBelow hbq).trans u5⟩⟩
              clear hc h5 u5 h4 hbq
              go_simp
              try exact hF
          intro xq wrg hcrg hvrg
          rw [HrghC.out] at hcrg
          simp only [hFrg]
          clear hvrg hFrg Hrgk Hrgx Hrgst Hrgc HrghC HrghX Hrgb Hrgxb Hrge0 Hrge1 Hrge2 Hrge3 Hrge4 Hrge5 Hrge6 Hrge7 Hrge8 Hrge9 Hrge10 Hrge11 Hrge12
          obtain ⟨k3, k4⟩ := hcrg.2 (by kernel_rfl)
          rw [HSET.out] at k3
          have HF1 := Lib.hid (show IRow wrg g ((widsC rows cols k).set k (maxW rows k (i + 1))) from by rw [HMX.out]; exact k3)
          have HF2 := Lib.hid (k4.keep.has HXI.out (fun e => HGB.out e.symm))
          have HF3 := Lib.hid (HBI.out.upd k4 HBI.out.size (fun b e => by have := HGW.out; omega))
          clear k3 k4 hcrg
          go_wp2
          go_roundw
          case rel => exact ⟨i + 1, by omega, by go_num, HF1.out, HF2.out, HF3.out⟩
          case measure => simp [intOf] <;> omega
        · obtain rfl : i = rl := by omega
          have hat : ((widsC rows cols k).set k (maxW rows k i))[k]? = some (maxW rows k i) := List.getElem?_set_self (by rw [HWL.out]; exact hlt)
          have hset : ((widsC rows cols k).set k (maxW rows k i)).set k (min (mostW most (maxW rows k i)) 1024) = widsC rows cols (k + 1) := by rw [List.set_set]; exact HWSS.out
          obtain ⟨mx, hmxe⟩ : ∃ mx, mx = maxW rows k i := ⟨_, rfl⟩
          rw [← hmxe] at hat hset hmx HRI
          obtain ⟨WL, hWL⟩ : ∃ WL, WL = (widsC rows cols k).set k mx := ⟨_, rfl⟩
          rw [← hWL] at hset hat HRI
          have HSET := Lib.hid hset
          have HAT := Lib.hid hat
          have HLTI := Lib.hid (show g < wi.heap.size from Has.lt HRI.out)
          have cb0 := HXI.out.cell 0 _ rfl
          clear hset hat hmxe hWL
          by_cases hmo : 0 < most
          · have hg0 : decide ((0 : Int) < most) = true := by rw [decide_eq_true_eq]; exact hmo
            have hmm : mostW most mx = min mx most := by unfold mostW; rw [if_pos hmo]
            rw [hmm] at HSET
            clear hmo hmm
            go_wp2
            obtain ⟨Ergb, hErgb⟩ : ∃ EE : Nat → Value → World → Prop, EE = fun jj xx ww => match jj with
                | 0 => xx = .slice (some ⟨g, 0, none⟩) cl cl
                | 1 => xx = .int .i64 (k : Int)
                | 2 => xx = .slice (some ⟨g, 0, none⟩) cl cl
                | 3 => xx = .int .i64 (k : Int)
                | 4 => xx = .pointer (some ⟨g, k, none⟩)
                | 5 => xx = .int .i64 mx
                | 6 => xx = .pointer (some ⟨bx, 0, none⟩)
                | 7 => xx = .int .i64 most
                | 8 => xx = .int .i64 (min mx most)
                | 9 => xx = .pointer (some ⟨g, k, none⟩)
                | 10 => xx = undef
                | _ => True := ⟨_, rfl⟩
            have ergb0 : ∀ xx ww, Ergb 0 xx ww = (xx = .slice (some ⟨g, 0, none⟩) cl cl) := fun xx ww => congrFun (congrFun (congrFun hErgb 0) xx) ww
            have ergb1 : ∀ xx ww, Ergb 1 xx ww = (xx = .int .i64 (k : Int)) := fun xx ww => congrFun (congrFun (congrFun hErgb 1) xx) ww
            have ergb2 : ∀ xx ww, Ergb 2 xx ww = (xx = .slice (some ⟨g, 0, none⟩) cl cl) := fun xx ww => congrFun (congrFun (congrFun hErgb 2) xx) ww
            have ergb3 : ∀ xx ww, Ergb 3 xx ww = (xx = .int .i64 (k : Int)) := fun xx ww => congrFun (congrFun (congrFun hErgb 3) xx) ww
            have ergb4 : ∀ xx ww, Ergb 4 xx ww = (xx = .pointer (some ⟨g, k, none⟩)) := fun xx ww => congrFun (congrFun (congrFun hErgb 4) xx) ww
            have ergb5 : ∀ xx ww, Ergb 5 xx ww = (xx = .int .i64 mx) := fun xx ww => congrFun (congrFun (congrFun hErgb 5) xx) ww
            have ergb6 : ∀ xx ww, Ergb 6 xx ww = (xx = .pointer (some ⟨bx, 0, none⟩)) := fun xx ww => congrFun (congrFun (congrFun hErgb 6) xx) ww
            have ergb7 : ∀ xx ww, Ergb 7 xx ww = (xx = .int .i64 most) := fun xx ww => congrFun (congrFun (congrFun hErgb 7) xx) ww
            have ergb8 : ∀ xx ww, Ergb 8 xx ww = (xx = .int .i64 (min mx most)) := fun xx ww => congrFun (congrFun (congrFun hErgb 8) xx) ww
            have ergb9 : ∀ xx ww, Ergb 9 xx ww = (xx = .pointer (some ⟨g, k, none⟩)) := fun xx ww => congrFun (congrFun (congrFun hErgb 9) xx) ww
            have ergb10 : ∀ xx ww, Ergb 10 xx ww = (xx = undef) := fun xx ww => congrFun (congrFun (congrFun hErgb 10) xx) ww
            obtain ⟨Crgb, hCrgb⟩ : ∃ CC : Array Bool → World → Prop, CC = fun L8 w' => (Mix.one L8 10 = 0 → Below wi.heap.size wi w') ∧ (Mix.one L8 10 = 1 → IRow w' g (WL.set k (min mx most)) ∧ Upd (fun b => b = g) wi w') := ⟨_, rfl⟩
            have krgb : ∀ i L w, i ≠ 10 →  Crgb L w → Crgb (L.setIfInBounds i true) w := by
              intro i L w q10 h
              rw [hCrgb] at h ⊢
              simp only [Mix.one_ne q10]; exact h
            obtain ⟨Xrgb, hXrgb⟩ : ∃ XX : World → World → Prop, XX = fun x y => Upd (fun b => b = g) x y := ⟨_, rfl⟩
            have xrgb : ∀ w, Xrgb w w := fun w => by rw [hXrgb]; exact Upd.refl _ _
            have strgb : ∀ j x w w1, Xrgb w w1 → Ergb j x w → Ergb j x w1 := by
              intro j x w w1 hx h
              rw [hXrgb] at hx
              match j with
              | 0 => rw [ergb0] at h ⊢; exact h
              | 1 => rw [ergb1] at h ⊢; exact h
              | 2 => rw [ergb2] at h ⊢; exact h
              | 3 => rw [ergb3] at h ⊢; exact h
              | 4 => rw [ergb4] at h ⊢; exact h
              | 5 => rw [ergb5] at h ⊢; exact h
              | 6 => rw [ergb6] at h ⊢; exact h
              | 7 => rw [ergb7] at h ⊢; exact h
              | 8 => rw [ergb8] at h ⊢; exact h
              | 9 => rw [ergb9] at h ⊢; exact h
              | 10 => rw [ergb10] at h ⊢; exact h
              | j + 11 => rw [hErgb]; trivial
            have crgb : Crgb (Array.replicate 11 false) wi.drew := by rw [hCrgb]; exact ⟨fun _ => (Below.refl _ _).drew, fun e => absurd e (by decide)⟩
            have brgb : ∀ L w w1, Crgb L w → Below w.heap.size w w1 → Crgb L w1 := by
              intro L w w1 h hb
              rw [hCrgb] at h ⊢
              (obtain ⟨q1, q2⟩ := h; exact ⟨fun e => (q1 e).trans (hb.mono (q1 e).size), fun e => ⟨Has.below (q2 e).1 hb (Has.lt (q2 e).1), (q2 e).2.trans (.ofBelow hb)⟩⟩)
            have xbrgb : ∀ w w1, Below w.heap.size w w1 → Xrgb w w1 := by
              intro w w1 hb
              rw [hXrgb]
              exact Upd.ofBelow hb
            have Hrgbb := Lib.hid brgb
            have Hrgbxb := Lib.hid xbrgb
            clear brgb xbrgb
            clear hErgb
            have Hrgbk := Lib.hid krgb
            have Hrgbx := Lib.hid xrgb
            have Hrgbst := Lib.hid strgb
            have Hrgbc := Lib.hid crgb
            have HrgbhC := Lib.hid hCrgb
            have HrgbhX := Lib.hid hXrgb
            have Hrgbe0 := Lib.hid ergb0
            have Hrgbe1 := Lib.hid ergb1
            have Hrgbe2 := Lib.hid ergb2
            have Hrgbe3 := Lib.hid ergb3
            have Hrgbe4 := Lib.hid ergb4
            have Hrgbe5 := Lib.hid ergb5
            have Hrgbe6 := Lib.hid ergb6
            have Hrgbe7 := Lib.hid ergb7
            have Hrgbe8 := Lib.hid ergb8
            have Hrgbe9 := Lib.hid ergb9
            have Hrgbe10 := Lib.hid ergb10
            clear krgb xrgb strgb crgb hCrgb hXrgb ergb0 ergb1 ergb2 ergb3 ergb4 ergb5 ergb6 ergb7 ergb8 ergb9 ergb10
            go_wp2_with fail
            refine Reg.regionF Ergb Crgb Xrgb Hrgbst.out (by kernel_rfl) (by kernel_rfl) (by kernel_rfl) Hrgbc.out (fun Frgb hFrgb => ?_)
            simp only [Reg.frame, Reg.dsts, List.map_cons, List.map_nil, Mix.put_lit, Reg.put_none, List.set_cons_succ, List.set_cons_zero, Nat.zero_add, Nat.reduceAdd] at hFrgb
            refine ⟨?_, ?_⟩
            · refine ⟨?_, ?_, ?_, ?_, ?_, ?_, ?_, ?_, ?_, ?_, ?_, trivial⟩
              · intro Lq wq xq hh
                simp only [hFrgb]
                refine .inl ⟨rfl, ?_⟩
                unfold Reg.upon
                have hk := Hrgbk.out 0 Lq wq (by decide)  hh.cls
                have hx := Hrgbx.out wq
                have he : Ergb 0 (.slice (some ⟨g, 0, none⟩) cl cl) wq := by rw [Hrgbe0.out]
                have HK := Lib.hid (And.intro hk (And.intro he hx))
                clear hk hx he
                go_simp
                exact HK.out
              · intro Lq wq xq hh
                simp only [hFrgb]
                refine .inl ⟨rfl, ?_⟩
                unfold Reg.upon
                have hk := Hrgbk.out 1 Lq wq (by decide)  hh.cls
                have hx := Hrgbx.out wq
                have he : Ergb 1 (.int .i64 (k : Int)) wq := by rw [Hrgbe1.out]
                have HK := Lib.hid (And.intro hk (And.intro he hx))
                clear hk hx he
                go_simp
                exact HK.out
              · intro Lq wq xq hh
                simp only [hFrgb]
                refine .inl ⟨rfl, ?_⟩
                unfold Reg.upon
                have hk := Hrgbk.out 2 Lq wq (by decide)  hh.cls
                have hx := Hrgbx.out wq
                have he : Ergb 2 (.slice (some ⟨g, 0, none⟩) cl cl) wq := by rw [Hrgbe2.out]
                have HK := Lib.hid (And.intro hk (And.intro he hx))
                clear hk hx he
                go_simp
                exact HK.out
              · intro Lq wq xq hh
                simp only [hFrgb]
                refine .inl ⟨rfl, ?_⟩
                unfold Reg.upon
                have hk := Hrgbk.out 3 Lq wq (by decide)  hh.cls
                have hx := Hrgbx.out wq
                have he : Ergb 3 (.int .i64 (k : Int)) wq := by rw [Hrgbe3.out]
                have HK := Lib.hid (And.intro hk (And.intro he hx))
                clear hk hx he
                go_simp
                exact HK.out
              · intro Lq wq xq hh
                have d2 : Ergb 2 (xq 2) wq := hh.val 2 (by kernel_rfl) (by kernel_rfl)
                rw [Hrgbe2.out] at d2
                have d3 : Ergb 3 (xq 3) wq := hh.val 3 (by kernel_rfl) (by kernel_rfl)
                rw [Hrgbe3.out] at d3
                simp only [hFrgb, d2, d3]
                clear d2 d3
                refine .inl ⟨rfl, ?_⟩
                unfold Reg.upon
                have hk := Hrgbk.out 4 Lq wq (by decide)  hh.cls
                have hx := Hrgbx.out wq
                have he : Ergb 4 (.pointer (some ⟨g, k, none⟩)) wq := by rw [Hrgbe4.out]
                have HK := Lib.hid (And.intro hk (And.intro he hx))
                clear hk hx he
                go_simp
                exact HK.out
              · intro Lq wq xq hh
                have d4 : Ergb 4 (xq 4) wq := hh.val 4 (by kernel_rfl) (by kernel_rfl)
                rw [Hrgbe4.out] at d4
                simp only [hFrgb, d4]
                clear d4
                refine .inl ⟨rfl, ?_⟩
                unfold Reg.upon
                have hc : Crgb Lq wq := hh.cls
                rw [HrgbhC.out] at hc
                have q0 := ((hc.1 (Mix.one_un (hh.notYet 10 (by kernel_rfl)))).cell (p := ⟨g, k, none⟩) HLTI.out).trans (HRI.out.cell HAT.out)
                clear hc
                have hk := Hrgbk.out 5 Lq wq (by decide)  hh.cls
                have hx := Hrgbx.out wq
                have he : Ergb 5 (.int .i64 mx) wq := by rw [Hrgbe5.out]
                have HK := Lib.hid (And.intro hk (And.intro he hx))
                clear hk hx he
                go_simp
                exact HK.out
              · intro Lq wq xq hh
                simp only [hFrgb]
                refine .inl ⟨rfl, ?_⟩
                unfold Reg.upon
                have hk := Hrgbk.out 6 Lq wq (by decide)  hh.cls
                have hx := Hrgbx.out wq
                have he : Ergb 6 (.pointer (some ⟨bx, 0, none⟩)) wq := by rw [Hrgbe6.out]
                have HK := Lib.hid (And.intro hk (And.intro he hx))
                clear hk hx he
                go_simp
                exact HK.out
              · intro Lq wq xq hh
                have d6 : Ergb 6 (xq 6) wq := hh.val 6 (by kernel_rfl) (by kernel_rfl)
                rw [Hrgbe6.out] at d6
                simp only [hFrgb, d6]
                clear d6
                refine .inl ⟨rfl, ?_⟩
                unfold Reg.upon
                have hc : Crgb Lq wq := hh.cls
                rw [HrgbhC.out] at hc
                have q0 := ((hc.1 (Mix.one_un (hh.notYet 10 (by kernel_rfl)))).cell (p := ⟨bx, 0, none⟩) HXI.out.lt).trans (HXI.out.cell 0 _ rfl)
                clear hc
                have hk := Hrgbk.out 7 Lq wq (by decide)  hh.cls
                have hx := Hrgbx.out wq
                have he : Ergb 7 (.int .i64 most) wq := by rw [Hrgbe7.out]
                have HK := Lib.hid (And.intro hk (And.intro he hx))
                clear hk hx he
                go_simp
                exact HK.out
              · intro Lq wq xq hh
                have d5 : Ergb 5 (xq 5) wq := hh.val 5 (by kernel_rfl) (by kernel_rfl)
                rw [Hrgbe5.out] at d5
                have d7 : Ergb 7 (xq 7) wq := hh.val 7 (by kernel_rfl) (by kernel_rfl)
                rw [Hrgbe7.out] at d7
                simp only [hFrgb, d5, d7]
                clear d5 d7
                refine .inl ⟨rfl, ?_⟩
                unfold Reg.upon
                have hk := Hrgbk.out 8 Lq wq (by decide)  hh.cls
                have hx := Hrgbx.out wq
                have he : Ergb 8 (.int .i64 (min mx most)) wq := by rw [Hrgbe8.out]
                have HK := Lib.hid (And.intro hk (And.intro he hx))
                clear hk hx he
                go_simp
                exact HK.out
              · intro Lq wq xq hh
                have d0 : Ergb 0 (xq 0) wq := hh.val 0 (by kernel_rfl) (by kernel_rfl)
                rw [Hrgbe0.out] at d0
                have d1 : Ergb 1 (xq 1) wq := hh.val 1 (by kernel_rfl) (by kernel_rfl)
                rw [Hrgbe1.out] at d1
                simp only [hFrgb, d0, d1]
                clear d0 d1
                refine .inl ⟨rfl, ?_⟩
                unfold Reg.upon
                have hk := Hrgbk.out 9 Lq wq (by decide)  hh.cls
                have hx := Hrgbx.out wq
                have he : Ergb 9 (.pointer (some ⟨g, k, none⟩)) wq := by rw [Hrgbe9.out]
                have HK := Lib.hid (And.intro hk (And.intro he hx))
                clear hk hx he
                go_simp
                exact HK.out
              · intro Lq wq xq hh
                have d8 : Ergb 8 (xq 8) wq := hh.val 8 (by kernel_rfl) (by kernel_rfl)
                rw [Hrgbe8.out] at d8
                have d9 : Ergb 9 (xq 9) wq := hh.val 9 (by kernel_rfl) (by kernel_rfl)
                rw [Hrgbe9.out] at d9
                simp only [hFrgb, d8, d9]
                clear d8 d9
                refine .inl ⟨rfl, ?_⟩
                unfold Reg.upon
                have hc : Crgb Lq wq := hh.cls
                rw [HrgbhC.out] at hc
                have hbq := hc.1 hh.un
                have h4 : IRow wq g WL := Has.below HRI.out hbq HLTI.out
                have c9 := h4.cell HAT.out
                have f9 := Has.free h4 k
                have h5 := h4.set k (min mx most)
                have u5 := (Upd.refl (fun b => b = g) wq).setCell (p := ⟨g, k, none⟩) (.inl rfl) (.int .i64 (min mx most))
                have hF : Crgb (Lq.setIfInBounds 10 true) (World.setCell wq ⟨g, k, none⟩ (.int .i64 (min mx most))) ∧ Ergb 10 undef (World.setCell wq ⟨g, k, none⟩ (.int .i64 (min mx most))) ∧ Xrgb wq (World.setCell wq ⟨g, k, none⟩ (.int .i64 (min mx most))) := by
                  refine ⟨?_, by rw [Hrgbe10.out], by rw [HrgbhX.out]; exact u5⟩
                  rw [HrgbhC.out]
                  exact ⟨fun e9 => (by rw [Mix.one_set (by rw [hh.size]; decide)] at e9; exact absurd e9 (by decide)), fun _ => ⟨h5, (Upd.ofBelow hbq).trans u5⟩⟩
                clear hc h5 u5 h4 hbq
                go_simp
                try exact hF
            intro xq wrgb hcrgb hvrgb
            rw [HrgbhC.out] at hcrgb
            simp only [hFrgb]
            clear hvrgb hFrgb Hrgbk Hrgbx Hrgbst Hrgbc HrgbhC HrgbhX Hrgbb Hrgbxb Hrgbe0 Hrgbe1 Hrgbe2 Hrgbe3 Hrgbe4 Hrgbe5 Hrgbe6 Hrgbe7 Hrgbe8 Hrgbe9 Hrgbe10
            obtain ⟨k3, k4⟩ := hcrgb.2 (by kernel_rfl)
            have hat2 : (WL.set k (min mx most))[k]? = some (min mx most) := List.getElem?_set_self (by
              have := (List.getElem?_eq_some_iff.1 HAT.out).1; exact this)
            have c2 := k3.cell hat2
            have f2 := Has.free k3 k
            have s2 := k3.set k (min (min mx most) 1024)
            rw [List.set_set, HSET.out] at s2
            have u2 := k4.trans ((Upd.refl (fun b => b = g) wrgb).setCell (p := ⟨g, k, none⟩) (.inl rfl) (.int .i64 (min (min mx most) 1024)))
            rw [Int.min_assoc] at s2 u2
            have HF1 := Lib.hid s2
            have HF3 := Lib.hid (HBI.out.upd u2 HBI.out.size (fun b e => by have := HGW.out; omega))
            clear k3 k4 hcrgb s2 u2 hat2 cb0
            go_wp2
            go_roundw
            case rel => exact ⟨k + 1, by omega, by go_num, HF1.out, HF3.out⟩
            case measure => simp [intOf] <;> omega
          · have hg0 : decide ((0 : Int) < most) = false := by rw [decide_eq_false_iff_not]; exact hmo
            have hmm : mostW most mx = mx := by unfold mostW; rw [if_neg hmo]
            rw [hmm] at HSET
            have c2 := HRI.out.cell HAT.out
            have f2 := Has.free HRI.out k
            have s2 := HRI.out.set k (min mx 1024)
            rw [HSET.out] at s2
            have u2 := (Upd.refl (fun b => b = g) wi).setCell (p := ⟨g, k, none⟩) (.inl rfl) (.int .i64 (min mx 1024))
            have HF1 := Lib.hid s2
            have HF3 := Lib.hid (HBI.out.upd u2 HBI.out.size (fun b e => by have := HGW.out; omega))
            clear s2 u2 hmo hmm
            go_wp2
            go_roundw
            case rel => exact ⟨k + 1, by omega, by go_num, HF1.out, HF3.out⟩
            case measure => simp [intOf] <;> omega
    · obtain rfl : k = cl := by omega
      have HG9 := Lib.hid (show w.heap.size ≤ g from by have := HGE.out; omega)
      go_wp2
      go_ret
      exact ⟨g, (ret_eq (by first | rfl | (simp <;> omega))), HG9.out, HROW.out, HBW.out⟩
end Go.Proofs.YtkpmmkokfllafaaGreat
