/- table: Lines (60). -/
import Derived.Test.YtkpmmkokfllafaaGreatTblA
import Derived.Test.YtkpmmkokfllafaaGreatMg6
import Derived.Test.YtkpmmkokfllafaaGreatMg1
namespace Go.Proofs.YtkpmmkokfllafaaGreat
open Go.RowKit Go.ChangeShapes Go.WideShapes
attribute [local go_sem] Oper.semAt_some
def gapC (gap : Int) : Int := min (max gap 0) 1024
def blC (gap : Int) (k : Nat) : List Int := if k = 0 then [] else padC (gapC gap) 0 []
def fitK (rows : List (List (List Int))) (cols : List (Int × Int)) (i k : Nat) : List Int := fitC (widC rows k (cols.getD k (0, 0)).1) (cols.getD k (0, 0)).2 (atC rows i k) []
/-- The i-th line, so far as its first columns go. -/
def lineC (rows : List (List (List Int))) (cols : List (Int × Int)) (gap : Int) (i : Nat) : Nat → List Int
  | 0 => []
  | k + 1 => lineC rows cols gap i k ++ blC gap k ++ fitK rows cols i k
theorem fitK_len (rows : List (List (List Int))) (cols : List (Int × Int)) (i k : Nat) (h : (atC rows i k).length ≤ 1000) : (fitK rows cols i k).length ≤ 2024 := by
  have := fit_len (widC rows k (cols.getD k (0, 0)).1) (cols.getD k (0, 0)).2 (atC rows i k) []
  unfold fitK
  simp only [List.length_nil] at this
  omega
theorem blC_len (gap : Int) (k : Nat) : (blC gap k).length ≤ 1024 := by
  unfold blC
  split
  · simp
  · rw [pad_len]
    have := lack_le (gapC gap) []
    simp only [List.length_nil]
    omega
theorem lineC_len (rows : List (List (List Int))) (cols : List (Int × Int)) (gap : Int) (i : Nat) (h : ∀ k, (atC rows i k).length ≤ 1000) : ∀ k, (lineC rows cols gap i k).length ≤ k * 4000
  | 0 => by simp [lineC]
  | k + 1 => by
    have h1 := lineC_len rows cols gap i h k
    have h2 := fitK_len rows cols i k (h k)
    have h3 := blC_len gap k
    show (_ ++ _ ++ _ : List Int).length ≤ _
    rw [List.length_append, List.length_append]
    omega
/-- A row of lines, of which the one at q may be made longer. -/
def LnS (g : Nat) (VS : List Value) (q B : Nat) (L : List Int) (w : World) : Prop := ∃ v, Has w g (VS.set q v) 34 ∧ OwnE (intE .i32) (fun _ => False) w B 21 v L
theorem LnS.below {g : Nat} {VS : List Value} {q B : Nat} {L : List Int} {w w' : World} (h : LnS g VS q B L w) (hb : Below w.heap.size w w') : LnS g VS q B L w' := by
  obtain ⟨v, h1, h2⟩ := h
  exact ⟨v, h1.below hb h1.lt, h2.below hb⟩
/-- The first q lines are made, the others empty. -/
def LnD (B g : Nat) (rows : List (List (List Int))) (cols : List (Int × Int)) (gap : Int) (q : Nat) (VS : List Value) (w : World) : Prop :=
  VS.length = rows.length ∧ Has w g VS 34 ∧ B ≤ g ∧ (∀ i, i < q → ∃ x, VS[i]? = some x ∧ HeldE (intE .i32) (fun b => B ≤ b ∧ b ≠ g) w x (lineC rows cols gap i cols.length)) ∧ ∀ i, q ≤ i → i < rows.length → VS[i]? = some (.slice none 0 0)
theorem LnD.first {B g : Nat} {rows : List (List (List Int))} {cols : List (Int × Int)} {gap : Int} {q : Nat} {VS : List Value} {w : World} (h : LnD B g rows cols gap q VS w) (hq : q < rows.length) : LnS g VS q w.heap.size (lineC rows cols gap q 0) w := by
  obtain ⟨h1, h2, h3, h4, h5⟩ := h
  refine ⟨.slice none 0 0, ?_, OwnE.nil _ _ _ _ _⟩
  have e : VS.set q (.slice none 0 0) = VS := by
    apply List.ext_getElem?
    intro i
    by_cases e : i = q
    · subst e
      rw [List.getElem?_set_self (by omega), h5 i (Nat.le_refl _) hq]
    · rw [List.getElem?_set_ne (Ne.symm e)]
  rw [e]
  exact h2
theorem LnD.next {B g : Nat} {rows : List (List (List Int))} {cols : List (Int × Int)} {gap : Int} {q : Nat} {VS : List Value} {w w' : World} (h : LnD B g rows cols gap q VS w) (hq : q < rows.length) (hs : LnS g VS q w.heap.size (lineC rows cols gap q cols.length) w') (hu : Upd (fun b => b = g ∨ w.heap.size ≤ b) w w') (hB : B ≤ w.heap.size) : ∃ VS', LnD B g rows cols gap (q + 1) VS' w' := by
  obtain ⟨h1, h2, h3, h4, h5⟩ := h
  obtain ⟨v, k1, k2⟩ := hs
  have hg := h2.lt
  have hu2 : Upd (fun b => b = g) w w' := hu.mono fun b hb e => by rcases e with e | e; exact e; omega
  refine ⟨VS.set q v, by rw [List.length_set]; exact h1, k1, h3, fun i hi => ?_, fun i hi h => ?_⟩
  · by_cases e : i = q
    · subst e
      exact ⟨v, List.getElem?_set_self (by omega), (ownE_ints (Z := fun b => B ≤ b ∧ b ≠ g) k2.ints).held fun b hb _ => ⟨by omega, by omega⟩⟩
    · obtain ⟨x, e1, e2⟩ := h4 i (by omega)
      exact ⟨x, by rw [List.getElem?_set_ne (Ne.symm e)]; exact e1, e2.upd hu2 fun b hb e => hb.2 e⟩
  · rw [List.getElem?_set_ne (by omega)]
    exact h5 i (by omega) h
theorem info_rT : (Tryz.prog.info? 34).map (fun i => (i.zero, i.size, i.bytes)) = some (some (.slice none 0 0), 1, 24) := by kernel_rfl
theorem info_tT : (Tryz.prog.info? 21).map (fun i => (i.zero, i.size, i.bytes)) = some (some (.int .i32 0), (intE .i32).size, 4) := by kernel_rfl
set_option maxRecDepth 100000 in
set_option maxHeartbeats 6000000 in
theorem tlines_any (v u : Value) (rows : List (List (List Int))) (cols : List (Int × Int)) (gap : Int) (w : World) (hv : HeldE rowsE (fun b => b < w.heap.size) w v rows) (hu : HeldE colE (fun b => b < w.heap.size) w u cols) (hn : rows.length ≤ 1000) (hc : cols.length ≤ 1000) (ht : ∀ i k, (atC rows i k).length ≤ 1000) : Calls Tryz.prog 7 #[v, .int .i64 gap, u] w (fun e w' => ∃ g VS, e = .returned (.slice (some ⟨g, 0, none⟩) rows.length rows.length) ∧ LnD w.heap.size g rows cols gap rows.length VS w' ∧ Below w.heap.size w w') := by
  obtain ⟨ao, ca, rfl⟩ := hv.len
  obtain ⟨bo, cb, rfl⟩ := hu.len
  have HV := Lib.hid hv
  have HU := Lib.hid hu
  have HT := Lib.hid ht
  have hw := twid_any _ _ rows cols w hv hu hn hc ht
  have HLL := Lib.hid (fun i k => lineC_len rows cols gap i (fun k => ht i k) k)
  have HWA := Lib.hid (fun n j h => wids_at rows cols n j h)
  have hcap1 := hv.spots.2.1
  have hcap2 := hu.spots.2.1
  obtain ⟨i0, hi, hz0, hz1, hz2⟩ := info_parts info_rT
  have hld0 : ∀ g w2, Has w2 g (List.replicate rows.length (.slice none 0 0)) 34 → w.heap.size ≤ g → LnD w.heap.size g rows cols gap 0 (List.replicate rows.length (.slice none 0 0)) w2 := fun g w2 h1 h2 => ⟨List.length_replicate, h1, h2, fun i hi => absurd hi (Nat.not_lt_zero _), fun i _ hi => by rw [List.getElem?_replicate, if_pos hi]⟩
  obtain ⟨rl, hrl⟩ : ∃ rl, rl = rows.length := ⟨_, rfl⟩
  obtain ⟨cl, hcl⟩ : ∃ cl, cl = cols.length := ⟨_, rfl⟩
  have HRL := Lib.hid hrl
  have HCL := Lib.hid hcl
  rw [← hrl] at hn hcap1 HV hw hld0 ⊢
  rw [← hcl] at hc hcap2 HU hw HWA ⊢
  have HLD0 := Lib.hid hld0
  obtain ⟨gc, hgc⟩ : ∃ gc, gc = gapC gap := ⟨_, rfl⟩
  have hmm : min (max gap 0) 1024 = gc := by rw [hgc]; rfl
  have HGC := Lib.hid hgc
  have HMM := Lib.hid hmm
  have HW := Lib.hid hw
  clear hv hu ht hw hrl hcl hld0 hgc hmm
  go_enter Tryz.func7, Tryz.ntmps7
  go_wp2_with fail
  refine HW.out.mono ?_
  rintro e w1 ⟨gw, rfl, hgw, hrow, hb1⟩
  have HROW0 := Lib.hid hrow
  have HB1 := Lib.hid hb1
  have HGW := Lib.hid hgw
  clear hrow hb1 hgw HW
  go_upto_region 3 with (fail)
  rw [HMM.out]
  go_wp2_with (at_make; refine wpList_make_full w1 rfl (.tmp 20) (.tmp 20) 28 rfl w1.heap.size 34 i0 (.slice none 0 0) 1 Tryz.underlying28 hi hz0 hz1 .i64 .i64 _ _ rl rfl rfl rfl rfl (by rw [hz2]; omega) (by unfold maxLen; omega) (Nat.le_refl _) ?_)
  intro w2 hown2 hg2
  have hh2 := has_of_ownT hown2
  rw [made_repT, List.toList_toArray] at hh2
  have hb2 : Below w1.heap.size w1 w2 := (Below.refl _ _).grown hg2 (Nat.le_refl _) (by intro k hk; cases hk)
  have HR2 := Lib.hid (show IRow w2 gw (widsC rows cols cl) from Has.below HROW0.out hb2 (Has.lt HROW0.out))
  have HNG := Lib.hid (show gw ≠ w1.heap.size from by have := Has.lt HROW0.out; omega)
  have HLD := Lib.hid (HLD0.out _ _ hh2 HB1.out.size)
  have HB2 := Lib.hid (HB1.out.trans (hb2.mono HB1.out.size))
  have hge1 := HB1.out.size
  obtain ⟨g, hge⟩ : ∃ g, g = w1.heap.size := ⟨_, rfl⟩
  rw [← hge] at HNG HLD hge1 ⊢
  have HGE := Lib.hid hge1
  clear hown2 hg2 hh2 hb2 hi hz0 hz1 hz2 hge hge1 HROW0 HB1
  go_wp2
  go_loopw [24] (fun kv wr => ∃ q : Nat, ∃ VS, q ≤ rl ∧ kv = .int .i64 q ∧ LnD w.heap.size g rows cols gap q VS wr ∧ IRow wr gw (widsC rows cols cl) ∧ Below w.heap.size w wr) (fun kv _ => rl - (intOf kv).toNat)
  case atStart => exact ⟨0, _, Nat.zero_le _, rfl, HLD.out, HR2.out, HB2.out⟩
  case round =>
    obtain ⟨q, VS, hq, rfl, hld, hrow, hbw⟩ := hrel
    obtain ⟨wk, hwk⟩ : ∃ wk, wk = wr := ⟨_, rfl⟩
    subst hwk
    have HLDK := Lib.hid hld
    have HROW := Lib.hid hrow
    have HBW := Lib.hid hbw
    clear hld hrow hbw HLD HR2 HB2
    by_cases hlt : q < rl
    · have hqc : q < ca := by omega
      have hqi : (q : Int) < (rl : Int) := by omega
      have hwq9 : IntKind.i64.wrap ((q : Int) + 1) = (q : Int) + 1 := by rw [IntKind.wrap_i64]; omega
      obtain ⟨b2, o2, e2, hb2, hz2, C2, q2, rv, hC2, hrv⟩ := (HV.out.below HBW.out).spots.2.2 q (by rw [← HRL.out]; exact hlt)
      subst e2 hC2
      have d1 : wk.cell? ⟨b2, o2 + q, none⟩ = some rv := by have := q2 0 (by decide); simpa [show rowsE.size = 1 from rfl] using this
      rw [show rows.getD q rowsE.zero = rows.getD q [] from rfl] at hrv
      have HRV := Lib.hid hrv
      have HQR := Lib.hid (show q < rows.length from by rw [← HRL.out]; exact hlt)
      obtain ⟨B0, hB0⟩ : ∃ B0, B0 = wk.heap.size := ⟨_, rfl⟩
      have HB0 := Lib.hid hB0
      have HFST := Lib.hid (show LnS g VS q B0 (lineC rows cols gap q 0) wk from by rw [hB0]; exact HLDK.out.first HQR.out)
      have HGB := Lib.hid (show g < B0 from by rw [hB0]; exact HLDK.out.2.1.lt)
      have HWB := Lib.hid (show w.heap.size ≤ B0 from by rw [hB0]; exact HBW.out.size)
      have HGWB := Lib.hid (show gw < B0 from by rw [hB0]; exact Has.lt HROW.out)
      clear hrv hb2 hz2 q2 hB0
      go_wp2
      go_loopw [31] (fun kv wr => ∃ k : Nat, k ≤ cl ∧ kv = .int .i64 k ∧ LnS g VS q B0 (lineC rows cols gap q k) wr ∧ Upd (fun b => b = g ∨ B0 ≤ b) wk wr) (fun kv _ => cl - (intOf kv).toNat)
      case atStart => exact ⟨0, Nat.zero_le _, rfl, HFST.out, Upd.refl _ _⟩
      case round =>
        obtain ⟨k, hk, rfl, hls, hup⟩ := hrel
        obtain ⟨wi, hwi⟩ : ∃ wi, wi = wr := ⟨_, rfl⟩
        subst hwi
        have HLS := Lib.hid hls
        have HUP := Lib.hid hup
        clear hls hup
        by_cases hltk : k < cl
        · have hkc : k < cb := by omega
          have hki : (k : Int) < (cl : Int) := by omega
          have hwk : IntKind.i64.wrap ((k : Int) + 1) = (k : Int) + 1 := by rw [IntKind.wrap_i64]; omega
          have hbwi : Below w.heap.size w wi := HBW.out.upd HUP.out HBW.out.size (fun b e => by have := HGE.out; have := HWB.out; omega)
          obtain ⟨b, o, e, hb, hz, C, q8, hr⟩ := HU.out.spots.2.2 k (by rw [← HCL.out]; exact hltk)
          subst e
          rw [col_rep] at hr
          subst hr
          have c0 := (hbwi.cell (p := ⟨b, o + k * 2, none⟩) hb).trans (q8 0 (by decide))
          have c1 := (hbwi.cell (p := ⟨b, o + k * 2 + 1, none⟩) hb).trans (q8 1 (by decide))
          simp only [List.getElem?_cons_zero, List.getElem?_cons_succ] at c0 c1
          rw [show colE.zero = ((0, 0) : Int × Int) from rfl] at c0 c1
          have hwa := HWA.out cl k hltk
          rw [if_pos hltk] at hwa
          have hnx : lineC rows cols gap q (k + 1) = lineC rows cols gap q k ++ blC gap k ++ fitC (widC rows k (cols.getD k (0, 0)).1) (cols.getD k (0, 0)).2 (atC rows q k) [] := rfl
          have hfl : (fitC (widC rows k (cols.getD k (0, 0)).1) (cols.getD k (0, 0)).2 (atC rows q k) []).length ≤ 2024 := fitK_len rows cols q k (HT.out q k)
          obtain ⟨⟨most, side⟩, hms⟩ : ∃ y, y = cols.getD k (0, 0) := ⟨_, rfl⟩
          rw [← hms] at c0 c1 hwa hnx hfl
          simp only at c0 c1 hwa hnx hfl
          obtain ⟨wd, hwd⟩ : ∃ wd, wd = widC rows k most := ⟨_, rfl⟩
          rw [← hwd] at hwa hnx hfl
          have HFIT := Lib.hid (fun (xv : Value) (w' : World) (hx : HeldE (intE .i32) (fun b => b < w.heap.size) w' xv (atC rows q k)) => jfit_any _ xv (.slice none 0 0) (atC rows q k) [] wd side w' hx (HeldE.nil (intE .i32) (fun _ => True) w').ints (by have := HT.out q k; omega) (by simp))
          obtain ⟨FT, hFT⟩ : ∃ FT, FT = fitC wd side (atC rows q k) [] := ⟨_, rfl⟩
          rw [← hFT] at hnx hfl HFIT
          have HWA8 := Lib.hid hwa
          have HFL := Lib.hid hfl
          have hll := HLL.out q k
          obtain ⟨L0, hL0⟩ : ∃ L0, L0 = lineC rows cols gap q k := ⟨_, rfl⟩
          rw [← hL0] at hll hnx HLS
          have HNX := Lib.hid hnx
          have HL0 := Lib.hid (show L0.length ≤ 4000000 from by omega)
          have HRVI := Lib.hid (HRV.out.upd HUP.out (fun b hb e => by have := HGE.out; have := HWB.out; omega))
          have HRI := Lib.hid (show IRow wi gw (widsC rows cols cl) from HUP.out.keep.has HROW.out (fun e => by have := HNG.out; have := HGWB.out; omega))
          have HBWI := Lib.hid (show B0 ≤ wi.heap.size from by rw [HB0.out]; exact HUP.out.size)
          clear q8 hms hwa hwd hFT hfl hll hL0 hnx hb hz hbwi
          have hb4 := (Below.refl wi.heap.size wi).alloc (Nat.le_refl _) (.cells #[.int .i64 most, .int .i64 side] 32)
          have hnew := Has.new wi [.int .i64 most, .int .i64 side] 32
          obtain ⟨bx, hbx⟩ : ∃ bx, bx = wi.heap.size := ⟨_, rfl⟩
          have HBX := Lib.hid hbx
          obtain ⟨w4, hw4⟩ : ∃ w4, w4 = wi.alloc (.cells #[.int .i64 most, .int .i64 side] 32) := ⟨_, rfl⟩
          have hnew : Has w4 bx [.int .i64 most, .int .i64 side] 32 := by rw [hw4, hbx]; exact hnew
          rw [← hw4] at hb4
          have HW4 := Lib.hid hw4
          have HX4 := Lib.hid hnew
          obtain ⟨tv, hhs, htv⟩ := HLS.out
          have HTBX := Lib.hid (show tv.ownBlock ≠ some bx from fun e => by have := (htv.lt bx e).2; omega)
          have HHS := Lib.hid (Has.below hhs hb4 hhs.lt)
          have HTV := Lib.hid (htv.below hb4)
          have HAT := Lib.hid (show (VS.set q tv)[q]? = some tv from List.getElem?_set_self (by rw [HLDK.out.1]; exact HQR.out))
          have HGL := Lib.hid HHS.out.lt
          clear hhs htv HLS
          have HR4 := Lib.hid (show IRow w4 gw (widsC rows cols cl) from Has.below HRI.out hb4 (Has.lt HRI.out))
          have HRV4 := Lib.hid (HRVI.out.below hb4)
          have HU4 := Lib.hid (HUP.out.trans (.ofBelow hb4))
          have HB04 := Lib.hid (show B0 ≤ w4.heap.size from Nat.le_trans HBWI.out hb4.size)
          have HBXB := Lib.hid (show B0 ≤ bx ∧ bx ≠ g from by have := HBWI.out; have := HGB.out; omega)
          clear hb4 hnew hw4 hbx
          go_upto_region 10 with (fail)
          rw [← HBX.out, ← HW4.out]
          clear c0 c1
          by_cases hk0 : k = 0
          · have hg0 : decide ((0 : Int) < (k : Int)) = false := by rw [decide_eq_false_iff_not]; omega
            have hg1 : decide (0 < k) = false := by rw [decide_eq_false_iff_not]; omega
            have HBLK := Lib.hid (show blC gap k = [] from by unfold blC; rw [if_pos hk0])
            have HLA := Lib.hid (show (L0 : List Int).length ≤ 5000000 from by have := HL0.out; omega)
            clear hk0
            obtain ⟨xv, hxv, hmem⟩ := member_any _ rv _ k w4 HRV4.out (by omega)
            rw [show (rows.getD q []).getD k [] = atC rows q k from rfl] at hxv
            have HXV := Lib.hid hxv
            have HMEM := Lib.hid hmem
            clear hxv hmem
            go_wp2
            obtain ⟨Ergn, hErgn⟩ : ∃ EE : Nat → Value → World → Prop, EE = fun jj xx ww => match jj with
                | 0 => xx = .slice (some ⟨g, 0, none⟩) rl rl
                | 1 => xx = .int .i64 (q : Int)
                | 2 => xx = .slice (some ⟨g, 0, none⟩) rl rl
                | 3 => xx = .int .i64 (q : Int)
                | 4 => xx = .pointer (some ⟨g, q, none⟩)
                | 5 => xx = tv
                | 6 => xx = rv
                | 7 => xx = .int .i64 (k : Int)
                | 8 => xx = xv
                | 9 => xx = .slice (some ⟨gw, 0, none⟩) cl cl
                | 10 => xx = .int .i64 (k : Int)
                | 11 => xx = .pointer (some ⟨gw, k, none⟩)
                | 12 => xx = .int .i64 wd
                | 13 => xx = .pointer (some ⟨bx, 1, none⟩)
                | 14 => xx = .int .i64 side
                | 15 => (fun x w' => HeldE (intE .i32) (fun b => w4.heap.size ≤ b ∧ b ≠ g) w' x FT) xx ww
                | 16 => (fun x w' => OwnE (intE .i32) (fun _ => False) w' B0 21 x (L0 ++ FT)) xx ww
                | 17 => xx = .pointer (some ⟨g, q, none⟩)
                | 18 => xx = undef
                | _ => True := ⟨_, rfl⟩
            have ergn0 : ∀ xx ww, Ergn 0 xx ww = (xx = .slice (some ⟨g, 0, none⟩) rl rl) := fun xx ww => congrFun (congrFun (congrFun hErgn 0) xx) ww
            have ergn1 : ∀ xx ww, Ergn 1 xx ww = (xx = .int .i64 (q : Int)) := fun xx ww => congrFun (congrFun (congrFun hErgn 1) xx) ww
            have ergn2 : ∀ xx ww, Ergn 2 xx ww = (xx = .slice (some ⟨g, 0, none⟩) rl rl) := fun xx ww => congrFun (congrFun (congrFun hErgn 2) xx) ww
            have ergn3 : ∀ xx ww, Ergn 3 xx ww = (xx = .int .i64 (q : Int)) := fun xx ww => congrFun (congrFun (congrFun hErgn 3) xx) ww
            have ergn4 : ∀ xx ww, Ergn 4 xx ww = (xx = .pointer (some ⟨g, q, none⟩)) := fun xx ww => congrFun (congrFun (congrFun hErgn 4) xx) ww
            have ergn5 : ∀ xx ww, Ergn 5 xx ww = (xx = tv) := fun xx ww => congrFun (congrFun (congrFun hErgn 5) xx) ww
            have ergn6 : ∀ xx ww, Ergn 6 xx ww = (xx = rv) := fun xx ww => congrFun (congrFun (congrFun hErgn 6) xx) ww
            have ergn7 : ∀ xx ww, Ergn 7 xx ww = (xx = .int .i64 (k : Int)) := fun xx ww => congrFun (congrFun (congrFun hErgn 7) xx) ww
            have ergn8 : ∀ xx ww, Ergn 8 xx ww = (xx = xv) := fun xx ww => congrFun (congrFun (congrFun hErgn 8) xx) ww
            have ergn9 : ∀ xx ww, Ergn 9 xx ww = (xx = .slice (some ⟨gw, 0, none⟩) cl cl) := fun xx ww => congrFun (congrFun (congrFun hErgn 9) xx) ww
            have ergn10 : ∀ xx ww, Ergn 10 xx ww = (xx = .int .i64 (k : Int)) := fun xx ww => congrFun (congrFun (congrFun hErgn 10) xx) ww
            have ergn11 : ∀ xx ww, Ergn 11 xx ww = (xx = .pointer (some ⟨gw, k, none⟩)) := fun xx ww => congrFun (congrFun (congrFun hErgn 11) xx) ww
            have ergn12 : ∀ xx ww, Ergn 12 xx ww = (xx = .int .i64 wd) := fun xx ww => congrFun (congrFun (congrFun hErgn 12) xx) ww
            have ergn13 : ∀ xx ww, Ergn 13 xx ww = (xx = .pointer (some ⟨bx, 1, none⟩)) := fun xx ww => congrFun (congrFun (congrFun hErgn 13) xx) ww
            have ergn14 : ∀ xx ww, Ergn 14 xx ww = (xx = .int .i64 side) := fun xx ww => congrFun (congrFun (congrFun hErgn 14) xx) ww
            have ergn15 : ∀ xx ww, Ergn 15 xx ww = ((fun x w' => HeldE (intE .i32) (fun b => w4.heap.size ≤ b ∧ b ≠ g) w' x FT) xx ww) := fun xx ww => congrFun (congrFun (congrFun hErgn 15) xx) ww
            have ergn16 : ∀ xx ww, Ergn 16 xx ww = ((fun x w' => OwnE (intE .i32) (fun _ => False) w' B0 21 x (L0 ++ FT)) xx ww) := fun xx ww => congrFun (congrFun (congrFun hErgn 16) xx) ww
            have ergn17 : ∀ xx ww, Ergn 17 xx ww = (xx = .pointer (some ⟨g, q, none⟩)) := fun xx ww => congrFun (congrFun (congrFun hErgn 17) xx) ww
            have ergn18 : ∀ xx ww, Ergn 18 xx ww = (xx = undef) := fun xx ww => congrFun (congrFun (congrFun hErgn 18) xx) ww
            obtain ⟨Crgn, hCrgn⟩ : ∃ CC : Array Bool → World → Prop, CC = fun L8 w' => (Mix.one L8 16 = 0 → Below w4.heap.size w4 w') ∧ (Mix.one L8 18 = 0 → Upd (fun b => tv.ownBlock = some b) w4 w') ∧ (Mix.one L8 18 = 1 → LnS g VS q B0 (L0 ++ FT) w' ∧ Upd (fun b => b = g ∨ tv.ownBlock = some b) w4 w') := ⟨_, rfl⟩
            have krgn : ∀ i L w, i ≠ 16 → i ≠ 18 →  Crgn L w → Crgn (L.setIfInBounds i true) w := by
              intro i L w q16 q18 h
              rw [hCrgn] at h ⊢
              simp only [Mix.one_ne q16, Mix.one_ne q18]; exact h
            obtain ⟨Xrgn, hXrgn⟩ : ∃ XX : Nat → World → World → Prop, XX = fun kk ww1 ww2 => if kk = 16 then (fun x y => Upd (fun b => tv.ownBlock = some b) x y) ww1 ww2 else (fun x y => Upd (fun b => b = g) x y) ww1 ww2 := ⟨_, rfl⟩
            have xrgn : ∀ {k : Nat} (w : World), Xrgn k w w := by
              intro k w
              rw [hXrgn]
              show if k = 16 then _ else _
              split
              · exact Upd.refl _ _
              · exact Upd.refl _ _
            have crgn : Crgn (Array.replicate 19 false) w4.drew := by rw [hCrgn]; exact ⟨fun _ => (Below.refl _ _).drew, fun _ => (Upd.refl _ _).drew, fun e => absurd e (by decide)⟩
            have brgn : ∀ L w w1, Crgn L w → Below w.heap.size w w1 → Crgn L w1 := by
              intro L w w1 h hb
              rw [hCrgn] at h ⊢
              (obtain ⟨q1, q2, q3⟩ := h; exact ⟨fun e => (q1 e).trans (hb.mono (q1 e).size), fun e => (q2 e).trans (.ofBelow hb), fun e => ⟨(q3 e).1.below hb, (q3 e).2.trans (.ofBelow hb)⟩⟩)
            have xbrgn : ∀ {k : Nat} (w w1 : World), Below w.heap.size w w1 → Xrgn k w w1 := by
              intro k w w1 hb
              rw [hXrgn]
              show if k = 16 then _ else _
              split
              · exact Upd.ofBelow hb
              · exact Upd.ofBelow hb
            have Hrgnb := Lib.hid brgn
            have Hrgnxb : Go.RowKit.Hid (∀ {k : Nat} (w w1 : World), Below w.heap.size w w1 → Xrgn k w w1) := @xbrgn
            clear brgn xbrgn
            have HrgnhE := Lib.hid hErgn
            clear hErgn
            have Hrgnk := Lib.hid krgn
            have Hrgnx : Go.RowKit.Hid (∀ {k : Nat} (w : World), Xrgn k w w) := @xrgn
            have Hrgnc := Lib.hid crgn
            have HrgnhC := Lib.hid hCrgn
            have HrgnhX := Lib.hid hXrgn
            have Hrgne0 := Lib.hid ergn0
            have Hrgne1 := Lib.hid ergn1
            have Hrgne2 := Lib.hid ergn2
            have Hrgne3 := Lib.hid ergn3
            have Hrgne4 := Lib.hid ergn4
            have Hrgne5 := Lib.hid ergn5
            have Hrgne6 := Lib.hid ergn6
            have Hrgne7 := Lib.hid ergn7
            have Hrgne8 := Lib.hid ergn8
            have Hrgne9 := Lib.hid ergn9
            have Hrgne10 := Lib.hid ergn10
            have Hrgne11 := Lib.hid ergn11
            have Hrgne12 := Lib.hid ergn12
            have Hrgne13 := Lib.hid ergn13
            have Hrgne14 := Lib.hid ergn14
            have Hrgne15 := Lib.hid ergn15
            have Hrgne16 := Lib.hid ergn16
            have Hrgne17 := Lib.hid ergn17
            have Hrgne18 := Lib.hid ergn18
            clear krgn xrgn crgn hCrgn hXrgn ergn0 ergn1 ergn2 ergn3 ergn4 ergn5 ergn6 ergn7 ergn8 ergn9 ergn10 ergn11 ergn12 ergn13 ergn14 ergn15 ergn16 ergn17 ergn18
            go_wp2_with fail
            refine RegX.regionF Ergn Crgn Xrgn ?_ (by kernel_rfl) (by kernel_rfl) (by kernel_rfl) Hrgnc.out (fun Frgn hFrgn => ?_)
            · intro ii jj x w w1 hji hr hx h
              rw [HrgnhX.out] at hx
              by_cases hi : ii = 16
              · subst hi
                simp only [if_pos] at hx
                match jj with
                | 0 => rw [Hrgne0.out] at h ⊢; exact h
                | 1 => rw [Hrgne1.out] at h ⊢; exact h
                | 2 => rw [Hrgne2.out] at h ⊢; exact h
                | 3 => rw [Hrgne3.out] at h ⊢; exact h
                | 4 => rw [Hrgne4.out] at h ⊢; exact h
                | 5 => rw [Hrgne5.out] at h ⊢; exact h
                | 6 => rw [Hrgne6.out] at h ⊢; exact h
                | 7 => rw [Hrgne7.out] at h ⊢; exact h
                | 8 => rw [Hrgne8.out] at h ⊢; exact h
                | 9 => rw [Hrgne9.out] at h ⊢; exact h
                | 10 => rw [Hrgne10.out] at h ⊢; exact h
                | 11 => rw [Hrgne11.out] at h ⊢; exact h
                | 12 => rw [Hrgne12.out] at h ⊢; exact h
                | 13 => rw [Hrgne13.out] at h ⊢; exact h
                | 14 => rw [Hrgne14.out] at h ⊢; exact h
                | 15 => rw [Hrgne15.out] at h ⊢; (exact HeldE.upd h hx (fun b hb e => by have := (HTV.out.lt b e).2; have := hb.1; omega))
                | 16 => exact absurd rfl hji
                | 17 => rw [Hrgne17.out] at h ⊢; exact h
                | 18 => rw [Hrgne18.out] at h ⊢; exact h
                | jj + 19 => rw [HrgnhE.out]; trivial
              · simp only [if_neg hi] at hx
                match jj with
                | 0 => rw [Hrgne0.out] at h ⊢; exact h
                | 1 => rw [Hrgne1.out] at h ⊢; exact h
                | 2 => rw [Hrgne2.out] at h ⊢; exact h
                | 3 => rw [Hrgne3.out] at h ⊢; exact h
                | 4 => rw [Hrgne4.out] at h ⊢; exact h
                | 5 => rw [Hrgne5.out] at h ⊢; exact h
                | 6 => rw [Hrgne6.out] at h ⊢; exact h
                | 7 => rw [Hrgne7.out] at h ⊢; exact h
                | 8 => rw [Hrgne8.out] at h ⊢; exact h
                | 9 => rw [Hrgne9.out] at h ⊢; exact h
                | 10 => rw [Hrgne10.out] at h ⊢; exact h
                | 11 => rw [Hrgne11.out] at h ⊢; exact h
                | 12 => rw [Hrgne12.out] at h ⊢; exact h
                | 13 => rw [Hrgne13.out] at h ⊢; exact h
                | 14 => rw [Hrgne14.out] at h ⊢; exact h
                | 15 => rw [Hrgne15.out] at h ⊢; (first | exact HeldE.upd h hx (fun b hb e => hb.2 e) | exact OwnE.upd h hx (fun b hb e => by rcases hb with hb | hb; exact hb.elim; have := (OwnE.lt h b hb).1; have := HGB.out; omega))
                | 16 => rw [Hrgne16.out] at h ⊢; (first | exact HeldE.upd h hx (fun b hb e => hb.2 e) | exact OwnE.upd h hx (fun b hb e => by rcases hb with hb | hb; exact hb.elim; have := (OwnE.lt h b hb).1; have := HGB.out; omega))
                | 17 => rw [Hrgne17.out] at h ⊢; exact h
                | 18 => rw [Hrgne18.out] at h ⊢; exact h
                | jj + 19 => rw [HrgnhE.out]; trivial
            simp only [Reg.frame, Reg.dsts, List.map_cons, List.map_nil, Mix.put_lit, Reg.put_none, List.set_cons_succ, List.set_cons_zero, Nat.zero_add, Nat.reduceAdd] at hFrgn
            refine ⟨?_, ?_⟩
            · refine ⟨?_, ?_, ?_, ?_, ?_, ?_, ?_, ?_, ?_, ?_, ?_, ?_, ?_, ?_, ?_, ?_, ?_, ?_, ?_, trivial⟩
              · intro Lq wq xq hh
                simp only [hFrgn]
                refine .inl ⟨rfl, ?_⟩
                unfold Reg.upon
                have hk := Hrgnk.out 0 Lq wq (by decide) (by decide)  hh.cls
                have hx : Xrgn 0 wq wq := Hrgnx.out wq
                have he : Ergn 0 (.slice (some ⟨g, 0, none⟩) rl rl) wq := by rw [Hrgne0.out]
                have HK := Lib.hid (And.intro hk (And.intro he hx))
                clear hk hx he
                go_simp
                exact HK.out
              · intro Lq wq xq hh
                simp only [hFrgn]
                refine .inl ⟨rfl, ?_⟩
                unfold Reg.upon
                have hk := Hrgnk.out 1 Lq wq (by decide) (by decide)  hh.cls
                have hx : Xrgn 1 wq wq := Hrgnx.out wq
                have he : Ergn 1 (.int .i64 (q : Int)) wq := by rw [Hrgne1.out]
                have HK := Lib.hid (And.intro hk (And.intro he hx))
                clear hk hx he
                go_simp
                exact HK.out
              · intro Lq wq xq hh
                simp only [hFrgn]
                refine .inl ⟨rfl, ?_⟩
                unfold Reg.upon
                have hk := Hrgnk.out 2 Lq wq (by decide) (by decide)  hh.cls
                have hx : Xrgn 2 wq wq := Hrgnx.out wq
                have he : Ergn 2 (.slice (some ⟨g, 0, none⟩) rl rl) wq := by rw [Hrgne2.out]
                have HK := Lib.hid (And.intro hk (And.intro he hx))
                clear hk hx he
                go_simp
                exact HK.out
              · intro Lq wq xq hh
                simp only [hFrgn]
                refine .inl ⟨rfl, ?_⟩
                unfold Reg.upon
                have hk := Hrgnk.out 3 Lq wq (by decide) (by decide)  hh.cls
                have hx : Xrgn 3 wq wq := Hrgnx.out wq
                have he : Ergn 3 (.int .i64 (q : Int)) wq := by rw [Hrgne3.out]
                have HK := Lib.hid (And.intro hk (And.intro he hx))
                clear hk hx he
                go_simp
                exact HK.out
              · intro Lq wq xq hh
                have d2 : Ergn 2 (xq 2) wq := hh.val 2 (by kernel_rfl) (by kernel_rfl)
                rw [Hrgne2.out] at d2
                have d3 : Ergn 3 (xq 3) wq := hh.val 3 (by kernel_rfl) (by kernel_rfl)
                rw [Hrgne3.out] at d3
                simp only [hFrgn, d2, d3]
                clear d2 d3
                refine .inl ⟨rfl, ?_⟩
                unfold Reg.upon
                have hk := Hrgnk.out 4 Lq wq (by decide) (by decide)  hh.cls
                have hx : Xrgn 4 wq wq := Hrgnx.out wq
                have he : Ergn 4 (.pointer (some ⟨g, q, none⟩)) wq := by rw [Hrgne4.out]
                have HK := Lib.hid (And.intro hk (And.intro he hx))
                clear hk hx he
                go_simp
                exact HK.out
              · intro Lq wq xq hh
                have d4 : Ergn 4 (xq 4) wq := hh.val 4 (by kernel_rfl) (by kernel_rfl)
                rw [Hrgne4.out] at d4
                simp only [hFrgn, d4]
                clear d4
                refine .inl ⟨rfl, ?_⟩
                unfold Reg.upon
                have hc : Crgn Lq wq := hh.cls
                rw [HrgnhC.out] at hc
                have q0 := ((hc.1 (Mix.one_un (hh.notYet 16 (by kernel_rfl)))).cell (p := ⟨g, q, none⟩) HGL.out).trans (HHS.out.cell q tv HAT.out)
                clear hc
                have hk := Hrgnk.out 5 Lq wq (by decide) (by decide)  hh.cls
                have hx : Xrgn 5 wq wq := Hrgnx.out wq
                have he : Ergn 5 (tv) wq := by rw [Hrgne5.out]
                have HK := Lib.hid (And.intro hk (And.intro he hx))
                clear hk hx he
                go_simp
                exact HK.out
              · intro Lq wq xq hh
                simp only [hFrgn]
                refine .inl ⟨rfl, ?_⟩
                unfold Reg.upon
                have hk := Hrgnk.out 6 Lq wq (by decide) (by decide)  hh.cls
                have hx : Xrgn 6 wq wq := Hrgnx.out wq
                have he : Ergn 6 (rv) wq := by rw [Hrgne6.out]
                have HK := Lib.hid (And.intro hk (And.intro he hx))
                clear hk hx he
                go_simp
                exact HK.out
              · intro Lq wq xq hh
                simp only [hFrgn]
                refine .inl ⟨rfl, ?_⟩
                unfold Reg.upon
                have hk := Hrgnk.out 7 Lq wq (by decide) (by decide)  hh.cls
                have hx : Xrgn 7 wq wq := Hrgnx.out wq
                have he : Ergn 7 (.int .i64 (k : Int)) wq := by rw [Hrgne7.out]
                have HK := Lib.hid (And.intro hk (And.intro he hx))
                clear hk hx he
                go_simp
                exact HK.out
              · intro Lq wq xq hh
                have d6 : Ergn 6 (xq 6) wq := hh.val 6 (by kernel_rfl) (by kernel_rfl)
                rw [Hrgne6.out] at d6
                have d7 : Ergn 7 (xq 7) wq := hh.val 7 (by kernel_rfl) (by kernel_rfl)
                rw [Hrgne7.out] at d7
                simp only [hFrgn, d6, d7]
                clear d6 d7
                refine .inl ⟨rfl, ?_⟩
                unfold Reg.upon
                have hc : Crgn Lq wq := hh.cls
                rw [HrgnhC.out] at hc
                go_simp
                refine (HMEM.out wq (hc.1 (Mix.one_un (hh.notYet 16 (by kernel_rfl))))).mono ?_
                rintro e w2 ⟨rfl, rfl⟩
                exact ⟨_, rfl, Hrgnk.out 8 Lq wq (by decide) (by decide)  hh.cls, (by rw [Hrgne8.out]; try rfl), Hrgnx.out _⟩
              · intro Lq wq xq hh
                simp only [hFrgn]
                refine .inl ⟨rfl, ?_⟩
                unfold Reg.upon
                have hk := Hrgnk.out 9 Lq wq (by decide) (by decide)  hh.cls
                have hx : Xrgn 9 wq wq := Hrgnx.out wq
                have he : Ergn 9 (.slice (some ⟨gw, 0, none⟩) cl cl) wq := by rw [Hrgne9.out]
                have HK := Lib.hid (And.intro hk (And.intro he hx))
                clear hk hx he
                go_simp
                exact HK.out
              · intro Lq wq xq hh
                simp only [hFrgn]
                refine .inl ⟨rfl, ?_⟩
                unfold Reg.upon
                have hk := Hrgnk.out 10 Lq wq (by decide) (by decide)  hh.cls
                have hx : Xrgn 10 wq wq := Hrgnx.out wq
                have he : Ergn 10 (.int .i64 (k : Int)) wq := by rw [Hrgne10.out]
                have HK := Lib.hid (And.intro hk (And.intro he hx))
                clear hk hx he
                go_simp
                exact HK.out
              · intro Lq wq xq hh
                have d9 : Ergn 9 (xq 9) wq := hh.val 9 (by kernel_rfl) (by kernel_rfl)
                rw [Hrgne9.out] at d9
                have d10 : Ergn 10 (xq 10) wq := hh.val 10 (by kernel_rfl) (by kernel_rfl)
                rw [Hrgne10.out] at d10
                simp only [hFrgn, d9, d10]
                clear d9 d10
                refine .inl ⟨rfl, ?_⟩
                unfold Reg.upon
                have hk := Hrgnk.out 11 Lq wq (by decide) (by decide)  hh.cls
                have hx : Xrgn 11 wq wq := Hrgnx.out wq
                have he : Ergn 11 (.pointer (some ⟨gw, k, none⟩)) wq := by rw [Hrgne11.out]
                have HK := Lib.hid (And.intro hk (And.intro he hx))
                clear hk hx he
                go_simp
                exact HK.out
              · intro Lq wq xq hh
                have d11 : Ergn 11 (xq 11) wq := hh.val 11 (by kernel_rfl) (by kernel_rfl)
                rw [Hrgne11.out] at d11
                simp only [hFrgn, d11]
                clear d11
                refine .inl ⟨rfl, ?_⟩
                unfold Reg.upon
                have hc : Crgn Lq wq := hh.cls
                rw [HrgnhC.out] at hc
                have q0 := ((hc.1 (Mix.one_un (hh.notYet 16 (by kernel_rfl)))).cell (p := ⟨gw, k, none⟩) (Has.lt HR4.out)).trans (IRow.cell HR4.out HWA8.out)
                clear hc
                have hk := Hrgnk.out 12 Lq wq (by decide) (by decide)  hh.cls
                have hx : Xrgn 12 wq wq := Hrgnx.out wq
                have he : Ergn 12 (.int .i64 wd) wq := by rw [Hrgne12.out]
                have HK := Lib.hid (And.intro hk (And.intro he hx))
                clear hk hx he
                go_simp
                exact HK.out
              · intro Lq wq xq hh
                simp only [hFrgn]
                refine .inl ⟨rfl, ?_⟩
                unfold Reg.upon
                have hk := Hrgnk.out 13 Lq wq (by decide) (by decide)  hh.cls
                have hx : Xrgn 13 wq wq := Hrgnx.out wq
                have he : Ergn 13 (.pointer (some ⟨bx, 1, none⟩)) wq := by rw [Hrgne13.out]
                have HK := Lib.hid (And.intro hk (And.intro he hx))
                clear hk hx he
                go_simp
                exact HK.out
              · intro Lq wq xq hh
                have d13 : Ergn 13 (xq 13) wq := hh.val 13 (by kernel_rfl) (by kernel_rfl)
                rw [Hrgne13.out] at d13
                simp only [hFrgn, d13]
                clear d13
                refine .inl ⟨rfl, ?_⟩
                unfold Reg.upon
                have hc : Crgn Lq wq := hh.cls
                rw [HrgnhC.out] at hc
                have q0 := ((hc.1 (Mix.one_un (hh.notYet 16 (by kernel_rfl)))).cell (p := ⟨bx, 1, none⟩) HX4.out.lt).trans (HX4.out.cell 1 _ rfl)
                clear hc
                have hk := Hrgnk.out 14 Lq wq (by decide) (by decide)  hh.cls
                have hx : Xrgn 14 wq wq := Hrgnx.out wq
                have he : Ergn 14 (.int .i64 side) wq := by rw [Hrgne14.out]
                have HK := Lib.hid (And.intro hk (And.intro he hx))
                clear hk hx he
                go_simp
                exact HK.out
              · intro Lq wq xq hh
                have d8 : Ergn 8 (xq 8) wq := hh.val 8 (by kernel_rfl) (by kernel_rfl)
                rw [Hrgne8.out] at d8
                have d12 : Ergn 12 (xq 12) wq := hh.val 12 (by kernel_rfl) (by kernel_rfl)
                rw [Hrgne12.out] at d12
                have d14 : Ergn 14 (xq 14) wq := hh.val 14 (by kernel_rfl) (by kernel_rfl)
                rw [Hrgne14.out] at d14
                simp only [hFrgn, d8, d12, d14]
                clear d8 d12 d14
                refine .inl ⟨rfl, ?_⟩
                unfold Reg.upon
                have hc : Crgn Lq wq := hh.cls
                rw [HrgnhC.out] at hc
                go_simp
                refine (HFIT.out xv wq (HXV.out.below (hc.1 (Mix.one_un (hh.notYet 16 (by kernel_rfl)))))).mono ?_
                rintro e w2 ⟨v2, rfl, ho2, hb2⟩
                have hsz := (hc.1 (Mix.one_un (hh.notYet 16 (by kernel_rfl)))).size
                exact ⟨_, rfl, Hrgnk.out 15 Lq w2 (by decide) (by decide) (Hrgnb.out Lq wq w2 hh.cls hb2), (by rw [Hrgne15.out]; exact (ownE_ints (Z := fun b => w4.heap.size ≤ b ∧ b ≠ g) ho2).held fun b hb _ => ⟨by omega, by have := HGL.out; omega⟩), Hrgnxb.out wq w2 hb2⟩
              · intro Lq wq xq hh
                have d5 : Ergn 5 (xq 5) wq := hh.val 5 (by kernel_rfl) (by kernel_rfl)
                rw [Hrgne5.out] at d5
                have d15 : Ergn 15 (xq 15) wq := hh.val 15 (by kernel_rfl) (by kernel_rfl)
                rw [Hrgne15.out] at d15
                simp only [hFrgn, d5]
                clear d5
                refine .inl ⟨rfl, ?_⟩
                unfold Reg.upon
                have hc : Crgn Lq wq := hh.cls
                rw [HrgnhC.out] at hc
                have hc7 := hc.1 hh.un
                have hc9 := hc.2.1 (Mix.one_un (hh.notYet 18 (by kernel_rfl)))
                obtain ⟨v', w', hr, h1, h2, h3, h4⟩ := run_append_e (P := Tryz.prog) (E := intE .i32) (Z := fun _ => True) (w := wq) (B := B0) (ty := 21) 34 _ (.int .i32 0) 4 Tryz.underlying34 info_tT rfl (by decide) (ownE_ints (HTV.out.below hc7).ints) (d15.zone (Y := fun b => True ∧ tv.ownBlock ≠ some b) (fun b _ hz => ⟨trivial, fun e => by have := (HTV.out.lt b e).2; have := hz.1; omega⟩)) (by have := HLA.out; have := HFL.out; omega) (by have := HLA.out; have := HFL.out; omega) (by have := hc7.size; have := HB04.out; omega)
                have hu : Upd (fun b => tv.ownBlock = some b) wq w' := ⟨h2.os, h2.tape, h2.output, h3.size, fun b hb hn => h3.block b hb hn⟩
                rw [exec_app rfl rfl rfl hr]
                refine ⟨?_, ?_, ?_⟩
                · rw [HrgnhC.out]
                  refine ⟨fun e => ?_, fun _ => hc9.trans hu, fun e => ?_⟩
                  · rw [Mix.one_set (by rw [hh.size]; decide)] at e; exact absurd e (by decide)
                  · rw [Mix.one_ne (by decide), Mix.one_un (hh.notYet 18 (by kernel_rfl))] at e; cases e
                · rw [Hrgne16.out]; exact ownE_ints h1.ints
                · rw [HrgnhX.out]; exact hu
              · intro Lq wq xq hh
                have d0 : Ergn 0 (xq 0) wq := hh.val 0 (by kernel_rfl) (by kernel_rfl)
                rw [Hrgne0.out] at d0
                have d1 : Ergn 1 (xq 1) wq := hh.val 1 (by kernel_rfl) (by kernel_rfl)
                rw [Hrgne1.out] at d1
                simp only [hFrgn, d0, d1]
                clear d0 d1
                refine .inl ⟨rfl, ?_⟩
                unfold Reg.upon
                have hk := Hrgnk.out 17 Lq wq (by decide) (by decide)  hh.cls
                have hx : Xrgn 17 wq wq := Hrgnx.out wq
                have he : Ergn 17 (.pointer (some ⟨g, q, none⟩)) wq := by rw [Hrgne17.out]
                have HK := Lib.hid (And.intro hk (And.intro he hx))
                clear hk hx he
                go_simp
                exact HK.out
              · intro Lq wq xq hh
                have d16 : Ergn 16 (xq 16) wq := hh.val 16 (by kernel_rfl) (by kernel_rfl)
                rw [Hrgne16.out] at d16
                have d17 : Ergn 17 (xq 17) wq := hh.val 17 (by kernel_rfl) (by kernel_rfl)
                rw [Hrgne17.out] at d17
                simp only [hFrgn, d17]
                clear d17
                refine .inl ⟨rfl, ?_⟩
                unfold Reg.upon
                have hc : Crgn Lq wq := hh.cls
                rw [HrgnhC.out] at hc
                have hc9 := hc.2.1 hh.un
                obtain ⟨a5, c5, e5⟩ := ((ownE_ints (Z := fun _ => True) d16.ints).held (fun _ _ _ => trivial)).len
                have hrow : Has wq g (VS.set q tv) 34 := hc9.keep.has HHS.out (fun e => by have := (HTV.out.lt g e).1; have := HGB.out; omega)
                have hcel := hrow.cell q tv HAT.out
                have hfre := hrow.free q
                have hset := hrow.set q (xq 16)
                rw [List.set_set] at hset
                have hu3 := (Upd.refl (fun b => b = g) wq).setCell (p := ⟨g, q, none⟩) (.inl rfl) (xq 16)
                have ho3 := d16.upd hu3 (fun b hb e => by rcases hb with hb | hb; exact hb.elim; have := (d16.lt b hb).1; have := HGB.out; omega)
                have hu4 := (hc9.mono (T := fun b => b = g ∨ tv.ownBlock = some b) (fun b _ e => .inr e)).trans (hu3.mono (fun b _ e => .inl e))
                rw [e5] at hset hu3 ho3 hu4
                rw [exec_store_sl (b := g) (off := q) rfl rfl e5 tv hcel hfre (by kernel_rfl)]
                refine ⟨?_, by rw [Hrgne18.out], by rw [HrgnhX.out]; exact hu3⟩
                rw [HrgnhC.out]
                refine ⟨fun e => ?_, fun e => ?_, fun _ => ⟨⟨_, hset, ho3⟩, hu4⟩⟩
                · have := hh.isDone 16 (by kernel_rfl)
                  rw [Mix.one_ne (by decide), this] at e; cases e
                · rw [Mix.one_set (by rw [hh.size]; decide)] at e; exact absurd e (by decide)
            intro xq wrgn hcrgn hvrgn
            rw [HrgnhC.out] at hcrgn
            simp only [hFrgn]
            clear hvrgn hFrgn Hrgnk Hrgnx HrgnhE Hrgnc HrgnhC HrgnhX Hrgnb Hrgnxb Hrgne0 Hrgne1 Hrgne2 Hrgne3 Hrgne4 Hrgne5 Hrgne6 Hrgne7 Hrgne8 Hrgne9 Hrgne10 Hrgne11 Hrgne12 Hrgne13 Hrgne14 Hrgne15 Hrgne16 Hrgne17 Hrgne18
            obtain ⟨_, _, k3⟩ := hcrgn
            obtain ⟨k3, k4⟩ := k3 (by kernel_rfl)
            have HF1 := Lib.hid (show LnS g VS q B0 (lineC rows cols gap q (k + 1)) wrgn from by rw [HNX.out, HBLK.out, List.append_nil]; exact k3)
            have HF3 := Lib.hid (HU4.out.trans (k4.mono (T := fun b => b = g ∨ B0 ≤ b) (fun b _ e => e.imp id (fun e => (HTV.out.lt b e).1))))
            clear k3 k4
            go_wp2
            go_roundw
            case rel => exact ⟨k + 1, by omega, by go_num, HF1.out, HF3.out⟩
            case measure => simp [intOf] <;> omega
          · have hg0 : decide ((0 : Int) < (k : Int)) = true := by rw [decide_eq_true_eq]; omega
            have hg1 : decide (0 < k) = true := by rw [decide_eq_true_eq]; omega
            have hpad := fun (w' : World) => jpad_any (.slice none 0 0) [] gc 0 w' (HeldE.nil (intE .i32) (fun _ => True) w').ints (by simp)
            have hbl := blC_len gap k
            have hble : blC gap k = padC gc 0 [] := by unfold blC; rw [if_neg hk0, HGC.out]
            rw [hble] at hbl
            obtain ⟨BL, hBL⟩ : ∃ BL, BL = padC gc 0 [] := ⟨_, rfl⟩
            rw [← hBL] at hpad hbl hble
            have HPAD := Lib.hid hpad
            have HLBL := Lib.hid hbl
            have HBLK := Lib.hid hble
            have HLA := Lib.hid (show (L0 ++ BL).length ≤ 5000000 from by have := HL0.out; rw [List.length_append]; omega)
            clear hpad hbl hble hBL hk0
            go_wp2
            obtain ⟨Erga, hErga⟩ : ∃ EE : Nat → Value → World → Prop, EE = fun jj xx ww => match jj with
                | 0 => xx = .slice (some ⟨g, 0, none⟩) rl rl
                | 1 => xx = .int .i64 (q : Int)
                | 2 => xx = .slice (some ⟨g, 0, none⟩) rl rl
                | 3 => xx = .int .i64 (q : Int)
                | 4 => xx = .pointer (some ⟨g, q, none⟩)
                | 5 => xx = tv
                | 6 => xx = .int .i64 gc
                | 7 => (fun x w' => HeldE (intE .i32) (fun b => w4.heap.size ≤ b ∧ b ≠ g) w' x BL) xx ww
                | 8 => (fun x w' => OwnE (intE .i32) (fun _ => False) w' B0 21 x (L0 ++ BL)) xx ww
                | 9 => xx = .pointer (some ⟨g, q, none⟩)
                | 10 => xx = undef
                | _ => True := ⟨_, rfl⟩
            have erga0 : ∀ xx ww, Erga 0 xx ww = (xx = .slice (some ⟨g, 0, none⟩) rl rl) := fun xx ww => congrFun (congrFun (congrFun hErga 0) xx) ww
            have erga1 : ∀ xx ww, Erga 1 xx ww = (xx = .int .i64 (q : Int)) := fun xx ww => congrFun (congrFun (congrFun hErga 1) xx) ww
            have erga2 : ∀ xx ww, Erga 2 xx ww = (xx = .slice (some ⟨g, 0, none⟩) rl rl) := fun xx ww => congrFun (congrFun (congrFun hErga 2) xx) ww
            have erga3 : ∀ xx ww, Erga 3 xx ww = (xx = .int .i64 (q : Int)) := fun xx ww => congrFun (congrFun (congrFun hErga 3) xx) ww
            have erga4 : ∀ xx ww, Erga 4 xx ww = (xx = .pointer (some ⟨g, q, none⟩)) := fun xx ww => congrFun (congrFun (congrFun hErga 4) xx) ww
            have erga5 : ∀ xx ww, Erga 5 xx ww = (xx = tv) := fun xx ww => congrFun (congrFun (congrFun hErga 5) xx) ww
            have erga6 : ∀ xx ww, Erga 6 xx ww = (xx = .int .i64 gc) := fun xx ww => congrFun (congrFun (congrFun hErga 6) xx) ww
            have erga7 : ∀ xx ww, Erga 7 xx ww = ((fun x w' => HeldE (intE .i32) (fun b => w4.heap.size ≤ b ∧ b ≠ g) w' x BL) xx ww) := fun xx ww => congrFun (congrFun (congrFun hErga 7) xx) ww
            have erga8 : ∀ xx ww, Erga 8 xx ww = ((fun x w' => OwnE (intE .i32) (fun _ => False) w' B0 21 x (L0 ++ BL)) xx ww) := fun xx ww => congrFun (congrFun (congrFun hErga 8) xx) ww
            have erga9 : ∀ xx ww, Erga 9 xx ww = (xx = .pointer (some ⟨g, q, none⟩)) := fun xx ww => congrFun (congrFun (congrFun hErga 9) xx) ww
            have erga10 : ∀ xx ww, Erga 10 xx ww = (xx = undef) := fun xx ww => congrFun (congrFun (congrFun hErga 10) xx) ww
            obtain ⟨Crga, hCrga⟩ : ∃ CC : Array Bool → World → Prop, CC = fun L8 w' => (Mix.one L8 8 = 0 → Below w4.heap.size w4 w') ∧ (Mix.one L8 10 = 0 → Upd (fun b => tv.ownBlock = some b) w4 w') ∧ (Mix.one L8 10 = 1 → LnS g VS q B0 (L0 ++ BL) w' ∧ Upd (fun b => b = g ∨ tv.ownBlock = some b) w4 w') := ⟨_, rfl⟩
            have krga : ∀ i L w, i ≠ 8 → i ≠ 10 →  Crga L w → Crga (L.setIfInBounds i true) w := by
              intro i L w q8 q10 h
              rw [hCrga] at h ⊢
              simp only [Mix.one_ne q8, Mix.one_ne q10]; exact h
            obtain ⟨Xrga, hXrga⟩ : ∃ XX : Nat → World → World → Prop, XX = fun kk ww1 ww2 => if kk = 8 then (fun x y => Upd (fun b => tv.ownBlock = some b) x y) ww1 ww2 else (fun x y => Upd (fun b => b = g) x y) ww1 ww2 := ⟨_, rfl⟩
            have xrga : ∀ {k : Nat} (w : World), Xrga k w w := by
              intro k w
              rw [hXrga]
              show if k = 8 then _ else _
              split
              · exact Upd.refl _ _
              · exact Upd.refl _ _
            have crga : Crga (Array.replicate 11 false) w4.drew := by rw [hCrga]; exact ⟨fun _ => (Below.refl _ _).drew, fun _ => (Upd.refl _ _).drew, fun e => absurd e (by decide)⟩
            have brga : ∀ L w w1, Crga L w → Below w.heap.size w w1 → Crga L w1 := by
              intro L w w1 h hb
              rw [hCrga] at h ⊢
              (obtain ⟨q1, q2, q3⟩ := h; exact ⟨fun e => (q1 e).trans (hb.mono (q1 e).size), fun e => (q2 e).trans (.ofBelow hb), fun e => ⟨(q3 e).1.below hb, (q3 e).2.trans (.ofBelow hb)⟩⟩)
            have xbrga : ∀ {k : Nat} (w w1 : World), Below w.heap.size w w1 → Xrga k w w1 := by
              intro k w w1 hb
              rw [hXrga]
              show if k = 8 then _ else _
              split
              · exact Upd.ofBelow hb
              · exact Upd.ofBelow hb
            have Hrgab := Lib.hid brga
            have Hrgaxb : Go.RowKit.Hid (∀ {k : Nat} (w w1 : World), Below w.heap.size w w1 → Xrga k w w1) := @xbrga
            clear brga xbrga
            have HrgahE := Lib.hid hErga
            clear hErga
            have Hrgak := Lib.hid krga
            have Hrgax : Go.RowKit.Hid (∀ {k : Nat} (w : World), Xrga k w w) := @xrga
            have Hrgac := Lib.hid crga
            have HrgahC := Lib.hid hCrga
            have HrgahX := Lib.hid hXrga
            have Hrgae0 := Lib.hid erga0
            have Hrgae1 := Lib.hid erga1
            have Hrgae2 := Lib.hid erga2
            have Hrgae3 := Lib.hid erga3
            have Hrgae4 := Lib.hid erga4
            have Hrgae5 := Lib.hid erga5
            have Hrgae6 := Lib.hid erga6
            have Hrgae7 := Lib.hid erga7
            have Hrgae8 := Lib.hid erga8
            have Hrgae9 := Lib.hid erga9
            have Hrgae10 := Lib.hid erga10
            clear krga xrga crga hCrga hXrga erga0 erga1 erga2 erga3 erga4 erga5 erga6 erga7 erga8 erga9 erga10
            go_wp2_with fail
            refine RegX.regionF Erga Crga Xrga ?_ (by kernel_rfl) (by kernel_rfl) (by kernel_rfl) Hrgac.out (fun Frga hFrga => ?_)
            · intro ii jj x w w1 hji hr hx h
              rw [HrgahX.out] at hx
              by_cases hi : ii = 8
              · subst hi
                simp only [if_pos] at hx
                match jj with
                | 0 => rw [Hrgae0.out] at h ⊢; exact h
                | 1 => rw [Hrgae1.out] at h ⊢; exact h
                | 2 => rw [Hrgae2.out] at h ⊢; exact h
                | 3 => rw [Hrgae3.out] at h ⊢; exact h
                | 4 => rw [Hrgae4.out] at h ⊢; exact h
                | 5 => rw [Hrgae5.out] at h ⊢; exact h
                | 6 => rw [Hrgae6.out] at h ⊢; exact h
                | 7 => rw [Hrgae7.out] at h ⊢; (exact HeldE.upd h hx (fun b hb e => by have := (HTV.out.lt b e).2; have := hb.1; omega))
                | 8 => exact absurd rfl hji
                | 9 => rw [Hrgae9.out] at h ⊢; exact h
                | 10 => rw [Hrgae10.out] at h ⊢; exact h
                | jj + 11 => rw [HrgahE.out]; trivial
              · simp only [if_neg hi] at hx
                match jj with
                | 0 => rw [Hrgae0.out] at h ⊢; exact h
                | 1 => rw [Hrgae1.out] at h ⊢; exact h
                | 2 => rw [Hrgae2.out] at h ⊢; exact h
                | 3 => rw [Hrgae3.out] at h ⊢; exact h
                | 4 => rw [Hrgae4.out] at h ⊢; exact h
                | 5 => rw [Hrgae5.out] at h ⊢; exact h
                | 6 => rw [Hrgae6.out] at h ⊢; exact h
                | 7 => rw [Hrgae7.out] at h ⊢; (first | exact HeldE.upd h hx (fun b hb e => hb.2 e) | exact OwnE.upd h hx (fun b hb e => by rcases hb with hb | hb; exact hb.elim; have := (OwnE.lt h b hb).1; have := HGB.out; omega))
                | 8 => rw [Hrgae8.out] at h ⊢; (first | exact HeldE.upd h hx (fun b hb e => hb.2 e) | exact OwnE.upd h hx (fun b hb e => by rcases hb with hb | hb; exact hb.elim; have := (OwnE.lt h b hb).1; have := HGB.out; omega))
                | 9 => rw [Hrgae9.out] at h ⊢; exact h
                | 10 => rw [Hrgae10.out] at h ⊢; exact h
                | jj + 11 => rw [HrgahE.out]; trivial
            simp only [Reg.frame, Reg.dsts, List.map_cons, List.map_nil, Mix.put_lit, Reg.put_none, List.set_cons_succ, List.set_cons_zero, Nat.zero_add, Nat.reduceAdd] at hFrga
            refine ⟨?_, ?_⟩
            · refine ⟨?_, ?_, ?_, ?_, ?_, ?_, ?_, ?_, ?_, ?_, ?_, trivial⟩
              · intro Lq wq xq hh
                simp only [hFrga]
                refine .inl ⟨rfl, ?_⟩
                unfold Reg.upon
                have hk := Hrgak.out 0 Lq wq (by decide) (by decide)  hh.cls
                have hx : Xrga 0 wq wq := Hrgax.out wq
                have he : Erga 0 (.slice (some ⟨g, 0, none⟩) rl rl) wq := by rw [Hrgae0.out]
                have HK := Lib.hid (And.intro hk (And.intro he hx))
                clear hk hx he
                go_simp
                exact HK.out
              · intro Lq wq xq hh
                simp only [hFrga]
                refine .inl ⟨rfl, ?_⟩
                unfold Reg.upon
                have hk := Hrgak.out 1 Lq wq (by decide) (by decide)  hh.cls
                have hx : Xrga 1 wq wq := Hrgax.out wq
                have he : Erga 1 (.int .i64 (q : Int)) wq := by rw [Hrgae1.out]
                have HK := Lib.hid (And.intro hk (And.intro he hx))
                clear hk hx he
                go_simp
                exact HK.out
              · intro Lq wq xq hh
                simp only [hFrga]
                refine .inl ⟨rfl, ?_⟩
                unfold Reg.upon
                have hk := Hrgak.out 2 Lq wq (by decide) (by decide)  hh.cls
                have hx : Xrga 2 wq wq := Hrgax.out wq
                have he : Erga 2 (.slice (some ⟨g, 0, none⟩) rl rl) wq := by rw [Hrgae2.out]
                have HK := Lib.hid (And.intro hk (And.intro he hx))
                clear hk hx he
                go_simp
                exact HK.out
              · intro Lq wq xq hh
                simp only [hFrga]
                refine .inl ⟨rfl, ?_⟩
                unfold Reg.upon
                have hk := Hrgak.out 3 Lq wq (by decide) (by decide)  hh.cls
                have hx : Xrga 3 wq wq := Hrgax.out wq
                have he : Erga 3 (.int .i64 (q : Int)) wq := by rw [Hrgae3.out]
                have HK := Lib.hid (And.intro hk (And.intro he hx))
                clear hk hx he
                go_simp
                exact HK.out
              · intro Lq wq xq hh
                have d2 : Erga 2 (xq 2) wq := hh.val 2 (by kernel_rfl) (by kernel_rfl)
                rw [Hrgae2.out] at d2
                have d3 : Erga 3 (xq 3) wq := hh.val 3 (by kernel_rfl) (by kernel_rfl)
                rw [Hrgae3.out] at d3
                simp only [hFrga, d2, d3]
                clear d2 d3
                refine .inl ⟨rfl, ?_⟩
                unfold Reg.upon
                have hk := Hrgak.out 4 Lq wq (by decide) (by decide)  hh.cls
                have hx : Xrga 4 wq wq := Hrgax.out wq
                have he : Erga 4 (.pointer (some ⟨g, q, none⟩)) wq := by rw [Hrgae4.out]
                have HK := Lib.hid (And.intro hk (And.intro he hx))
                clear hk hx he
                go_simp
                exact HK.out
              · intro Lq wq xq hh
                have d4 : Erga 4 (xq 4) wq := hh.val 4 (by kernel_rfl) (by kernel_rfl)
                rw [Hrgae4.out] at d4
                simp only [hFrga, d4]
                clear d4
                refine .inl ⟨rfl, ?_⟩
                unfold Reg.upon
                have hc : Crga Lq wq := hh.cls
                rw [HrgahC.out] at hc
                have q0 := ((hc.1 (Mix.one_un (hh.notYet 8 (by kernel_rfl)))).cell (p := ⟨g, q, none⟩) HGL.out).trans (HHS.out.cell q tv HAT.out)
                clear hc
                have hk := Hrgak.out 5 Lq wq (by decide) (by decide)  hh.cls
                have hx : Xrga 5 wq wq := Hrgax.out wq
                have he : Erga 5 (tv) wq := by rw [Hrgae5.out]
                have HK := Lib.hid (And.intro hk (And.intro he hx))
                clear hk hx he
                go_simp
                exact HK.out
              · intro Lq wq xq hh
                simp only [hFrga]
                refine .inl ⟨rfl, ?_⟩
                unfold Reg.upon
                have hk := Hrgak.out 6 Lq wq (by decide) (by decide)  hh.cls
                have hx : Xrga 6 wq wq := Hrgax.out wq
                have he : Erga 6 (.int .i64 gc) wq := by rw [Hrgae6.out]
                have HK := Lib.hid (And.intro hk (And.intro he hx))
                clear hk hx he
                go_simp
                exact HK.out
              · intro Lq wq xq hh
                have d6 : Erga 6 (xq 6) wq := hh.val 6 (by kernel_rfl) (by kernel_rfl)
                rw [Hrgae6.out] at d6
                simp only [hFrga, d6]
                clear d6
                refine .inl ⟨rfl, ?_⟩
                unfold Reg.upon
                have hc : Crga Lq wq := hh.cls
                rw [HrgahC.out] at hc
                go_simp
                refine (HPAD.out wq).mono ?_
                rintro e w2 ⟨v2, rfl, ho2, hb2⟩
                have hsz := (hc.1 (Mix.one_un (hh.notYet 8 (by kernel_rfl)))).size
                exact ⟨_, rfl, Hrgak.out 7 Lq w2 (by decide) (by decide) (Hrgab.out Lq wq w2 hh.cls hb2), (by rw [Hrgae7.out]; exact (ownE_ints (Z := fun b => w4.heap.size ≤ b ∧ b ≠ g) ho2).held fun b hb _ => ⟨by omega, by have := HGL.out; omega⟩), Hrgaxb.out wq w2 hb2⟩
              · intro Lq wq xq hh
                have d5 : Erga 5 (xq 5) wq := hh.val 5 (by kernel_rfl) (by kernel_rfl)
                rw [Hrgae5.out] at d5
                have d7 : Erga 7 (xq 7) wq := hh.val 7 (by kernel_rfl) (by kernel_rfl)
                rw [Hrgae7.out] at d7
                simp only [hFrga, d5]
                clear d5
                refine .inl ⟨rfl, ?_⟩
                unfold Reg.upon
                have hc : Crga Lq wq := hh.cls
                rw [HrgahC.out] at hc
                have hc7 := hc.1 hh.un
                have hc9 := hc.2.1 (Mix.one_un (hh.notYet 10 (by kernel_rfl)))
                obtain ⟨v', w', hr, h1, h2, h3, h4⟩ := run_append_e (P := Tryz.prog) (E := intE .i32) (Z := fun _ => True) (w := wq) (B := B0) (ty := 21) 34 _ (.int .i32 0) 4 Tryz.underlying34 info_tT rfl (by decide) (ownE_ints (HTV.out.below hc7).ints) (d7.zone (Y := fun b => True ∧ tv.ownBlock ≠ some b) (fun b _ hz => ⟨trivial, fun e => by have := (HTV.out.lt b e).2; have := hz.1; omega⟩)) (by have := HL0.out; have := HLBL.out; omega) (by have := HL0.out; have := HLBL.out; omega) (by have := hc7.size; have := HB04.out; omega)
                have hu : Upd (fun b => tv.ownBlock = some b) wq w' := ⟨h2.os, h2.tape, h2.output, h3.size, fun b hb hn => h3.block b hb hn⟩
                rw [exec_app rfl rfl rfl hr]
                refine ⟨?_, ?_, ?_⟩
                · rw [HrgahC.out]
                  refine ⟨fun e => ?_, fun _ => hc9.trans hu, fun e => ?_⟩
                  · rw [Mix.one_set (by rw [hh.size]; decide)] at e; exact absurd e (by decide)
                  · rw [Mix.one_ne (by decide), Mix.one_un (hh.notYet 10 (by kernel_rfl))] at e; cases e
                · rw [Hrgae8.out]; exact ownE_ints h1.ints
                · rw [HrgahX.out]; exact hu
              · intro Lq wq xq hh
                have d0 : Erga 0 (xq 0) wq := hh.val 0 (by kernel_rfl) (by kernel_rfl)
                rw [Hrgae0.out] at d0
                have d1 : Erga 1 (xq 1) wq := hh.val 1 (by kernel_rfl) (by kernel_rfl)
                rw [Hrgae1.out] at d1
                simp only [hFrga, d0, d1]
                clear d0 d1
                refine .inl ⟨rfl, ?_⟩
                unfold Reg.upon
                have hk := Hrgak.out 9 Lq wq (by decide) (by decide)  hh.cls
                have hx : Xrga 9 wq wq := Hrgax.out wq
                have he : Erga 9 (.pointer (some ⟨g, q, none⟩)) wq := by rw [Hrgae9.out]
                have HK := Lib.hid (And.intro hk (And.intro he hx))
                clear hk hx he
                go_simp
                exact HK.out
              · intro Lq wq xq hh
                have d8 : Erga 8 (xq 8) wq := hh.val 8 (by kernel_rfl) (by kernel_rfl)
                rw [Hrgae8.out] at d8
                have d9 : Erga 9 (xq 9) wq := hh.val 9 (by kernel_rfl) (by kernel_rfl)
                rw [Hrgae9.out] at d9
                simp only [hFrga, d9]
                clear d9
                refine .inl ⟨rfl, ?_⟩
                unfold Reg.upon
                have hc : Crga Lq wq := hh.cls
                rw [HrgahC.out] at hc
                have hc9 := hc.2.1 hh.un
                obtain ⟨a5, c5, e5⟩ := ((ownE_ints (Z := fun _ => True) d8.ints).held (fun _ _ _ => trivial)).len
                have hrow : Has wq g (VS.set q tv) 34 := hc9.keep.has HHS.out (fun e => by have := (HTV.out.lt g e).1; have := HGB.out; omega)
                have hcel := hrow.cell q tv HAT.out
                have hfre := hrow.free q
                have hset := hrow.set q (xq 8)
                rw [List.set_set] at hset
                have hu3 := (Upd.refl (fun b => b = g) wq).setCell (p := ⟨g, q, none⟩) (.inl rfl) (xq 8)
                have ho3 := d8.upd hu3 (fun b hb e => by rcases hb with hb | hb; exact hb.elim; have := (d8.lt b hb).1; have := HGB.out; omega)
                have hu4 := (hc9.mono (T := fun b => b = g ∨ tv.ownBlock = some b) (fun b _ e => .inr e)).trans (hu3.mono (fun b _ e => .inl e))
                rw [e5] at hset hu3 ho3 hu4
                rw [exec_store_sl (b := g) (off := q) rfl rfl e5 tv hcel hfre (by kernel_rfl)]
                refine ⟨?_, by rw [Hrgae10.out], by rw [HrgahX.out]; exact hu3⟩
                rw [HrgahC.out]
                refine ⟨fun e => ?_, fun e => ?_, fun _ => ⟨⟨_, hset, ho3⟩, hu4⟩⟩
                · have := hh.isDone 8 (by kernel_rfl)
                  rw [Mix.one_ne (by decide), this] at e; cases e
                · rw [Mix.one_set (by rw [hh.size]; decide)] at e; exact absurd e (by decide)
            intro xq wrga hcrga hvrga
            rw [HrgahC.out] at hcrga
            simp only [hFrga]
            clear hvrga hFrga Hrgak Hrgax HrgahE Hrgac HrgahC HrgahX Hrgab Hrgaxb Hrgae0 Hrgae1 Hrgae2 Hrgae3 Hrgae4 Hrgae5 Hrgae6 Hrgae7 Hrgae8 Hrgae9 Hrgae10
            obtain ⟨_, _, k3⟩ := hcrga
            obtain ⟨k3, k4⟩ := k3 (by kernel_rfl)
            obtain ⟨w5, hw5⟩ : ∃ w5, w5 = wrga := ⟨_, rfl⟩
            subst hw5
            have HX5 := Lib.hid (k4.keep.has HX4.out (fun e => by rcases e with e | e; exact HBXB.out.2 e; exact HTBX.out e))
            have HR5 := Lib.hid (show IRow w5 gw (widsC rows cols cl) from k4.keep.has HR4.out (fun e => by rcases e with e | e; (have := HNG.out; have := HGWB.out; omega); (have := (HTV.out.lt _ e).1; have := HGWB.out; omega)))
            have HRV5 := Lib.hid (HRV4.out.upd k4 (fun b hb e => by rcases e with e | e; (have := HGE.out; have := HWB.out; omega); (have := (HTV.out.lt _ e).1; have := HWB.out; omega)))
            have HB05 := Lib.hid (Nat.le_trans HB04.out k4.size)
            have HU5 := Lib.hid (HU4.out.trans (k4.mono (T := fun b => b = g ∨ B0 ≤ b) (fun b _ e => e.imp id (fun e => (HTV.out.lt b e).1))))
            clear k4 HHS HTV HAT HGL HTBX HX4 HR4 HRV4 HB04 HU4
            obtain ⟨tv, hhs, htv⟩ := k3
            have HHS := Lib.hid hhs
            have HTV := Lib.hid htv
            have HAT := Lib.hid (show (VS.set q tv)[q]? = some tv from List.getElem?_set_self (by rw [HLDK.out.1]; exact HQR.out))
            have HGL := Lib.hid hhs.lt
            clear hhs htv
            obtain ⟨xv, hxv, hmem⟩ := member_any _ rv _ k w5 HRV5.out (by omega)
            rw [show (rows.getD q []).getD k [] = atC rows q k from rfl] at hxv
            have HXV := Lib.hid hxv
            have HMEM := Lib.hid hmem
            clear hxv hmem
            go_wp2
            obtain ⟨Ergb, hErgb⟩ : ∃ EE : Nat → Value → World → Prop, EE = fun jj xx ww => match jj with
                | 0 => xx = .slice (some ⟨g, 0, none⟩) rl rl
                | 1 => xx = .int .i64 (q : Int)
                | 2 => xx = .slice (some ⟨g, 0, none⟩) rl rl
                | 3 => xx = .int .i64 (q : Int)
                | 4 => xx = .pointer (some ⟨g, q, none⟩)
                | 5 => xx = tv
                | 6 => xx = rv
                | 7 => xx = .int .i64 (k : Int)
                | 8 => xx = xv
                | 9 => xx = .slice (some ⟨gw, 0, none⟩) cl cl
                | 10 => xx = .int .i64 (k : Int)
                | 11 => xx = .pointer (some ⟨gw, k, none⟩)
                | 12 => xx = .int .i64 wd
                | 13 => xx = .pointer (some ⟨bx, 1, none⟩)
                | 14 => xx = .int .i64 side
                | 15 => (fun x w' => HeldE (intE .i32) (fun b => w5.heap.size ≤ b ∧ b ≠ g) w' x FT) xx ww
                | 16 => (fun x w' => OwnE (intE .i32) (fun _ => False) w' B0 21 x ((L0 ++ BL) ++ FT)) xx ww
                | 17 => xx = .pointer (some ⟨g, q, none⟩)
                | 18 => xx = undef
                | _ => True := ⟨_, rfl⟩
            have ergb0 : ∀ xx ww, Ergb 0 xx ww = (xx = .slice (some ⟨g, 0, none⟩) rl rl) := fun xx ww => congrFun (congrFun (congrFun hErgb 0) xx) ww
            have ergb1 : ∀ xx ww, Ergb 1 xx ww = (xx = .int .i64 (q : Int)) := fun xx ww => congrFun (congrFun (congrFun hErgb 1) xx) ww
            have ergb2 : ∀ xx ww, Ergb 2 xx ww = (xx = .slice (some ⟨g, 0, none⟩) rl rl) := fun xx ww => congrFun (congrFun (congrFun hErgb 2) xx) ww
            have ergb3 : ∀ xx ww, Ergb 3 xx ww = (xx = .int .i64 (q : Int)) := fun xx ww => congrFun (congrFun (congrFun hErgb 3) xx) ww
            have ergb4 : ∀ xx ww, Ergb 4 xx ww = (xx = .pointer (some ⟨g, q, none⟩)) := fun xx ww => congrFun (congrFun (congrFun hErgb 4) xx) ww
            have ergb5 : ∀ xx ww, Ergb 5 xx ww = (xx = tv) := fun xx ww => congrFun (congrFun (congrFun hErgb 5) xx) ww
            have ergb6 : ∀ xx ww, Ergb 6 xx ww = (xx = rv) := fun xx ww => congrFun (congrFun (congrFun hErgb 6) xx) ww
            have ergb7 : ∀ xx ww, Ergb 7 xx ww = (xx = .int .i64 (k : Int)) := fun xx ww => congrFun (congrFun (congrFun hErgb 7) xx) ww
            have ergb8 : ∀ xx ww, Ergb 8 xx ww = (xx = xv) := fun xx ww => congrFun (congrFun (congrFun hErgb 8) xx) ww
            have ergb9 : ∀ xx ww, Ergb 9 xx ww = (xx = .slice (some ⟨gw, 0, none⟩) cl cl) := fun xx ww => congrFun (congrFun (congrFun hErgb 9) xx) ww
            have ergb10 : ∀ xx ww, Ergb 10 xx ww = (xx = .int .i64 (k : Int)) := fun xx ww => congrFun (congrFun (congrFun hErgb 10) xx) ww
            have ergb11 : ∀ xx ww, Ergb 11 xx ww = (xx = .pointer (some ⟨gw, k, none⟩)) := fun xx ww => congrFun (congrFun (congrFun hErgb 11) xx) ww
            have ergb12 : ∀ xx ww, Ergb 12 xx ww = (xx = .int .i64 wd) := fun xx ww => congrFun (congrFun (congrFun hErgb 12) xx) ww
            have ergb13 : ∀ xx ww, Ergb 13 xx ww = (xx = .pointer (some ⟨bx, 1, none⟩)) := fun xx ww => congrFun (congrFun (congrFun hErgb 13) xx) ww
            have ergb14 : ∀ xx ww, Ergb 14 xx ww = (xx = .int .i64 side) := fun xx ww => congrFun (congrFun (congrFun hErgb 14) xx) ww
            have ergb15 : ∀ xx ww, Ergb 15 xx ww = ((fun x w' => HeldE (intE .i32) (fun b => w5.heap.size ≤ b ∧ b ≠ g) w' x FT) xx ww) := fun xx ww => congrFun (congrFun (congrFun hErgb 15) xx) ww
            have ergb16 : ∀ xx ww, Ergb 16 xx ww = ((fun x w' => OwnE (intE .i32) (fun _ => False) w' B0 21 x ((L0 ++ BL) ++ FT)) xx ww) := fun xx ww => congrFun (congrFun (congrFun hErgb 16) xx) ww
            have ergb17 : ∀ xx ww, Ergb 17 xx ww = (xx = .pointer (some ⟨g, q, none⟩)) := fun xx ww => congrFun (congrFun (congrFun hErgb 17) xx) ww
            have ergb18 : ∀ xx ww, Ergb 18 xx ww = (xx = undef) := fun xx ww => congrFun (congrFun (congrFun hErgb 18) xx) ww
            obtain ⟨Crgb, hCrgb⟩ : ∃ CC : Array Bool → World → Prop, CC = fun L8 w' => (Mix.one L8 16 = 0 → Below w5.heap.size w5 w') ∧ (Mix.one L8 18 = 0 → Upd (fun b => tv.ownBlock = some b) w5 w') ∧ (Mix.one L8 18 = 1 → LnS g VS q B0 ((L0 ++ BL) ++ FT) w' ∧ Upd (fun b => b = g ∨ tv.ownBlock = some b) w5 w') := ⟨_, rfl⟩
            have krgb : ∀ i L w, i ≠ 16 → i ≠ 18 →  Crgb L w → Crgb (L.setIfInBounds i true) w := by
              intro i L w q16 q18 h
              rw [hCrgb] at h ⊢
              simp only [Mix.one_ne q16, Mix.one_ne q18]; exact h
            obtain ⟨Xrgb, hXrgb⟩ : ∃ XX : Nat → World → World → Prop, XX = fun kk ww1 ww2 => if kk = 16 then (fun x y => Upd (fun b => tv.ownBlock = some b) x y) ww1 ww2 else (fun x y => Upd (fun b => b = g) x y) ww1 ww2 := ⟨_, rfl⟩
            have xrgb : ∀ {k : Nat} (w : World), Xrgb k w w := by
              intro k w
              rw [hXrgb]
              show if k = 16 then _ else _
              split
              · exact Upd.refl _ _
              · exact Upd.refl _ _
            have crgb : Crgb (Array.replicate 19 false) w5.drew := by rw [hCrgb]; exact ⟨fun _ => (Below.refl _ _).drew, fun _ => (Upd.refl _ _).drew, fun e => absurd e (by decide)⟩
            have brgb : ∀ L w w1, Crgb L w → Below w.heap.size w w1 → Crgb L w1 := by
              intro L w w1 h hb
              rw [hCrgb] at h ⊢
              (obtain ⟨q1, q2, q3⟩ := h; exact ⟨fun e => (q1 e).trans (hb.mono (q1 e).size), fun e => (q2 e).trans (.ofBelow hb), fun e => ⟨(q3 e).1.below hb, (q3 e).2.trans (.ofBelow hb)⟩⟩)
            have xbrgb : ∀ {k : Nat} (w w1 : World), Below w.heap.size w w1 → Xrgb k w w1 := by
              intro k w w1 hb
              rw [hXrgb]
              show if k = 16 then _ else _
              split
              · exact Upd.ofBelow hb
              · exact Upd.ofBelow hb
            have Hrgbb := Lib.hid brgb
            have Hrgbxb : Go.RowKit.Hid (∀ {k : Nat} (w w1 : World), Below w.heap.size w w1 → Xrgb k w w1) := @xbrgb
            clear brgb xbrgb
            have HrgbhE := Lib.hid hErgb
            clear hErgb
            have Hrgbk := Lib.hid krgb
            have Hrgbx : Go.RowKit.Hid (∀ {k : Nat} (w : World), Xrgb k w w) := @xrgb
            have Hrgbc := Lib.hid crgb
            have HrgbhC := Lib.hid hCrgb
            have HrgbhX := Lib.hid hXrgb
            have Hrgbe0 := Lib.hid ergb0
            have Hrgbe1 := Lib.hid ergb1
            have Hrgbe2 := Lib.hid ergb2
            have Hrgbe3 := Lib.hid ergb3
            have Hrgbe4 := Lib.hid ergb4
            have Hrgbe5 := Lib.hid ergb5
            have Hrgbe6 := Lib.hid ergb6
            have Hrgbe7 := Lib.hid ergb7
            have Hrgbe8 := Lib.hid ergb8
            have Hrgbe9 := Lib.hid ergb9
            have Hrgbe10 := Lib.hid ergb10
            have Hrgbe11 := Lib.hid ergb11
            have Hrgbe12 := Lib.hid ergb12
            have Hrgbe13 := Lib.hid ergb13
            have Hrgbe14 := Lib.hid ergb14
            have Hrgbe15 := Lib.hid ergb15
            have Hrgbe16 := Lib.hid ergb16
            have Hrgbe17 := Lib.hid ergb17
            have Hrgbe18 := Lib.hid ergb18
            clear krgb xrgb crgb hCrgb hXrgb ergb0 ergb1 ergb2 ergb3 ergb4 ergb5 ergb6 ergb7 ergb8 ergb9 ergb10 ergb11 ergb12 ergb13 ergb14 ergb15 ergb16 ergb17 ergb18
            go_wp2_with fail
            refine RegX.regionF Ergb Crgb Xrgb ?_ (by kernel_rfl) (by kernel_rfl) (by kernel_rfl) Hrgbc.out (fun Frgb hFrgb => ?_)
            · intro ii jj x w w1 hji hr hx h
              rw [HrgbhX.out] at hx
              by_cases hi : ii = 16
              · subst hi
                simp only [if_pos] at hx
                match jj with
                | 0 => rw [Hrgbe0.out] at h ⊢; exact h
                | 1 => rw [Hrgbe1.out] at h ⊢; exact h
                | 2 => rw [Hrgbe2.out] at h ⊢; exact h
                | 3 => rw [Hrgbe3.out] at h ⊢; exact h
                | 4 => rw [Hrgbe4.out] at h ⊢; exact h
                | 5 => rw [Hrgbe5.out] at h ⊢; exact h
                | 6 => rw [Hrgbe6.out] at h ⊢; exact h
                | 7 => rw [Hrgbe7.out] at h ⊢; exact h
                | 8 => rw [Hrgbe8.out] at h ⊢; exact h
                | 9 => rw [Hrgbe9.out] at h ⊢; exact h
                | 10 => rw [Hrgbe10.out] at h ⊢; exact h
                | 11 => rw [Hrgbe11.out] at h ⊢; exact h
                | 12 => rw [Hrgbe12.out] at h ⊢; exact h
                | 13 => rw [Hrgbe13.out] at h ⊢; exact h
                | 14 => rw [Hrgbe14.out] at h ⊢; exact h
                | 15 => rw [Hrgbe15.out] at h ⊢; (exact HeldE.upd h hx (fun b hb e => by have := (HTV.out.lt b e).2; have := hb.1; omega))
                | 16 => exact absurd rfl hji
                | 17 => rw [Hrgbe17.out] at h ⊢; exact h
                | 18 => rw [Hrgbe18.out] at h ⊢; exact h
                | jj + 19 => rw [HrgbhE.out]; trivial
              · simp only [if_neg hi] at hx
                match jj with
                | 0 => rw [Hrgbe0.out] at h ⊢; exact h
                | 1 => rw [Hrgbe1.out] at h ⊢; exact h
                | 2 => rw [Hrgbe2.out] at h ⊢; exact h
                | 3 => rw [Hrgbe3.out] at h ⊢; exact h
                | 4 => rw [Hrgbe4.out] at h ⊢; exact h
                | 5 => rw [Hrgbe5.out] at h ⊢; exact h
                | 6 => rw [Hrgbe6.out] at h ⊢; exact h
                | 7 => rw [Hrgbe7.out] at h ⊢; exact h
                | 8 => rw [Hrgbe8.out] at h ⊢; exact h
                | 9 => rw [Hrgbe9.out] at h ⊢; exact h
                | 10 => rw [Hrgbe10.out] at h ⊢; exact h
                | 11 => rw [Hrgbe11.out] at h ⊢; exact h
                | 12 => rw [Hrgbe12.out] at h ⊢; exact h
                | 13 => rw [Hrgbe13.out] at h ⊢; exact h
                | 14 => rw [Hrgbe14.out] at h ⊢; exact h
                | 15 => rw [Hrgbe15.out] at h ⊢; (first | exact HeldE.upd h hx (fun b hb e => hb.2 e) | exact OwnE.upd h hx (fun b hb e => by rcases hb with hb | hb; exact hb.elim; have := (OwnE.lt h b hb).1; have := HGB.out; omega))
                | 16 => rw [Hrgbe16.out] at h ⊢; (first | exact HeldE.upd h hx (fun b hb e => hb.2 e) | exact OwnE.upd h hx (fun b hb e => by rcases hb with hb | hb; exact hb.elim; have := (OwnE.lt h b hb).1; have := HGB.out; omega))
                | 17 => rw [Hrgbe17.out] at h ⊢; exact h
                | 18 => rw [Hrgbe18.out] at h ⊢; exact h
                | jj + 19 => rw [HrgbhE.out]; trivial
            simp only [Reg.frame, Reg.dsts, List.map_cons, List.map_nil, Mix.put_lit, Reg.put_none, List.set_cons_succ, List.set_cons_zero, Nat.zero_add, Nat.reduceAdd] at hFrgb
            refine ⟨?_, ?_⟩
            · refine ⟨?_, ?_, ?_, ?_, ?_, ?_, ?_, ?_, ?_, ?_, ?_, ?_, ?_, ?_, ?_, ?_, ?_, ?_, ?_, trivial⟩
              · intro Lq wq xq hh
                simp only [hFrgb]
                refine .inl ⟨rfl, ?_⟩
                unfold Reg.upon
                have hk := Hrgbk.out 0 Lq wq (by decide) (by decide)  hh.cls
                have hx : Xrgb 0 wq wq := Hrgbx.out wq
                have he : Ergb 0 (.slice (some ⟨g, 0, none⟩) rl rl) wq := by rw [Hrgbe0.out]
                have HK := Lib.hid (And.intro hk (And.intro he hx))
                clear hk hx he
                go_simp
                exact HK.out
              · intro Lq wq xq hh
                simp only [hFrgb]
                refine .inl ⟨rfl, ?_⟩
                unfold Reg.upon
                have hk := Hrgbk.out 1 Lq wq (by decide) (by decide)  hh.cls
                have hx : Xrgb 1 wq wq := Hrgbx.out wq
                have he : Ergb 1 (.int .i64 (q : Int)) wq := by rw [Hrgbe1.out]
                have HK := Lib.hid (And.intro hk (And.intro he hx))
                clear hk hx he
                go_simp
                exact HK.out
              · intro Lq wq xq hh
                simp only [hFrgb]
                refine .inl ⟨rfl, ?_⟩
                unfold Reg.upon
                have hk := Hrgbk.out 2 Lq wq (by decide) (by decide)  hh.cls
                have hx : Xrgb 2 wq wq := Hrgbx.out wq
                have he : Ergb 2 (.slice (some ⟨g, 0, none⟩) rl rl) wq := by rw [Hrgbe2.out]
                have HK := Lib.hid (And.intro hk (And.intro he hx))
                clear hk hx he
                go_simp
                exact HK.out
              · intro Lq wq xq hh
                simp only [hFrgb]
                refine .inl ⟨rfl, ?_⟩
                unfold Reg.upon
                have hk := Hrgbk.out 3 Lq wq (by decide) (by decide)  hh.cls
                have hx : Xrgb 3 wq wq := Hrgbx.out wq
                have he : Ergb 3 (.int .i64 (q : Int)) wq := by rw [Hrgbe3.out]
                have HK := Lib.hid (And.intro hk (And.intro he hx))
                clear hk hx he
                go_simp
                exact HK.out
              · intro Lq wq xq hh
                have d2 : Ergb 2 (xq 2) wq := hh.val 2 (by kernel_rfl) (by kernel_rfl)
                rw [Hrgbe2.out] at d2
                have d3 : Ergb 3 (xq 3) wq := hh.val 3 (by kernel_rfl) (by kernel_rfl)
                rw [Hrgbe3.out] at d3
                simp only [hFrgb, d2, d3]
                clear d2 d3
                refine .inl ⟨rfl, ?_⟩
                unfold Reg.upon
                have hk := Hrgbk.out 4 Lq wq (by decide) (by decide)  hh.cls
                have hx : Xrgb 4 wq wq := Hrgbx.out wq
                have he : Ergb 4 (.pointer (some ⟨g, q, none⟩)) wq := by rw [Hrgbe4.out]
                have HK := Lib.hid (And.intro hk (And.intro he hx))
                clear hk hx he
                go_simp
                exact HK.out
              · intro Lq wq xq hh
                have d4 : Ergb 4 (xq 4) wq := hh.val 4 (by kernel_rfl) (by kernel_rfl)
                rw [Hrgbe4.out] at d4
                simp only [hFrgb, d4]
                clear d4
                refine .inl ⟨rfl, ?_⟩
                unfold Reg.upon
                have hc : Crgb Lq wq := hh.cls
                rw [HrgbhC.out] at hc
                have q0 := ((hc.1 (Mix.one_un (hh.notYet 16 (by kernel_rfl)))).cell (p := ⟨g, q, none⟩) HGL.out).trans (HHS.out.cell q tv HAT.out)
                clear hc
                have hk := Hrgbk.out 5 Lq wq (by decide) (by decide)  hh.cls
                have hx : Xrgb 5 wq wq := Hrgbx.out wq
                have he : Ergb 5 (tv) wq := by rw [Hrgbe5.out]
                have HK := Lib.hid (And.intro hk (And.intro he hx))
                clear hk hx he
                go_simp
                exact HK.out
              · intro Lq wq xq hh
                simp only [hFrgb]
                refine .inl ⟨rfl, ?_⟩
                unfold Reg.upon
                have hk := Hrgbk.out 6 Lq wq (by decide) (by decide)  hh.cls
                have hx : Xrgb 6 wq wq := Hrgbx.out wq
                have he : Ergb 6 (rv) wq := by rw [Hrgbe6.out]
                have HK := Lib.hid (And.intro hk (And.intro he hx))
                clear hk hx he
                go_simp
                exact HK.out
              · intro Lq wq xq hh
                simp only [hFrgb]
                refine .inl ⟨rfl, ?_⟩
                unfold Reg.upon
                have hk := Hrgbk.out 7 Lq wq (by decide) (by decide)  hh.cls
                have hx : Xrgb 7 wq wq := Hrgbx.out wq
                have he : Ergb 7 (.int .i64 (k : Int)) wq := by rw [Hrgbe7.out]
                have HK := Lib.hid (And.intro hk (And.intro he hx))
                clear hk hx he
                go_simp
                exact HK.out
              · intro Lq wq xq hh
                have d6 : Ergb 6 (xq 6) wq := hh.val 6 (by kernel_rfl) (by kernel_rfl)
                rw [Hrgbe6.out] at d6
                have d7 : Ergb 7 (xq 7) wq := hh.val 7 (by kernel_rfl) (by kernel_rfl)
                rw [Hrgbe7.out] at d7
                simp only [hFrgb, d6, d7]
                clear d6 d7
                refine .inl ⟨rfl, ?_⟩
                unfold Reg.upon
                have hc : Crgb Lq wq := hh.cls
                rw [HrgbhC.out] at hc
                go_simp
                refine (HMEM.out wq (hc.1 (Mix.one_un (hh.notYet 16 (by kernel_rfl))))).mono ?_
                rintro e w2 ⟨rfl, rfl⟩
                exact ⟨_, rfl, Hrgbk.out 8 Lq wq (by decide) (by decide)  hh.cls, (by rw [Hrgbe8.out]; try rfl), Hrgbx.out _⟩
              · intro Lq wq xq hh
                simp only [hFrgb]
                refine .inl ⟨rfl, ?_⟩
                unfold Reg.upon
                have hk := Hrgbk.out 9 Lq wq (by decide) (by decide)  hh.cls
                have hx : Xrgb 9 wq wq := Hrgbx.out wq
                have he : Ergb 9 (.slice (some ⟨gw, 0, none⟩) cl cl) wq := by rw [Hrgbe9.out]
                have HK := Lib.hid (And.intro hk (And.intro he hx))
                clear hk hx he
                go_simp
                exact HK.out
              · intro Lq wq xq hh
                simp only [hFrgb]
                refine .inl ⟨rfl, ?_⟩
                unfold Reg.upon
                have hk := Hrgbk.out 10 Lq wq (by decide) (by decide)  hh.cls
                have hx : Xrgb 10 wq wq := Hrgbx.out wq
                have he : Ergb 10 (.int .i64 (k : Int)) wq := by rw [Hrgbe10.out]
                have HK := Lib.hid (And.intro hk (And.intro he hx))
                clear hk hx he
                go_simp
                exact HK.out
              · intro Lq wq xq hh
                have d9 : Ergb 9 (xq 9) wq := hh.val 9 (by kernel_rfl) (by kernel_rfl)
                rw [Hrgbe9.out] at d9
                have d10 : Ergb 10 (xq 10) wq := hh.val 10 (by kernel_rfl) (by kernel_rfl)
                rw [Hrgbe10.out] at d10
                simp only [hFrgb, d9, d10]
                clear d9 d10
                refine .inl ⟨rfl, ?_⟩
                unfold Reg.upon
                have hk := Hrgbk.out 11 Lq wq (by decide) (by decide)  hh.cls
                have hx : Xrgb 11 wq wq := Hrgbx.out wq
                have he : Ergb 11 (.pointer (some ⟨gw, k, none⟩)) wq := by rw [Hrgbe11.out]
                have HK := Lib.hid (And.intro hk (And.intro he hx))
                clear hk hx he
                go_simp
                exact HK.out
              · intro Lq wq xq hh
                have d11 : Ergb 11 (xq 11) wq := hh.val 11 (by kernel_rfl) (by kernel_rfl)
                rw [Hrgbe11.out] at d11
                simp only [hFrgb, d11]
                clear d11
                refine .inl ⟨rfl, ?_⟩
                unfold Reg.upon
                have hc : Crgb Lq wq := hh.cls
                rw [HrgbhC.out] at hc
                have q0 := ((hc.1 (Mix.one_un (hh.notYet 16 (by kernel_rfl)))).cell (p := ⟨gw, k, none⟩) (Has.lt HR5.out)).trans (IRow.cell HR5.out HWA8.out)
                clear hc
                have hk := Hrgbk.out 12 Lq wq (by decide) (by decide)  hh.cls
                have hx : Xrgb 12 wq wq := Hrgbx.out wq
                have he : Ergb 12 (.int .i64 wd) wq := by rw [Hrgbe12.out]
                have HK := Lib.hid (And.intro hk (And.intro he hx))
                clear hk hx he
                go_simp
                exact HK.out
              · intro Lq wq xq hh
                simp only [hFrgb]
                refine .inl ⟨rfl, ?_⟩
                unfold Reg.upon
                have hk := Hrgbk.out 13 Lq wq (by decide) (by decide)  hh.cls
                have hx : Xrgb 13 wq wq := Hrgbx.out wq
                have he : Ergb 13 (.pointer (some ⟨bx, 1, none⟩)) wq := by rw [Hrgbe13.out]
                have HK := Lib.hid (And.intro hk (And.intro he hx))
                clear hk hx he
                go_simp
                exact HK.out
              · intro Lq wq xq hh
                have d13 : Ergb 13 (xq 13) wq := hh.val 13 (by kernel_rfl) (by kernel_rfl)
                rw [Hrgbe13.out] at d13
                simp only [hFrgb, d13]
                clear d13
                refine .inl ⟨rfl, ?_⟩
                unfold Reg.upon
                have hc : Crgb Lq wq := hh.cls
                rw [HrgbhC.out] at hc
                have q0 := ((hc.1 (Mix.one_un (hh.notYet 16 (by kernel_rfl)))).cell (p := ⟨bx, 1, none⟩) HX5.out.lt).trans (HX5.out.cell 1 _ rfl)
                clear hc
                have hk := Hrgbk.out 14 Lq wq (by decide) (by decide)  hh.cls
                have hx : Xrgb 14 wq wq := Hrgbx.out wq
                have he : Ergb 14 (.int .i64 side) wq := by rw [Hrgbe14.out]
                have HK := Lib.hid (And.intro hk (And.intro he hx))
                clear hk hx he
                go_simp
                exact HK.out
              · intro Lq wq xq hh
                have d8 : Ergb 8 (xq 8) wq := hh.val 8 (by kernel_rfl) (by kernel_rfl)
                rw [Hrgbe8.out] at d8
                have d12 : Ergb 12 (xq 12) wq := hh.val 12 (by kernel_rfl) (by kernel_rfl)
                rw [Hrgbe12.out] at d12
                have d14 : Ergb 14 (xq 14) wq := hh.val 14 (by kernel_rfl) (by kernel_rfl)
                rw [Hrgbe14.out] at d14
                simp only [hFrgb, d8, d12, d14]
                clear d8 d12 d14
                refine .inl ⟨rfl, ?_⟩
                unfold Reg.upon
                have hc : Crgb Lq wq := hh.cls
                rw [HrgbhC.out] at hc
                go_simp
                refine (HFIT.out xv wq (HXV.out.below (hc.1 (Mix.one_un (hh.notYet 16 (by kernel_rfl)))))).mono ?_
                rintro e w2 ⟨v2, rfl, ho2, hb2⟩
                have hsz := (hc.1 (Mix.one_un (hh.notYet 16 (by kernel_rfl)))).size
                exact ⟨_, rfl, Hrgbk.out 15 Lq w2 (by decide) (by decide) (Hrgbb.out Lq wq w2 hh.cls hb2), (by rw [Hrgbe15.out]; exact (ownE_ints (Z := fun b => w5.heap.size ≤ b ∧ b ≠ g) ho2).held fun b hb _ => ⟨by omega, by have := HGL.out; omega⟩), Hrgbxb.out wq w2 hb2⟩
              · intro Lq wq xq hh
                have d5 : Ergb 5 (xq 5) wq := hh.val 5 (by kernel_rfl) (by kernel_rfl)
                rw [Hrgbe5.out] at d5
                have d15 : Ergb 15 (xq 15) wq := hh.val 15 (by kernel_rfl) (by kernel_rfl)
                rw [Hrgbe15.out] at d15
                simp only [hFrgb, d5]
                clear d5
                refine .inl ⟨rfl, ?_⟩
                unfold Reg.upon
                have hc : Crgb Lq wq := hh.cls
                rw [HrgbhC.out] at hc
                have hc7 := hc.1 hh.un
                have hc9 := hc.2.1 (Mix.one_un (hh.notYet 18 (by kernel_rfl)))
                obtain ⟨v', w', hr, h1, h2, h3, h4⟩ := run_append_e (P := Tryz.prog) (E := intE .i32) (Z := fun _ => True) (w := wq) (B := B0) (ty := 21) 34 _ (.int .i32 0) 4 Tryz.underlying34 info_tT rfl (by decide) (ownE_ints (HTV.out.below hc7).ints) (d15.zone (Y := fun b => True ∧ tv.ownBlock ≠ some b) (fun b _ hz => ⟨trivial, fun e => by have := (HTV.out.lt b e).2; have := hz.1; omega⟩)) (by have := HLA.out; have := HFL.out; omega) (by have := HLA.out; have := HFL.out; omega) (by have := hc7.size; have := HB05.out; omega)
                have hu : Upd (fun b => tv.ownBlock = some b) wq w' := ⟨h2.os, h2.tape, h2.output, h3.size, fun b hb hn => h3.block b hb hn⟩
                rw [exec_app rfl rfl rfl hr]
                refine ⟨?_, ?_, ?_⟩
                · rw [HrgbhC.out]
                  refine ⟨fun e => ?_, fun _ => hc9.trans hu, fun e => ?_⟩
                  · rw [Mix.one_set (by rw [hh.size]; decide)] at e; exact absurd e (by decide)
                  · rw [Mix.one_ne (by decide), Mix.one_un (hh.notYet 18 (by kernel_rfl))] at e; cases e
                · rw [Hrgbe16.out]; exact ownE_ints h1.ints
                · rw [HrgbhX.out]; exact hu
              · intro Lq wq xq hh
                have d0 : Ergb 0 (xq 0) wq := hh.val 0 (by kernel_rfl) (by kernel_rfl)
                rw [Hrgbe0.out] at d0
                have d1 : Ergb 1 (xq 1) wq := hh.val 1 (by kernel_rfl) (by kernel_rfl)
                rw [Hrgbe1.out] at d1
                simp only [hFrgb, d0, d1]
                clear d0 d1
                refine .inl ⟨rfl, ?_⟩
                unfold Reg.upon
                have hk := Hrgbk.out 17 Lq wq (by decide) (by decide)  hh.cls
                have hx : Xrgb 17 wq wq := Hrgbx.out wq
                have he : Ergb 17 (.pointer (some ⟨g, q, none⟩)) wq := by rw [Hrgbe17.out]
                have HK := Lib.hid (And.intro hk (And.intro he hx))
                clear hk hx he
                go_simp
                exact HK.out
              · intro Lq wq xq hh
                have d16 : Ergb 16 (xq 16) wq := hh.val 16 (by kernel_rfl) (by kernel_rfl)
                rw [Hrgbe16.out] at d16
                have d17 : Ergb 17 (xq 17) wq := hh.val 17 (by kernel_rfl) (by kernel_rfl)
                rw [Hrgbe17.out] at d17
                simp only [hFrgb, d17]
                clear d17
                refine .inl ⟨rfl, ?_⟩
                unfold Reg.upon
                have hc : Crgb Lq wq := hh.cls
                rw [HrgbhC.out] at hc
                have hc9 := hc.2.1 hh.un
                obtain ⟨a5, c5, e5⟩ := ((ownE_ints (Z := fun _ => True) d16.ints).held (fun _ _ _ => trivial)).len
                have hrow : Has wq g (VS.set q tv) 34 := hc9.keep.has HHS.out (fun e => by have := (HTV.out.lt g e).1; have := HGB.out; omega)
                have hcel := hrow.cell q tv HAT.out
                have hfre := hrow.free q
                have hset := hrow.set q (xq 16)
                rw [List.set_set] at hset
                have hu3 := (Upd.refl (fun b => b = g) wq).setCell (p := ⟨g, q, none⟩) (.inl rfl) (xq 16)
                have ho3 := d16.upd hu3 (fun b hb e => by rcases hb with hb | hb; exact hb.elim; have := (d16.lt b hb).1; have := HGB.out; omega)
                have hu4 := (hc9.mono (T := fun b => b = g ∨ tv.ownBlock = some b) (fun b _ e => .inr e)).trans (hu3.mono (fun b _ e => .inl e))
                rw [e5] at hset hu3 ho3 hu4
                rw [exec_store_sl (b := g) (off := q) rfl rfl e5 tv hcel hfre (by kernel_rfl)]
                refine ⟨?_, by rw [Hrgbe18.out], by rw [HrgbhX.out]; exact hu3⟩
                rw [HrgbhC.out]
                refine ⟨fun e => ?_, fun e => ?_, fun _ => ⟨⟨_, hset, ho3⟩, hu4⟩⟩
                · have := hh.isDone 16 (by kernel_rfl)
                  rw [Mix.one_ne (by decide), this] at e; cases e
                · rw [Mix.one_set (by rw [hh.size]; decide)] at e; exact absurd e (by decide)
            intro xq wrgb hcrgb hvrgb
            rw [HrgbhC.out] at hcrgb
            simp only [hFrgb]
            clear hvrgb hFrgb Hrgbk Hrgbx HrgbhE Hrgbc HrgbhC HrgbhX Hrgbb Hrgbxb Hrgbe0 Hrgbe1 Hrgbe2 Hrgbe3 Hrgbe4 Hrgbe5 Hrgbe6 Hrgbe7 Hrgbe8 Hrgbe9 Hrgbe10 Hrgbe11 Hrgbe12 Hrgbe13 Hrgbe14 Hrgbe15 Hrgbe16 Hrgbe17 Hrgbe18
            obtain ⟨_, _, k3⟩ := hcrgb
            obtain ⟨k3, k4⟩ := k3 (by kernel_rfl)
            have HF1 := Lib.hid (show LnS g VS q B0 (lineC rows cols gap q (k + 1)) wrgb from by rw [HNX.out, HBLK.out]; exact k3)
            have HF3 := Lib.hid (HU5.out.trans (k4.mono (T := fun b => b = g ∨ B0 ≤ b) (fun b _ e => e.imp id (fun e => (HTV.out.lt b e).1))))
            clear k3 k4
            go_wp2
            go_roundw
            case rel => exact ⟨k + 1, by omega, by go_num, HF1.out, HF3.out⟩
            case measure => simp [intOf] <;> omega
        · obtain rfl : k = cl := by omega
          obtain ⟨VS', hnl⟩ := HLDK.out.next HQR.out (by rw [← HB0.out, ← HCL.out]; exact HLS.out) (by rw [← HB0.out]; exact HUP.out) HBW.out.size
          have HF1 := Lib.hid hnl
          have HF2 := Lib.hid (show IRow wi gw (widsC rows cols k) from HUP.out.keep.has HROW.out (fun e => by have := HNG.out; have := HGWB.out; omega))
          have HF3 := Lib.hid (HBW.out.upd HUP.out HBW.out.size (fun b e => by have := HGE.out; have := HWB.out; omega))
          clear hnl
          go_wp2
          go_roundw
          case rel => exact ⟨q + 1, VS', by omega, by go_num, HF1.out, HF2.out, HF3.out⟩
          case measure => simp [intOf] <;> omega
    · obtain rfl : q = rl := by omega
      go_wp2
      go_ret
      exact ⟨g, VS, (ret_eq (by first | rfl | (simp <;> omega))), HLDK.out, HBW.out⟩
end Go.Proofs.YtkpmmkokfllafaaGreat
