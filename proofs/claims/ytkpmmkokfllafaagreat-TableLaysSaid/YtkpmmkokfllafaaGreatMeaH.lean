/- The reference's Head (21). -/
import Derived.Test.YtkpmmkokfllafaaGreatMeaG
namespace Go.Proofs.YtkpmmkokfllafaaGreat
open Go.RowKit Go.ChangeShapes Go.WideShapes
theorem toI_getD (L : List Nat) (i : Nat) : (toI L).getD i 0 = ((L.getD i 0 : Nat) : Int) := by
  unfold toI
  by_cases h : i < L.length
  · simp [List.getD, List.getElem?_map, List.getElem?_eq_getElem h]
  · simp [List.getD, List.getElem?_eq_none (show L.length ≤ i by omega)]
theorem ends_at (xs : List Int) (i : Nat) : (toI (startB (jR (knownL xs)) xs.length) ++ [(xs.length : Int)]).getD i 0 = (endC xs i : Int) := by
  have e : toI (startB (jR (knownL xs)) xs.length) ++ [(xs.length : Int)] = toI (startB (jR (knownL xs)) xs.length ++ [xs.length]) := by simp [toI]
  rw [e, toI_getD]
  rfl
theorem rb_succ (xs : List Int) (W : Int) (i : Nat) : rb xs W (i + 1) = if cumW xs i ≤ W then ((endC xs i : Int), cumW xs i) else rb xs W i := rfl
theorem take_b32 {xs : List Int} (hr : bounds32 xs) (a : Nat) : bounds32 (xs.take a) := fun j hj => by
  rw [List.length_take] at hj
  have := hr j (by omega)
  rw [show (xs.take a).getD j 0 = xs.getD j 0 from by simp [List.getD, List.getElem?_take, show j < a by omega]]
  exact this
def HeadGives (xs : List Int) (W : Int) (w : World) : Ending → World → Prop := Gives w (.tuple #[.int .i64 (rbC xs W).1, .int .i64 (rbC xs W).2])
set_option maxRecDepth 100000 in
set_option maxHeartbeats 3000000 in
theorem rhead_any (Z : Zone) (v : Value) (xs : List Int) (Wd : Int) (w : World) (hx : HeldE (intE .i32) Z w v xs) (hn : xs.length ≤ 1000000) (hr : bounds32 xs) : Calls Tryz.prog 40 #[v, .int .i64 Wd] w (HeadGives xs Wd w) := by
  have HST := Lib.hid (rstarts_any v xs w hx.ints hn hr)
  have hsl := startB_len (jR (knownL xs)) xs.length
  have hml : (clS xs).length = (startB (jR (knownL xs)) xs.length).length := spansB_len _ (jR_zero _) _
  have HEA := Lib.hid (fun i => ends_at xs i)
  have HEC := Lib.hid (fun i h => And.intro (endC_le xs i h) (Nat.zero_le i))
  have HRB := Lib.hid (fun i => rb_succ xs Wd i)
  have HR0 := Lib.hid (show rb xs Wd 0 = (0, 0) from rfl)
  have HRC := Lib.hid (show rbC xs Wd = if Wd < 0 then (0, 0) else rb xs Wd ((clS xs).length + 1) from rfl)
  obtain ⟨ao, ca, rfl, hcap, hmx, hnone, _⟩ := id hx
  rcases ao with _ | ⟨b, off, fld⟩
  · obtain ⟨hxs, hca⟩ := hnone rfl
    have HZ := Lib.hid (show ∀ i, i ≤ (clS xs).length → endC xs i = 0 from fun i hi => by have := endC_le xs i hi; rw [hxs] at this ⊢; simpa using this)
    have HCOL := Lib.hid (show ∀ i, i ≤ (clS xs).length → ∀ w', Below w.heap.size w w' → Calls Tryz.prog 15 #[.slice none 0 0] w' (Gives w' (.int .i64 (cumW xs i))) from fun i hi w' hb => by
      have := rcols_any Z (.slice none 0 0) (xs.take (endC xs i)) w' (by rw [HZ.out i hi, List.take_zero]; exact HeldE.nil _ _ _) (by rw [List.length_take]; omega) (take_b32 hr _)
      rw [cols_take xs i hi] at this
      exact this)
    have hxl : xs.length = 0 := by rw [hxs]; rfl
    rw [hxl, hca] at HST ⊢
    rw [hxl] at HEA HEC
    have HEA := Lib.hid (show ∀ i, (toI (startB (jR (knownL xs)) 0) ++ [(0 : Int)]).getD i 0 = (endC xs i : Int) from HEA.out)
    have hn0 : (startB (jR (knownL xs)) 0) = [] := rfl
    obtain ⟨n, hnn⟩ : ∃ n, n = 0 := ⟨_, rfl⟩
    obtain ⟨ST, hST⟩ : ∃ ST, ST = startB (jR (knownL xs)) 0 := ⟨_, rfl⟩
    obtain ⟨m, hm⟩ : ∃ m, m = (clS xs).length := ⟨_, rfl⟩
    obtain ⟨EC, hEC⟩ : ∃ EC, EC = endC xs := ⟨_, rfl⟩
    obtain ⟨CW, hCW⟩ : ∃ CW, CW = cumW xs := ⟨_, rfl⟩
    obtain ⟨RB, hRB⟩ : ∃ RB, RB = rb xs Wd := ⟨_, rfl⟩
    have HTL := Lib.hid (show (toI ST).length = m ∧ m ≤ 1000000 from by rw [hm, hml, toI_len, hST, hxl]; exact ⟨rfl, by rw [hn0]; decide⟩)
    rw [← hST] at HST HEA
    rw [← hm] at HCOL HEC HRC HZ
    rw [← hEC] at HEA HEC HRB HZ
    rw [← hCW] at HCOL HRB
    rw [← hRB] at HRB HR0 HRC
    clear hx hxs hr hnone hsl hml hST hm hEC hCW hRB hxl hn0 hcap hmx hca

    go_enter Tryz.func40, Tryz.ntmps40
    go_wp2_with fail
    refine HST.out.mono ?_
    rintro e w1 ⟨v1, k1, rfl, ho1, b1⟩
    have ho1 := ownE_ints (Z := fun b => w.heap.size ≤ b) ho1
    have hb2 := (Below.refl w1.heap.size w1).alloc (Nat.le_refl _) (.cells [.int .i64 0].toArray 3)
    have hlo := ho1.lt
    have HU := Lib.hid (show HeldE (intE .i64) (fun b => w.heap.size ≤ b ∧ v1.ownBlock ≠ some b) (w1.alloc (.cells [.int .i64 0].toArray 3)) (.slice (some ⟨w1.heap.size, 0, none⟩) 1 1) [0] from heldE_one (Y := fun _ => False) [.int .i64 0] 0 rfl (fun _ _ h => h.elim) ⟨b1.size, fun e => by have := (hlo _ e).2; omega⟩)
    have HO1 := Lib.hid (ho1.below hb2)
    have HB1 := Lib.hid (b1.trans (hb2.mono b1.size))
    clear ho1 b1 hb2 hlo
    go_wp2_with (at_builtin; refine wpList_append_e (E := intE .i64) (Z := fun b => w.heap.size ≤ b) rfl (.tmp 12) (.tmp 15) 26 rfl (.int .i64 0) 8 Tryz.underlying26 info_int rfl (by decide) rfl rfl HO1.out HU.out (by have := HTL.out; simp only [List.length_singleton]; omega) (by have := HTL.out; simp only [List.length_singleton]; omega) HB1.out.size ?_)
    intro v2 w2 ho2 b2 _ _
    have hh2 := (ho2.held (Z := fun b => w.heap.size ≤ b) (fun b h _ => h)).ints
    obtain ⟨aa, cc, rfl, hca⟩ := hh2.view
    have HCA := Lib.hid hca
    have HAT := Lib.hid (show (toI ST ++ [0]).length = m + 1 from by rw [List.length_append, List.length_singleton]; have := HTL.out; omega)
    rw [HAT.out] at HCA ⊢
    have HB2 := Lib.hid (HB1.out.trans b2)
    clear hnn n
    have hmn : m ≤ 1000000 := HTL.out.2
    clear ho2 b2 hh2 hca HU HO1 HB1
    go_wp2
    go_loopw [6, 7, 9] (fun bv uv i wr => ∃ k : Nat, k ≤ m + 1 ∧ i = .int .i64 k ∧ bv = .int .i64 (RB k).1 ∧ uv = .int .i64 (RB k).2 ∧ Below w2.heap.size w2 wr) (fun _ _ i _ => m + 1 - (intOf i).toNat)
    case atStart => exact ⟨0, Nat.zero_le _, rfl, by rw [HR0.out], by rw [HR0.out], Below.refl _ _⟩
    case round =>
      obtain ⟨k, hk, rfl, hbv, huv, hbw⟩ := hrel
      obtain ⟨wk, hwk⟩ : ∃ wk, wk = wr := ⟨_, rfl⟩
      subst hwk
      have HBW := Lib.hid hbw
      clear hbw
      by_cases hlt : k < m + 1
      · obtain ⟨ba, oa, e1, hb1, c1⟩ := HCA.out k hlt
        subst e1
        have c1 := (HBW.out.cell (p := ⟨ba, oa + k, none⟩) hb1).trans c1
        rw [HEA.out k] at c1
        obtain ⟨hec1, hec2⟩ := HEC.out k (by omega)
        have HCO := Lib.hid (HCOL.out k (by omega) wk (HB2.out.trans (HBW.out.mono HB2.out.size)))
        have hrb := HRB.out k
        have hz : EC k = 0 := HZ.out k (by omega)
        rw [hz] at c1 hrb
        have hkm : (k : Int) < (m : Int) + 1 := by omega
        have hkc : k < m + 1 := hlt
        have hwk : IntKind.i64.wrap ((k : Int) + 1) = (k : Int) + 1 := by rw [IntKind.wrap_i64]; omega
        
        
        obtain ⟨C, hC⟩ : ∃ C, C = CW k := ⟨_, rfl⟩
        rw [← hC] at HCO hrb
        obtain ⟨x1, hx1⟩ : ∃ x1, x1 = (RB k).1 := ⟨_, rfl⟩
        obtain ⟨x2, hx2⟩ : ∃ x2, x2 = (RB k).2 := ⟨_, rfl⟩
        rw [← hx1] at hbv
        rw [← hx2] at huv
        subst hbv huv
        have HBA := Lib.hid (World.block_lt_of_cell? _ _ c1)
        have HC1 := Lib.hid c1
        clear hz hec1 hec2
        skip
        skip
        by_cases hle : C ≤ Wd
        · have hdl : decide (C ≤ Wd) = true := by simpa using hle
          rw [if_pos hle] at hrb
          have HRK := Lib.hid hrb
          clear hrb hle hC hx1 hx2 
          go_wp2_with fail
          refine HCO.out.mono ?_
          rintro e w3 ⟨rfl, b3⟩
          have HB3 := Lib.hid (HBW.out.trans (b3.mono HBW.out.size))
          have c1 := (b3.cell (p := ⟨ba, oa + k, none⟩) HBA.out).trans HC1.out
          clear b3
          go_wp2
          go_roundw
          case rel => exact ⟨k + 1, by omega, by go_num, by rw [HRK.out]; try rfl, by rw [HRK.out], HB3.out⟩
          case measure => simp [intOf] <;> omega
        · have hdl : decide (C ≤ Wd) = false := by simpa using hle
          rw [if_neg hle] at hrb
          have HRK := Lib.hid hrb
          have HX := Lib.hid (And.intro hx1 hx2)
          clear hrb hle hC hx1 hx2 
          go_wp2_with fail
          refine HCO.out.mono ?_
          rintro e w3 ⟨rfl, b3⟩
          have HB3 := Lib.hid (HBW.out.trans (b3.mono HBW.out.size))
          clear b3 c1
          go_wp2
          go_roundw
          case rel => exact ⟨k + 1, by omega, by go_num, by rw [HRK.out, HX.out.1], by rw [HRK.out, HX.out.2], HB3.out⟩
          case measure => simp [intOf] <;> omega
      · obtain rfl : k = m + 1 := by omega
        subst hbv huv
        have HF := Lib.hid (HB2.out.trans (HBW.out.mono HB2.out.size))
        by_cases hw : Wd < 0
        · have hdw : decide (Wd < 0) = true := by simpa using hw
          have HRC2 := Lib.hid (show rbC xs Wd = (0, 0) from by rw [HRC.out, if_pos hw])
          clear hw
          go_wp2
          exact bodyPost_ret (v := .tuple #[.int .i64 0, .int .i64 0]) (by simp [results, Tryz.results40, go_sem]) rfl ⟨ret_eq (by rw [HRC2.out]; try rfl), HF.out⟩
        · have hdw : decide (Wd < 0) = false := by simpa using hw
          have HRC2 := Lib.hid (show rbC xs Wd = RB (m + 1) from by rw [HRC.out, if_neg hw])
          clear hw
          go_wp2
          exact bodyPost_ret (v := .tuple #[.int .i64 (RB (m + 1)).1, .int .i64 (RB (m + 1)).2]) (by simp [results, Tryz.results40, go_sem]) rfl ⟨ret_eq (by rw [HRC2.out]; try rfl), HF.out⟩
  · have HCOL := Lib.hid (show ∀ i, i ≤ (clS xs).length → ∀ w', Below w.heap.size w w' → Calls Tryz.prog 15 #[.slice (some ⟨b, off, fld⟩) (endC xs i) ca] w' (Gives w' (.int .i64 (cumW xs i))) from fun i hi w' hb => by
      have hle := endC_le xs i hi
      have hp := (hx.below hb).part 0 (endC xs i) (Nat.zero_le _) hle (some ⟨b, off, fld⟩) ca (fun h => by cases h) (fun b' o' h _ => by cases h; simp) (fun _ _ => by simp) (by omega) hmx
      simp only [Nat.sub_zero, List.drop_zero] at hp
      have := rcols_any Z _ (xs.take (endC xs i)) w' hp (by rw [List.length_take]; omega) (take_b32 hr _)
      rw [cols_take xs i hi] at this
      exact this)
    obtain ⟨n, hnn⟩ : ∃ n, n = xs.length := ⟨_, rfl⟩
    rw [← hnn] at HST HEA HEC hsl hml hcap hn ⊢
    obtain ⟨ST, hST⟩ : ∃ ST, ST = startB (jR (knownL xs)) n := ⟨_, rfl⟩
    obtain ⟨m, hm⟩ : ∃ m, m = (clS xs).length := ⟨_, rfl⟩
    obtain ⟨EC, hEC⟩ : ∃ EC, EC = endC xs := ⟨_, rfl⟩
    obtain ⟨CW, hCW⟩ : ∃ CW, CW = cumW xs := ⟨_, rfl⟩
    obtain ⟨RB, hRB⟩ : ∃ RB, RB = rb xs Wd := ⟨_, rfl⟩
    have HTL := Lib.hid (show (toI ST).length = m ∧ m ≤ 1000000 from by rw [hm, hml, toI_len, hST]; exact ⟨rfl, by omega⟩)
    rw [← hST] at HST HEA
    rw [← hm] at HCOL HEC HRC
    rw [← hEC] at HEA HEC HRB HCOL
    rw [← hCW] at HCOL HRB
    rw [← hRB] at HRB HR0 HRC
    clear hx hr hnone hsl hml hST hm hEC hCW hRB hmx hnn

    go_enter Tryz.func40, Tryz.ntmps40
    go_wp2_with fail
    refine HST.out.mono ?_
    rintro e w1 ⟨v1, k1, rfl, ho1, b1⟩
    have ho1 := ownE_ints (Z := fun b => w.heap.size ≤ b) ho1
    have hb2 := (Below.refl w1.heap.size w1).alloc (Nat.le_refl _) (.cells [.int .i64 (n : Int)].toArray 3)
    have hlo := ho1.lt
    have HU := Lib.hid (show HeldE (intE .i64) (fun b => w.heap.size ≤ b ∧ v1.ownBlock ≠ some b) (w1.alloc (.cells [.int .i64 (n : Int)].toArray 3)) (.slice (some ⟨w1.heap.size, 0, none⟩) 1 1) [(n : Int)] from heldE_one (Y := fun _ => False) [.int .i64 (n : Int)] (n : Int) rfl (fun _ _ h => h.elim) ⟨b1.size, fun e => by have := (hlo _ e).2; omega⟩)
    have HO1 := Lib.hid (ho1.below hb2)
    have HB1 := Lib.hid (b1.trans (hb2.mono b1.size))
    clear ho1 b1 hb2 hlo
    go_wp2_with (at_builtin; refine wpList_append_e (E := intE .i64) (Z := fun b => w.heap.size ≤ b) rfl (.tmp 12) (.tmp 15) 26 rfl (.int .i64 0) 8 Tryz.underlying26 info_int rfl (by decide) rfl rfl HO1.out HU.out (by have := HTL.out; simp only [List.length_singleton]; omega) (by have := HTL.out; simp only [List.length_singleton]; omega) HB1.out.size ?_)
    intro v2 w2 ho2 b2 _ _
    have hh2 := (ho2.held (Z := fun b => w.heap.size ≤ b) (fun b h _ => h)).ints
    obtain ⟨aa, cc, rfl, hca⟩ := hh2.view
    have HCA := Lib.hid hca
    have HAT := Lib.hid (show (toI ST ++ [(n : Int)]).length = m + 1 from by rw [List.length_append, List.length_singleton]; have := HTL.out; omega)
    rw [HAT.out] at HCA ⊢
    have HB2 := Lib.hid (HB1.out.trans b2)
    have hmn : m ≤ 1000000 := HTL.out.2
    clear ho2 b2 hh2 hca HU HO1 HB1
    go_wp2
    go_loopw [6, 7, 9] (fun bv uv i wr => ∃ k : Nat, k ≤ m + 1 ∧ i = .int .i64 k ∧ bv = .int .i64 (RB k).1 ∧ uv = .int .i64 (RB k).2 ∧ Below w2.heap.size w2 wr) (fun _ _ i _ => m + 1 - (intOf i).toNat)
    case atStart => exact ⟨0, Nat.zero_le _, rfl, by rw [HR0.out], by rw [HR0.out], Below.refl _ _⟩
    case round =>
      obtain ⟨k, hk, rfl, hbv, huv, hbw⟩ := hrel
      obtain ⟨wk, hwk⟩ : ∃ wk, wk = wr := ⟨_, rfl⟩
      subst hwk
      have HBW := Lib.hid hbw
      clear hbw
      by_cases hlt : k < m + 1
      · obtain ⟨ba, oa, e1, hb1, c1⟩ := HCA.out k hlt
        subst e1
        have c1 := (HBW.out.cell (p := ⟨ba, oa + k, none⟩) hb1).trans c1
        rw [HEA.out k] at c1
        obtain ⟨hec1, hec2⟩ := HEC.out k (by omega)
        have HCO := Lib.hid (HCOL.out k (by omega) wk (HB2.out.trans (HBW.out.mono HB2.out.size)))
        have hrb := HRB.out k
        skip
        skip
        have hkm : (k : Int) < (m : Int) + 1 := by omega
        have hkc : k < m + 1 := hlt
        have hwk : IntKind.i64.wrap ((k : Int) + 1) = (k : Int) + 1 := by rw [IntKind.wrap_i64]; omega
        have hz1 : EC k ≤ ca := by omega
        have hz2 : (EC k : Int) ≤ ca := by omega
        obtain ⟨C, hC⟩ : ∃ C, C = CW k := ⟨_, rfl⟩
        rw [← hC] at HCO hrb
        obtain ⟨x1, hx1⟩ : ∃ x1, x1 = (RB k).1 := ⟨_, rfl⟩
        obtain ⟨x2, hx2⟩ : ∃ x2, x2 = (RB k).2 := ⟨_, rfl⟩
        rw [← hx1] at hbv
        rw [← hx2] at huv
        subst hbv huv
        have HBA := Lib.hid (World.block_lt_of_cell? _ _ c1)
        have HC1 := Lib.hid c1
        skip
        obtain ⟨ek, hek⟩ : ∃ ek, ek = EC k := ⟨_, rfl⟩
        rw [← hek] at c1 HC1 hrb hec1 hz1 hz2 HCO
        by_cases hle : C ≤ Wd
        · have hdl : decide (C ≤ Wd) = true := by simpa using hle
          rw [if_pos hle] at hrb
          have HRK := Lib.hid hrb
          clear hrb hle hC hx1 hx2 hek
          go_wp2_with fail
          refine HCO.out.mono ?_
          rintro e w3 ⟨rfl, b3⟩
          have HB3 := Lib.hid (HBW.out.trans (b3.mono HBW.out.size))
          have c1 := (b3.cell (p := ⟨ba, oa + k, none⟩) HBA.out).trans HC1.out
          clear b3
          go_wp2
          go_roundw
          case rel => exact ⟨k + 1, by omega, by go_num, by rw [HRK.out]; try rfl, by rw [HRK.out], HB3.out⟩
          case measure => simp [intOf] <;> omega
        · have hdl : decide (C ≤ Wd) = false := by simpa using hle
          rw [if_neg hle] at hrb
          have HRK := Lib.hid hrb
          have HX := Lib.hid (And.intro hx1 hx2)
          clear hrb hle hC hx1 hx2 hek
          go_wp2_with fail
          refine HCO.out.mono ?_
          rintro e w3 ⟨rfl, b3⟩
          have HB3 := Lib.hid (HBW.out.trans (b3.mono HBW.out.size))
          clear b3 c1
          go_wp2
          go_roundw
          case rel => exact ⟨k + 1, by omega, by go_num, by rw [HRK.out, HX.out.1], by rw [HRK.out, HX.out.2], HB3.out⟩
          case measure => simp [intOf] <;> omega
      · obtain rfl : k = m + 1 := by omega
        subst hbv huv
        have HF := Lib.hid (HB2.out.trans (HBW.out.mono HB2.out.size))
        by_cases hw : Wd < 0
        · have hdw : decide (Wd < 0) = true := by simpa using hw
          have HRC2 := Lib.hid (show rbC xs Wd = (0, 0) from by rw [HRC.out, if_pos hw])
          clear hw
          go_wp2
          exact bodyPost_ret (v := .tuple #[.int .i64 0, .int .i64 0]) (by simp [results, Tryz.results40, go_sem]) rfl ⟨ret_eq (by rw [HRC2.out]; try rfl), HF.out⟩
        · have hdw : decide (Wd < 0) = false := by simpa using hw
          have HRC2 := Lib.hid (show rbC xs Wd = RB (m + 1) from by rw [HRC.out, if_neg hw])
          clear hw
          go_wp2
          exact bodyPost_ret (v := .tuple #[.int .i64 (RB (m + 1)).1, .int .i64 (RB (m + 1)).2]) (by simp [results, Tryz.results40, go_sem]) rfl ⟨ret_eq (by rw [HRC2.out]; try rfl), HF.out⟩
end Go.Proofs.YtkpmmkokfllafaaGreat
