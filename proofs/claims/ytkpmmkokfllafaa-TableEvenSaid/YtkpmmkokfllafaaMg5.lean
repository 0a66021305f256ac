/- Texts put together: Known, SegB, GraC, TblP, UcdC, UcdD. -/
import Derived.Test.YtkpmmkokfllafaaUcdK
import Derived.Test.YtkpmmkokfllafaaMg2
import Derived.Test.YtkpmmkokfllafaaMg4
import Derived.Test.YtkpmmkokfllafaaSegE
import Derived.Test.YtkpmmkokfllafaaMg1
import Derived.Test.YtkpmmkokfllafaaMg3
/- The properties of a row of numbers. -/
namespace Go.Proofs.Ytkpmmkokfllafaa
open Go.RowKit Go.ChangeShapes Go.WideShapes
def knownPr (r : Int) : Pr := ⟨gcbI r, inTab tPict r, conjO r, eastI r⟩
def knownL (xs : List Int) : List Pr := xs.map knownPr
theorem knownL_at {xs : List Int} {k : Nat} (h : k < xs.length) : (knownL xs).getD k Pr.none = knownPr (xs.getD k 0) := by
  have h' : k < (knownL xs).length := by simpa [knownL] using h
  simp [List.getD, List.getElem?_eq_getElem h, knownL]
theorem knownL_len (xs : List Int) : (knownL xs).length = xs.length := by simp [knownL]
theorem info_prop : (Try.prog.info? 61).map (fun i => (i.zero, i.size, i.bytes)) = some (some (.agg #[.int .i64 0, .bool false, .int .i64 0, .int .i64 0]), 4, 32) := by kernel_rfl
end Go.Proofs.Ytkpmmkokfllafaa
/- A state behind the first so many of a row of properties. -/
namespace Go.Proofs.Ytkpmmkokfllafaa
open Go.RowKit Go.ChangeShapes Go.WideShapes
/-- The state in block g is that behind the first k. -/
def At (w : World) (g : Nat) (xs : List Pr) (k : Nat) : Prop := SegAt w g (decide (0 < k)) (lSt xs k) (cSt xs k) (pSt xs k) (oSt xs k)
theorem st_bd (xs : List Pr) (k : Nat) : 0 ≤ cSt xs k ∧ cSt xs k ≤ 255 ∧ 0 ≤ pSt xs k ∧ pSt xs k ≤ 255 := by
  have h1 := cSt_bd xs k
  have h2 := pSt_bd xs k
  omega
def AtNext (w : World) (g : Nat) (xs : List Pr) (k : Nat) (e : Ending) (w' : World) : Prop := e = .returned (.bool (jR xs k)) ∧ At w' g xs (k + 1) ∧ But g w.heap.size w w'
theorem step_at (w : World) (g : Nat) (xs : List Pr) (k : Nat) (h : At w g xs k) : Calls Try.prog 33 #[.pointer (some ⟨g, 0, none⟩), .agg #[.int .i64 (xs.getD k Pr.none).br, .bool (xs.getD k Pr.none).pc, .int .i64 (xs.getD k Pr.none).cv, .int .i64 (xs.getD k Pr.none).ea]] w (AtNext w g xs k) := by
  obtain ⟨c0, c1, p0, p1⟩ := st_bd xs k
  refine (step_any g _ _ _ _ _ _ _ _ _ w h c0 c1 p0 p1).mono ?_
  rintro e w' ⟨rfl, hs, hb⟩
  refine ⟨by rw [jR_st], ?_, hb⟩
  unfold At
  rw [decide_eq_true (show 0 < k + 1 by omega)]
  exact hs
end Go.Proofs.Ytkpmmkokfllafaa
/- Where clusters begin: grapheme.Starts; the reference's Props and Starts. -/
namespace Go.Proofs.Ytkpmmkokfllafaa
open Go.RowKit Go.ChangeShapes Go.WideShapes
def toI (l : List Nat) : List Int := l.map fun (k : Nat) => (k : Int)
theorem toI_len (l : List Nat) : (toI l).length = l.length := by simp [toI]
theorem toI_at {l : List Nat} {i : Nat} (h : i < l.length) : (toI l).getD i 0 = (l[i] : Nat) := by
  simp [List.getD, toI, List.getElem?_eq_getElem h]
def bounds32 (xs : List Int) : Prop := ∀ i, i < xs.length → -2147483648 ≤ xs.getD i 0 ∧ xs.getD i 0 ≤ 2147483647
def GivesOwn (w : World) (e : TypeId) (l : List Int) (en : Ending) (w' : World) : Prop := ∃ v n, en = .returned v ∧ w'.ownsRow w.heap.size e 1 v n (l.map (Value.int .i64)) ∧ Below w.heap.size w w'
theorem info_int : (Try.prog.info? 3).map (fun i => (i.zero, i.size, i.bytes)) = some (some (.int .i64 0), 1, 8) := by kernel_rfl
theorem toI_snoc (l : List Nat) (k : Nat) : (toI (l ++ [k])).map (Value.int .i64) = (toI l).map (Value.int .i64) ++ [.int .i64 (k : Int)] := by simp [toI]
theorem owns_mono {w : World} {B B' e size : Nat} {v : Value} {n : Nat} {xs : List Value} (h : w.ownsRow B e size v n xs) (hb : B' ≤ B) : w.ownsRow B' e size v n xs := by
  refine ⟨h.1, ?_⟩
  rcases h.2 with hn | ⟨g, cap, cur, rfl, hB, rest⟩
  · exact .inl hn
  · exact .inr ⟨g, cap, cur, rfl, Nat.le_trans hb hB, rest⟩
theorem known_agg (r : Int) : knownV r = .agg #[.int .i64 (knownPr r).br, .bool (knownPr r).pc, .int .i64 (knownPr r).cv, .int .i64 (knownPr r).ea] := rfl
end Go.Proofs.Ytkpmmkokfllafaa
/- linotypelaw60.plain. -/
namespace Go.Proofs.Ytkpmmkokfllafaa
open Go.RowKit Go.ChangeShapes Go.WideShapes
attribute [local go_sem] Oper.semAt_some
/-- Has a member a class that bars a text from being plain? -/
def barB (c : Int) : Bool := (decide (1 ≤ c) && decide (c ≤ 3)) || (decide (6 ≤ c) && decide (c ≤ 7))
def plainB (xs : List Int) : Bool := xs.all (fun r => !barB (gcbI r)) && (decide (xs.length = 0) || decide (gcbI (xs.getD 0 0) = 0))
theorem all_at (xs : List Int) (i : Nat) (h : i < xs.length) (hb : barB (gcbI (xs.getD i 0)) = true) : plainB xs = false := by
  unfold plainB
  rw [Bool.and_eq_false_iff]
  left
  rw [Bool.eq_false_iff]
  intro ha
  have := List.all_eq_true.1 ha (xs.getD i 0) (by simp [List.getD, List.getElem?_eq_getElem h])
  rw [hb] at this
  exact absurd this (by decide)
theorem all_all (xs : List Int) (h : ∀ i, i < xs.length → barB (gcbI (xs.getD i 0)) = false) : plainB xs = (decide (xs.length = 0) || decide (gcbI (xs.getD 0 0) = 0)) := by
  unfold plainB
  rw [show xs.all (fun r => !barB (gcbI r)) = true from ?_, Bool.true_and]
  rw [List.all_eq_true]
  intro r hr
  obtain ⟨i, hi, e⟩ := List.mem_iff_getElem.1 hr
  have := h i hi
  rw [show xs.getD i 0 = r from by simp [List.getD, List.getElem?_eq_getElem hi, e]] at this
  rw [this]
  rfl
set_option maxRecDepth 100000 in
set_option maxHeartbeats 2000000 in
theorem plain60_any (Z : Zone) (v : Value) (xs : List Int) (w : World) (hv : HeldE (intE .i32) Z w v xs) (hr : bounds32 xs) (hn : xs.length ≤ 1000000) : Calls Try.prog 6 #[v] w (Gives w (.bool (plainB xs))) := by
  obtain ⟨ao, ca, rfl⟩ := hv.len
  have hcap := hv.spots.2.1
  have HV := Lib.hid hv
  have HOF := Lib.hid (show ∀ i, i < xs.length → ∀ w', Calls Try.prog 11 #[.int .i32 (xs.getD i 0)] w' (Gives w' (.int .i64 (gcbI (xs.getD i 0)))) from fun i h w' => by
    have h9 := hr i h
    have := rof09_any (xs.getD i 0) w' h9.1 h9.2
    rw [gcb_ref (xs.getD i 0)] at this
    exact this)
  have HAA := Lib.hid (fun i h hb => all_at xs i h hb)
  have HAL := Lib.hid (all_all xs)
  obtain ⟨PL, hPL⟩ : ∃ PL, PL = plainB xs := ⟨_, rfl⟩
  rw [← hPL] at HAL HAA ⊢
  obtain ⟨n, hnn⟩ : ∃ n, n = xs.length := ⟨_, rfl⟩
  have HN := Lib.hid hnn
  rw [← hnn] at hn hcap HV HOF HAA HAL ⊢
  clear hv hr hnn hPL
  go_enter Try.func6, Try.ntmps6
  go_wp2
  go_loopw [3] (fun iv wr => ∃ i : Nat, i ≤ n ∧ iv = .int .i64 i ∧ (∀ j, j < i → barB (gcbI (xs.getD j 0)) = false) ∧ Below w.heap.size w wr) (fun iv _ => n - (intOf iv).toNat)
  case atStart => exact ⟨0, Nat.zero_le _, rfl, fun j hj => absurd hj (Nat.not_lt_zero _), Below.refl _ _⟩
  case round =>
    obtain ⟨i, hi, rfl, hno, hb⟩ := hrel
    obtain ⟨wi, hwi⟩ : ∃ wi, wi = wr := ⟨_, rfl⟩
    subst hwi
    have HNO := Lib.hid hno
    have HB := Lib.hid hb
    clear hno hb
    have hcell : ∀ (j : Nat), j < n → ∃ b o, ao = some ⟨b, o, none⟩ ∧ b < wi.heap.size ∧ wi.cell? ⟨b, o + j, none⟩ = some (.int .i32 (xs.getD j 0)) := fun j hj => by
      obtain ⟨b, o, e, hb, _, C, q, hC⟩ := (HV.out.below HB.out).spots.2.2 j (by rw [← HN.out]; exact hj)
      have hC : C = [.int .i32 (xs.getD j 0)] := hC
      refine ⟨b, o, e, hb, ?_⟩
      have := q 0 (by decide)
      rw [hC] at this
      simpa [show (intE .i32).size = 1 from rfl] using this
    by_cases hlt : i < n
    · have g1 : decide ((i : Int) < (n : Int)) = true := by rw [decide_eq_true_eq]; omega
      have g2 : decide (i < n) = true := by rw [decide_eq_true_eq]; omega
      have hii : (i : Int) < (n : Int) := by omega
      have hic : i < ca := by omega
      have hwi : IntKind.i64.wrap ((i : Int) + 1) = (i : Int) + 1 := by rw [IntKind.wrap_i64]; omega
      obtain ⟨b, o, rfl, hbl, hc⟩ := hcell i hlt
      have hof := HOF.out i hlt
      have HA := Lib.hid (HAA.out i hlt)
      have HNX := Lib.hid (show barB (gcbI (xs.getD i 0)) = false → ∀ j, j < i + 1 → barB (gcbI (xs.getD j 0)) = false from fun h j hj => by
        by_cases e : j = i
        · subst e; exact h
        · exact HNO.out j (by omega))
      obtain ⟨r, hr⟩ : ∃ r, r = xs.getD i 0 := ⟨_, rfl⟩
      rw [← hr] at hc hof HA HNX
      obtain ⟨c, hcc⟩ : ∃ c, c = gcbI r := ⟨_, rfl⟩
      rw [← hcc] at hof HA HNX
      have HOFI := Lib.hid hof
      clear hcell hr hcc hof
      go_wp2_with fail
      refine (HOFI.out wi).mono ?_
      rintro e w2 ⟨rfl, b2⟩
      have HB2 := Lib.hid (HB.out.trans (b2.mono HB.out.size))
      clear b2 hc
      by_cases h1 : 1 ≤ c
      · have d1 : decide (1 ≤ c) = true := by rw [decide_eq_true_eq]; exact h1
        by_cases h3 : c ≤ 3
        · have d3 : decide (c ≤ 3) = true := by rw [decide_eq_true_eq]; exact h3
          have HP := Lib.hid (HA.out (by unfold barB; rw [d1, d3]; rfl))
          clear h1 h3
          go_wp2
          go_ret
          exact ⟨by rw [HP.out]; exact (ret_eq (by first | rfl | (simp <;> omega))), HB2.out⟩
        · have d3 : decide (c ≤ 3) = false := by rw [decide_eq_false_iff_not]; exact h3
          by_cases h6 : 6 ≤ c
          · have d6 : decide (6 ≤ c) = true := by rw [decide_eq_true_eq]; exact h6
            by_cases h7 : c ≤ 7
            · have d7 : decide (c ≤ 7) = true := by rw [decide_eq_true_eq]; exact h7
              have HP := Lib.hid (HA.out (by unfold barB; rw [d1, d3, d6, d7]; rfl))
              clear h1 h3 h6 h7
              go_wp2
              go_ret
              exact ⟨by rw [HP.out]; exact (ret_eq (by first | rfl | (simp <;> omega))), HB2.out⟩
            · have d7 : decide (c ≤ 7) = false := by rw [decide_eq_false_iff_not]; exact h7
              have HP := Lib.hid (HNX.out (by unfold barB; rw [d1, d3, d6, d7]; rfl))
              clear h1 h3 h6 h7
              go_wp2
              go_roundw
              case rel => exact ⟨i + 1, by omega, by go_num, HP.out, HB2.out⟩
              case measure => simp [intOf] <;> omega
          · have d6 : decide (6 ≤ c) = false := by rw [decide_eq_false_iff_not]; exact h6
            have HP := Lib.hid (HNX.out (by unfold barB; rw [d1, d3, d6]; rfl))
            clear h1 h3 h6
            go_wp2
            go_roundw
            case rel => exact ⟨i + 1, by omega, by go_num, HP.out, HB2.out⟩
            case measure => simp [intOf] <;> omega
      · have d1 : decide (1 ≤ c) = false := by rw [decide_eq_false_iff_not]; exact h1
        have d6 : decide (6 ≤ c) = false := by rw [decide_eq_false_iff_not]; omega
        have HP := Lib.hid (HNX.out (by unfold barB; rw [d1, d6]; rfl))
        clear h1
        go_wp2
        go_roundw
        case rel => exact ⟨i + 1, by omega, by go_num, HP.out, HB2.out⟩
        case measure => simp [intOf] <;> omega
    · have g1 : decide ((i : Int) < (n : Int)) = false := by rw [decide_eq_false_iff_not]; omega
      have g2 : decide (i < n) = false := by rw [decide_eq_false_iff_not]; omega
      obtain rfl : i = n := by omega
      have hal := HAL.out HNO.out
      by_cases h0 : i = 0
      · have e0 : ((i : Int) == 0) = true := by rw [beq_iff_eq]; omega
        have e1 : (i == 0) = true := by rw [beq_iff_eq]; omega
        have HP := Lib.hid (show PL = true from by rw [hal, h0]; rfl)
        clear hal h0 hcell
        go_wp2
        go_ret
        exact ⟨by rw [HP.out]; exact (ret_eq (by first | rfl | (simp <;> omega))), HB.out⟩
      · have e0 : ((i : Int) == 0) = false := by rw [beq_eq_false_iff_ne]; omega
        have e1 : (i == 0) = false := by rw [beq_eq_false_iff_ne]; omega
        have hof := HOF.out 0 (by omega) wi
        obtain ⟨b, o, rfl, hbl, hc⟩ := hcell 0 (by omega)
        rw [Nat.add_zero] at hc
        have h0c : 0 < ca := by omega
        have h0i : (0 : Int) < (i : Int) := by omega
        have h0n : 0 < i := by omega
        rw [show decide (i = 0) = false from by rw [decide_eq_false_iff_not]; exact h0, Bool.false_or] at hal
        obtain ⟨r, hr⟩ : ∃ r, r = xs.getD 0 0 := ⟨_, rfl⟩
        rw [← hr] at hc hof hal
        obtain ⟨c, hcc⟩ : ∃ c, c = gcbI r := ⟨_, rfl⟩
        rw [← hcc] at hof hal
        have HP := Lib.hid (show PL = (c == 0) from by rw [hal]; by_cases h : c = 0 <;> simp [h])
        have HOFI := Lib.hid hof
        clear hal hcell hr hcc hof h0
        go_wp2_with fail
        refine HOFI.out.mono ?_
        rintro e w2 ⟨rfl, b2⟩
        have HB2 := Lib.hid (HB.out.trans (b2.mono HB.out.size))
        clear b2 hc
        go_wp2
        go_ret
        exact ⟨by rw [HP.out]; exact (ret_eq (by first | rfl | (simp <;> omega))), HB2.out⟩
end Go.Proofs.Ytkpmmkokfllafaa
/- Contracts of ucd: codes. -/
namespace Go.Proofs.Ytkpmmkokfllafaa
open Go.RowKit Go.ChangeShapes Go.WideShapes
def codeI (a : Int) (b : Bool) (c d : Int) : Int := if a < 0 ∨ 13 < a ∨ c < 0 ∨ 3 < c ∨ d < 0 ∨ 3 < d then -1 else a + 32 * c + 128 * d + (if b = true then 16 else 0)
theorem code_cases (a c d : Int) : (decide (a < 0) = true) ∨ (decide (a < 0) = false ∧ decide (13 < a) = true) ∨ (decide (a < 0) = false ∧ decide (13 < a) = false ∧ decide (c < 0) = true) ∨ (decide (a < 0) = false ∧ decide (13 < a) = false ∧ decide (c < 0) = false ∧ decide (3 < c) = true)
    ∨ (decide (a < 0) = false ∧ decide (13 < a) = false ∧ decide (c < 0) = false ∧ decide (3 < c) = false ∧ decide (d < 0) = true) ∨ (decide (a < 0) = false ∧ decide (13 < a) = false ∧ decide (c < 0) = false ∧ decide (3 < c) = false ∧ decide (d < 0) = false ∧ decide (3 < d) = true)
    ∨ (decide (a < 0) = false ∧ decide (13 < a) = false ∧ decide (c < 0) = false ∧ decide (3 < c) = false ∧ decide (d < 0) = false ∧ decide (3 < d) = false) := by
  simp only [decide_eq_true_eq, decide_eq_false_iff_not]
  omega
end Go.Proofs.Ytkpmmkokfllafaa
/- ucd.Prop: the property with a code; works of layer 13. -/
namespace Go.Proofs.Ytkpmmkokfllafaa
open Go.RowKit Go.ChangeShapes Go.WideShapes
def okN (n : Int) : Bool := decide (0 ≤ n) && decide (n < 512) && decide (n % 16 ≤ 13)
def unV (n : Int) : Value := if okN n = true then .agg #[.int .i64 (n % 16), .bool (n / 16 % 2 == 1), .int .i64 (n / 32 % 4), .int .i64 (n / 128)] else .agg #[.int .i64 0, .bool false, .int .i64 0, .int .i64 0]
theorem un_cases (n : Int) : (decide (n < 0) = true ∧ okN n = false) ∨ (decide (n < 0) = false ∧ decide (512 ≤ n) = true ∧ okN n = false) ∨ (0 ≤ n ∧ decide (n < 0) = false ∧ decide (512 ≤ n) = false ∧ decide (13 < n % 16) = true ∧ okN n = false) ∨ (0 ≤ n ∧ n < 512 ∧ decide (n < 0) = false ∧ decide (512 ≤ n) = false ∧ decide (13 < n % 16) = false ∧ okN n = true) := by
  unfold okN
  simp only [decide_eq_true_eq, decide_eq_false_iff_not, Bool.and_eq_true, Bool.and_eq_false_iff]
  omega
end Go.Proofs.Ytkpmmkokfllafaa
