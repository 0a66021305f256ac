/- Texts put together: Known, SegM, UcdC, UcdD. -/
import Derived.Test.YtkpmmkokfllafaaGreatUcdK
import Derived.Test.YtkpmmkokfllafaaGreatMg2
import Derived.Test.YtkpmmkokfllafaaGreatSegD
import Derived.Test.YtkpmmkokfllafaaGreatMg3
import Derived.Test.YtkpmmkokfllafaaGreatMg1
/- The properties of a row of numbers. -/
namespace Go.Proofs.YtkpmmkokfllafaaGreat
open Go.RowKit Go.ChangeShapes Go.WideShapes
def knownPr (r : Int) : Pr := ⟨gcbI r, inTab tPict r, conjO r, eastI r⟩
def knownL (xs : List Int) : List Pr := xs.map knownPr
theorem knownL_at {xs : List Int} {k : Nat} (h : k < xs.length) : (knownL xs).getD k Pr.none = knownPr (xs.getD k 0) := by
  have h' : k < (knownL xs).length := by simpa [knownL] using h
  simp [List.getD, List.getElem?_eq_getElem h, knownL]
theorem knownL_len (xs : List Int) : (knownL xs).length = xs.length := by simp [knownL]
theorem info_prop : (Tryz.prog.info? 62).map (fun i => (i.zero, i.size, i.bytes)) = some (some (.agg #[.int .i64 0, .bool false, .int .i64 0, .int .i64 0]), 4, 32) := by kernel_rfl
end Go.Proofs.YtkpmmkokfllafaaGreat
/- A row of properties: what the state is behind each of them, and what looking back from a place tells: they agree. -/
namespace Go.Proofs.YtkpmmkokfllafaaGreat
open Go.RowKit Go.ChangeShapes Go.WideShapes
/-- The state's parts behind the first k. -/
def cSt (xs : List Pr) : Nat → Int
  | 0 => 0
  | k + 1 => conjI (cSt xs k) (xs.getD k Pr.none).cv
def pSt (xs : List Pr) : Nat → Int
  | 0 => 0
  | k + 1 => picI (pSt xs k) (xs.getD k Pr.none).br (xs.getD k Pr.none).pc
def oSt (xs : List Pr) : Nat → Bool
  | 0 => false
  | k + 1 => (xs.getD k Pr.none).br == 6 && !oSt xs k
def lSt (xs : List Pr) : Nat → Int
  | 0 => 0
  | k + 1 => (xs.getD k Pr.none).br
/-- Looking back from k: for a consonant with a linker behind it; a picture; how many RI. -/
def cBack (xs : List Pr) : Nat → Nat → Bool
  | 0, _ => false
  | k + 1, n => if (xs.getD k Pr.none).cv = 1 then decide (0 < n) else if (xs.getD k Pr.none).cv = 2 then cBack xs k (n + 1) else if (xs.getD k Pr.none).cv = 3 then cBack xs k n else false
def pBack (xs : List Pr) : Nat → Bool
  | 0 => false
  | k + 1 => if (xs.getD k Pr.none).pc = true then true else if (xs.getD k Pr.none).br = 4 then pBack xs k else false
def nBack (xs : List Pr) : Nat → Nat
  | 0 => 0
  | k + 1 => if (xs.getD k Pr.none).br = 6 then nBack xs k + 1 else 0
theorem cSt_bd (xs : List Pr) (k : Nat) : cSt xs k = 0 ∨ cSt xs k = 1 ∨ cSt xs k = 2 := by
  induction k with
  | zero => exact .inl rfl
  | succ k ih => unfold cSt conjI; split <;> (try split) <;> (try split) <;> omega
theorem pSt_bd (xs : List Pr) (k : Nat) : pSt xs k = 0 ∨ pSt xs k = 1 ∨ pSt xs k = 2 := by
  cases k with
  | zero => exact .inl rfl
  | succ k => unfold pSt picI; split <;> (try split) <;> (try split) <;> (try split) <;> omega
theorem cBack_st (xs : List Pr) (k : Nat) : ∀ n, cBack xs k n = (if n = 0 then decide (cSt xs k = 2) else decide (cSt xs k ≠ 0)) := by
  induction k with
  | zero => intro n; simp [cBack, cSt]
  | succ k ih =>
    intro n
    have hb := cSt_bd xs k
    unfold cBack cSt conjI
    simp only [ih]
    generalize (xs.getD k Pr.none).cv = c
    generalize cSt xs k = s at *
    have h0 : n + 1 ≠ 0 := by omega
    by_cases h1 : c = 1
    · subst h1; by_cases hn : n = 0 <;> simp [hn]; omega
    by_cases h2 : c = 2
    · subst h2; rcases hb with rfl | rfl | rfl <;> by_cases hn : n = 0 <;> simp [hn]
    by_cases h3 : c = 3
    · subst h3; simp
    · simp [h1, h2, h3]
theorem pBack_st (xs : List Pr) (k : Nat) : pBack xs k = decide (pSt xs k = 1) := by
  induction k with
  | zero => simp [pBack, pSt]
  | succ k ih =>
    unfold pBack pSt picI
    simp only [ih]
    generalize (xs.getD k Pr.none).br = b
    generalize (xs.getD k Pr.none).pc = c
    generalize pSt xs k = s
    cases c with
    | true => simp
    | false =>
      by_cases h4 : b = 4
      · subst h4; by_cases h1 : s = 1 <;> simp [h1]
      · by_cases h1 : s = 1
        · by_cases h5 : b = 5 <;> simp [h1, h4, h5]
        · simp [h1, h4]
theorem nBack_st (xs : List Pr) (k : Nat) : decide (nBack xs k % 2 = 1) = oSt xs k := by
  induction k with
  | zero => simp [nBack, oSt]
  | succ k ih =>
    unfold nBack oSt
    rw [← ih]
    generalize (xs.getD k Pr.none).br = b
    generalize nBack xs k = m
    by_cases h : b = 6
    · subst h
      by_cases h2 : m % 2 = 1
      · have h3 : ¬ (m + 1) % 2 = 1 := by omega
        simp [h2, h3]
      · have h3 : (m + 1) % 2 = 1 := by omega
        simp [h2, h3]
    · simp [h]
theorem oSt_last (xs : List Pr) (k : Nat) (h : oSt xs k = true) : lSt xs k = 6 ∧ 0 < k := by
  cases k with
  | zero => simp [oSt] at h
  | succ k => simp [oSt] at h; exact ⟨h.1, by omega⟩
/-- The reference's word: does the picture rule join at place i? -/
def picR (xs : List Pr) (i : Nat) : Bool := (xs.getD i Pr.none).pc && (decide (2 ≤ i) && (decide ((xs.getD (i - 1) Pr.none).br = 5) && (!(xs.getD (i - 1) Pr.none).pc && pBack xs (i - 1))))
theorem picR_st (xs : List Pr) (i : Nat) : picR xs i = ((xs.getD i Pr.none).pc && decide (pSt xs i = 2)) := by
  unfold picR
  congr 1
  cases i with
  | zero => simp [pSt]
  | succ k =>
    rw [pBack_st]
    simp only [Nat.add_sub_cancel]
    have hb := pSt_bd xs k
    cases k with
    | zero => simp only [pSt, picI]; cases (xs.getD 0 Pr.none).pc <;> simp
    | succ m =>
      rw [decide_eq_true (by omega), Bool.true_and]
      show _ = decide (picI (pSt xs (m + 1)) (xs.getD (m + 1) Pr.none).br (xs.getD (m + 1) Pr.none).pc = 2)
      unfold picI
      generalize (xs.getD (m + 1) Pr.none).br = b
      generalize (xs.getD (m + 1) Pr.none).pc = c
      generalize pSt xs (m + 1) = s
      cases c with
      | true => simp
      | false =>
        by_cases h1 : s = 1
        · by_cases h4 : b = 4
          · simp [h1, h4]
          · by_cases h5 : b = 5 <;> simp [h1, h4, h5]
        · simp [h1]
def conR (xs : List Pr) (i : Nat) : Bool := (xs.getD i Pr.none).cv == 1 && cBack xs i 0
/-- The reference's word: does the one at place i join? -/
def jR (xs : List Pr) (i : Nat) : Bool :=
  if i = 0 then false else if joinI (xs.getD (i - 1) Pr.none).br (xs.getD i Pr.none).br = 1 then true else if conR xs i = true then true else if picR xs i = true then true
  else if joinI (xs.getD (i - 1) Pr.none).br (xs.getD i Pr.none).br ≠ 2 then false else if (xs.getD i Pr.none).br ≠ 6 then false else decide (nBack xs i % 2 = 1)
theorem jR_st (xs : List Pr) (i : Nat) : jR xs i = joinsB (decide (0 < i)) (lSt xs i) (cSt xs i) (pSt xs i) (oSt xs i) (xs.getD i Pr.none).br (xs.getD i Pr.none).pc (xs.getD i Pr.none).cv := by
  cases i with
  | zero => simp [jR, joinsB]
  | succ k =>
    have hl : (xs.getD (k + 1 - 1) Pr.none).br = lSt xs (k + 1) := rfl
    have ho := oSt_last xs (k + 1)
    unfold jR joinsB conR
    rw [hl, cBack_st, if_pos rfl, picR_st, nBack_st]
    rw [if_neg (show ¬ k + 1 = 0 by omega), if_neg (show ¬ decide (0 < k + 1) = false by simp)]
    generalize (xs.getD (k + 1) Pr.none).br = b
    generalize (xs.getD (k + 1) Pr.none).pc = c
    generalize (xs.getD (k + 1) Pr.none).cv = v
    generalize cSt xs (k + 1) = s1
    generalize pSt xs (k + 1) = s2
    generalize oSt xs (k + 1) = od at *
    generalize lSt xs (k + 1) = la at *
    by_cases h1 : joinI la b = 1
    · simp [h1]
    · rw [if_neg h1, if_neg h1]
      by_cases h2 : v = 1 ∧ s1 = 2
      · rw [if_pos h2, if_pos (by simp [h2.1, h2.2])]
      · rw [if_neg h2, if_neg (by simpa using h2)]
        by_cases h3 : c = true ∧ s2 = 2
        · rw [if_pos h3, if_pos (by simp [h3.1, h3.2])]
        · rw [if_neg h3, if_neg (by simpa using h3)]
          by_cases h6 : b = 6
          · subst h6
            cases od with
            | true =>
              rw [(ho rfl).1]
              rfl
            | false => simp
          · simp [h6]
end Go.Proofs.YtkpmmkokfllafaaGreat
/- Contracts of ucd: codes. -/
namespace Go.Proofs.YtkpmmkokfllafaaGreat
open Go.RowKit Go.ChangeShapes Go.WideShapes
def codeI (a : Int) (b : Bool) (c d : Int) : Int := if a < 0 ∨ 13 < a ∨ c < 0 ∨ 3 < c ∨ d < 0 ∨ 3 < d then -1 else a + 32 * c + 128 * d + (if b = true then 16 else 0)
theorem code_cases (a c d : Int) : (decide (a < 0) = true) ∨ (decide (a < 0) = false ∧ decide (13 < a) = true) ∨ (decide (a < 0) = false ∧ decide (13 < a) = false ∧ decide (c < 0) = true) ∨ (decide (a < 0) = false ∧ decide (13 < a) = false ∧ decide (c < 0) = false ∧ decide (3 < c) = true)
    ∨ (decide (a < 0) = false ∧ decide (13 < a) = false ∧ decide (c < 0) = false ∧ decide (3 < c) = false ∧ decide (d < 0) = true) ∨ (decide (a < 0) = false ∧ decide (13 < a) = false ∧ decide (c < 0) = false ∧ decide (3 < c) = false ∧ decide (d < 0) = false ∧ decide (3 < d) = true)
    ∨ (decide (a < 0) = false ∧ decide (13 < a) = false ∧ decide (c < 0) = false ∧ decide (3 < c) = false ∧ decide (d < 0) = false ∧ decide (3 < d) = false) := by
  simp only [decide_eq_true_eq, decide_eq_false_iff_not]
  omega
end Go.Proofs.YtkpmmkokfllafaaGreat
/- ucd.Prop: the property with a code; works of layer 13. -/
namespace Go.Proofs.YtkpmmkokfllafaaGreat
open Go.RowKit Go.ChangeShapes Go.WideShapes
def okN (n : Int) : Bool := decide (0 ≤ n) && decide (n < 512) && decide (n % 16 ≤ 13)
def unV (n : Int) : Value := if okN n = true then .agg #[.int .i64 (n % 16), .bool (n / 16 % 2 == 1), .int .i64 (n / 32 % 4), .int .i64 (n / 128)] else .agg #[.int .i64 0, .bool false, .int .i64 0, .int .i64 0]
theorem un_cases (n : Int) : (decide (n < 0) = true ∧ okN n = false) ∨ (decide (n < 0) = false ∧ decide (512 ≤ n) = true ∧ okN n = false) ∨ (0 ≤ n ∧ decide (n < 0) = false ∧ decide (512 ≤ n) = false ∧ decide (13 < n % 16) = true ∧ okN n = false) ∨ (0 ≤ n ∧ n < 512 ∧ decide (n < 0) = false ∧ decide (512 ≤ n) = false ∧ decide (13 < n % 16) = false ∧ okN n = true) := by
  unfold okN
  simp only [decide_eq_true_eq, decide_eq_false_iff_not, Bool.and_eq_true, Bool.and_eq_false_iff]
  omega
end Go.Proofs.YtkpmmkokfllafaaGreat
