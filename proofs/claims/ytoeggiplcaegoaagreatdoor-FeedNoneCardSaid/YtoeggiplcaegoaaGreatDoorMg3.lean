/- Texts put together: CellC, CellR, CellS, CursorD, HgR, RowR, SegE, SegM, SegR, SegJ, SegB, TabF, TabH. -/
import Derived.Test.YtoeggiplcaegoaaGreatDoorCellB
import Derived.Test.YtoeggiplcaegoaaGreatDoorMg1
import Derived.Test.YtoeggiplcaegoaaGreatDoorCursorC
import Derived.Test.YtoeggiplcaegoaaGreatDoorHgC
import Derived.Deep.Cut
import Derived.Deep.CutRange
import Derived.Test.YtoeggiplcaegoaaGreatDoorSegD
import Derived.Test.YtoeggiplcaegoaaGreatDoorTabE
/- cell.Sound. -/
namespace Go.Proofs.YtoeggiplcaegoaaGreatDoor
open Go.RowKit Go.ChangeShapes Go.WideShapes
set_option maxRecDepth 100000 in
set_option maxHeartbeats 800000 in
theorem sound_any (Z : Zone) (v : Value) (L : List Cl) (w : World) (hv : HeldE cellE Z w v L) : Calls Tryz.prog 134 #[v] w (Gives w (.bool (soundB L))) := by
  have hl := hv.max
  obtain ⟨ao, cap, rfl⟩ := hv.len
  obtain ⟨_, _, hc⟩ := cells_at hv
  have HC := Lib.hid hc
  clear hc hv
  go_enter Tryz.func134, Tryz.ntmps134
  go_wp2
  go_loopw [3, 8] (fun ld i wr => ∃ k : Nat, k ≤ L.length ∧ i = .int .i64 k ∧ ld = .bool (leadAt L k) ∧ Go.RowKit.Hid (soundF (leadAt L k) (L.drop k) = soundB L) ∧ Below w.heap.size w wr) (fun _ i _ => L.length - (intOf i).toNat)
  case atStart => exact ⟨0, Nat.zero_le _, rfl, rfl, Lib.hid rfl, Below.refl _ _⟩
  case round =>
    obtain ⟨k, hk, rfl, rfl, HP, hbw⟩ := hrel
    have HBW := Lib.hid hbw
    clear hbw
    by_cases hlt : k < L.length
    · obtain ⟨b, off, tv, rfl, hb, _, c0, c1, hh⟩ := HC.out k hlt
      have htl := hh.max
      have hh := hh.ints.below HBW.out
      have c0 := (HBW.out.cell (p := ⟨b, off + k * 2, none⟩) hb).trans c0
      have c1 := (HBW.out.cell (p := ⟨b, off + k * 2 + 1, none⟩) hb).trans c1
      have hs := leadAt_succ L k
      have hbad := soundB_bad hlt HP.out
      have hnext := soundB_next hlt HP.out
      unfold soundAt at hbad hnext
      obtain ⟨⟨K, T⟩, hKT⟩ : ∃ y, y = L.getD k zc := ⟨_, rfl⟩
      rw [← hKT] at c0 hh htl hs hbad hnext
      simp only at c0 hh htl hs hbad hnext
      have HNX := Lib.hid hnext
      have HBD := Lib.hid hbad
      have HS := Lib.hid hs
      have HHH := Lib.hid hh
      clear hKT hnext hbad hs hh HP
      obtain ⟨tz9, tc, rfl, _⟩ := HHH.out.view
      obtain ⟨wk, hwk⟩ : ∃ wk, wk = wr := ⟨_, rfl⟩
      have HB1 := Lib.hid ((Below.refl wr.heap.size wr).alloc (Nat.le_refl _) (.cells #[.int .i64 K, .slice tz9 T.length tc] 147))
      have HR := Lib.hid (right_any K _ T _ (HHH.out.below HB1.out) htl)
      generalize leadAt L k = ld at *
      cases hr : rightB (K, T) with
      | false =>
        rw [hr] at HR HBD
        clear HNX
        go_wp2_with fail
        refine HR.out.mono ?_
        rintro e w2 ⟨rfl, hb2⟩
        have hb3 := HBW.out.trans ((HB1.out.trans (hb2.mono HB1.out.size)).mono HBW.out.size)
        go_wp2
        go_ret
        exact ⟨ret_eq (by rw [HBD.out (by simp)]; try rfl), hb3⟩
      | true =>
        rw [hr] at HR HBD HNX
        have hkc : (K = 3 ∧ (K == 3) = true ∧ (K == 2) = false) ∨ ((K == 3) = false ∧ K = 2 ∧ (K == 2) = true) ∨ ((K == 3) = false ∧ (K == 2) = false) := by
          by_cases h3 : K = 3
          · exact .inl ⟨h3, by simpa using h3, by simp; omega⟩
          · by_cases h2 : K = 2
            · exact .inr (.inl ⟨by simpa using h3, h2, by simpa using h2⟩)
            · exact .inr (.inr ⟨by simpa using h3, by simpa using h2⟩)
        rcases hkc with ⟨hk0, hk3, hk2⟩ | ⟨hk3, hk0, hk2⟩ | ⟨hk3, hk2⟩ <;> cases ld
        all_goals
          rw [hk3] at HBD HNX
          rw [hk2] at HS
          have HB2 := Lib.hid (show ∀ w2, Below (wr.alloc (.cells #[.int .i64 K, .slice tz9 T.length tc] 147)).heap.size (wr.alloc (.cells #[.int .i64 K, .slice tz9 T.length tc] 147)) w2 → w2.cell? ⟨wr.heap.size, 0, none⟩ = some (.int .i64 K) ∧ Below w.heap.size w w2 from fun w2 h => ⟨(h.cell (p := ⟨wr.heap.size, 0, none⟩) (by simp)).trans (by rw [cell_of_row _ wr.heap.size 0 _ _ (0, 0) (heap_alloc_new wr _)]; rfl), HBW.out.trans ((HB1.out.trans (h.mono HB1.out.size)).mono HBW.out.size)⟩)
          try subst hk0
          go_wp2_with fail
          refine HR.out.mono ?_
          rintro e w2 ⟨rfl, hb2⟩
          obtain ⟨hcc, hb3⟩ := HB2.out w2 hb2
          clear hb2
          go_wp2
        all_goals first
          | (go_ret; exact ⟨ret_eq (by rw [HBD.out (by rfl)]; try rfl), hb3⟩)
          | (go_roundw
             case rel => exact ⟨k + 1, by omega, by go_num, by rw [HS.out], Lib.hid (HNX.out rfl), hb3⟩
             case measure => simp [intOf] <;> omega)
    · obtain rfl : k = L.length := by omega
      have HE := Lib.hid (soundB_end HP.out)
      clear HP
      generalize leadAt L L.length = ld at *
      go_wp2
      go_ret
      exact ⟨ret_eq (by rw [HE.out]; try rfl), HBW.out⟩
end Go.Proofs.YtoeggiplcaegoaaGreatDoor
/- The reference's Right, Kind. -/
namespace Go.Proofs.YtoeggiplcaegoaaGreatDoor
open Go.RowKit Go.ChangeShapes Go.WideShapes
end Go.Proofs.YtoeggiplcaegoaaGreatDoor
/- The reference's Sound. -/
namespace Go.Proofs.YtoeggiplcaegoaaGreatDoor
open Go.RowKit Go.ChangeShapes Go.WideShapes
end Go.Proofs.YtoeggiplcaegoaaGreatDoor
/- Contracts of cursor.Right, Move, After and of the reference's. -/
namespace Go.Proofs.YtoeggiplcaegoaaGreatDoor
open Go.RowKit Go.ChangeShapes Go.WideShapes
end Go.Proofs.YtoeggiplcaegoaaGreatDoor
/- Contracts of the reference's functions of layer 8. -/
namespace Go.Proofs.YtoeggiplcaegoaaGreatDoor
open Go.RowKit Go.ChangeShapes Go.WideShapes
end Go.Proofs.YtoeggiplcaegoaaGreatDoor
/- The reference's Paint, Wrong. -/
namespace Go.Proofs.YtoeggiplcaegoaaGreatDoor
open Go.RowKit Go.ChangeShapes Go.WideShapes
end Go.Proofs.YtoeggiplcaegoaaGreatDoor
/- Contracts of seg.State's Step and Reset. -/
namespace Go.Proofs.YtoeggiplcaegoaaGreatDoor
open Go.RowKit Go.ChangeShapes Go.WideShapes
end Go.Proofs.YtoeggiplcaegoaaGreatDoor
/- A row of properties: what the state is behind each of them, and what looking back from a place tells: they agree. -/
namespace Go.Proofs.YtoeggiplcaegoaaGreatDoor
open Go.RowKit Go.ChangeShapes Go.WideShapes
/-- The state's parts behind the first k. -/
def cSt (xs : List Pr) : Nat → Int
  | 0 => 0
  | k + 1 => conjI (cSt xs k) (xs.getD k Pr.none).cv
def pSt (xs : List Pr) : Nat → Int
  | 0 => 0
  | k + 1 => picI (pSt xs k) (xs.getD k Pr.none).br (xs.getD k Pr.none).pc
def oSt (xs : List Pr) : Nat → Bool
  | 0 => false
  | k + 1 => (xs.getD k Pr.none).br == 6 && !oSt xs k
def lSt (xs : List Pr) : Nat → Int
  | 0 => 0
  | k + 1 => (xs.getD k Pr.none).br
/-- Looking back from k: for a consonant with a linker behind it; a picture; how many RI. -/
def cBack (xs : List Pr) : Nat → Nat → Bool
  | 0, _ => false
  | k + 1, n => if (xs.getD k Pr.none).cv = 1 then decide (0 < n) else if (xs.getD k Pr.none).cv = 2 then cBack xs k (n + 1) else if (xs.getD k Pr.none).cv = 3 then cBack xs k n else false
def pBack (xs : List Pr) : Nat → Bool
  | 0 => false
  | k + 1 => if (xs.getD k Pr.none).pc = true then true else if (xs.getD k Pr.none).br = 4 then pBack xs k else false
def nBack (xs : List Pr) : Nat → Nat
  | 0 => 0
  | k + 1 => if (xs.getD k Pr.none).br = 6 then nBack xs k + 1 else 0
theorem cSt_bd (xs : List Pr) (k : Nat) : cSt xs k = 0 ∨ cSt xs k = 1 ∨ cSt xs k = 2 := by
  induction k with
  | zero => exact .inl rfl
  | succ k ih => unfold cSt conjI; split <;> (try split) <;> (try split) <;> omega
theorem pSt_bd (xs : List Pr) (k : Nat) : pSt xs k = 0 ∨ pSt xs k = 1 ∨ pSt xs k = 2 := by
  cases k with
  | zero => exact .inl rfl
  | succ k => unfold pSt picI; split <;> (try split) <;> (try split) <;> (try split) <;> omega
theorem cBack_st (xs : List Pr) (k : Nat) : ∀ n, cBack xs k n = (if n = 0 then decide (cSt xs k = 2) else decide (cSt xs k ≠ 0)) := by
  induction k with
  | zero => intro n; simp [cBack, cSt]
  | succ k ih =>
    intro n
    have hb := cSt_bd xs k
    unfold cBack cSt conjI
    simp only [ih]
    generalize (xs.getD k Pr.none).cv = c
    generalize cSt xs k = s at *
    have h0 : n + 1 ≠ 0 := by omega
    by_cases h1 : c = 1
    · subst h1; by_cases hn : n = 0 <;> simp [hn]; omega
    by_cases h2 : c = 2
    · subst h2; rcases hb with rfl | rfl | rfl <;> by_cases hn : n = 0 <;> simp [hn]
    by_cases h3 : c = 3
    · subst h3; simp
    · simp [h1, h2, h3]
theorem pBack_st (xs : List Pr) (k : Nat) : pBack xs k = decide (pSt xs k = 1) := by
  induction k with
  | zero => simp [pBack, pSt]
  | succ k ih =>
    unfold pBack pSt picI
    simp only [ih]
    generalize (xs.getD k Pr.none).br = b
    generalize (xs.getD k Pr.none).pc = c
    generalize pSt xs k = s
    cases c with
    | true => simp
    | false =>
      by_cases h4 : b = 4
      · subst h4; by_cases h1 : s = 1 <;> simp [h1]
      · by_cases h1 : s = 1
        · by_cases h5 : b = 5 <;> simp [h1, h4, h5]
        · simp [h1, h4]
theorem nBack_st (xs : List Pr) (k : Nat) : decide (nBack xs k % 2 = 1) = oSt xs k := by
  induction k with
  | zero => simp [nBack, oSt]
  | succ k ih =>
    unfold nBack oSt
    rw [← ih]
    generalize (xs.getD k Pr.none).br = b
    generalize nBack xs k = m
    by_cases h : b = 6
    · subst h
      by_cases h2 : m % 2 = 1
      · have h3 : ¬ (m + 1) % 2 = 1 := by omega
        simp [h2, h3]
      · have h3 : (m + 1) % 2 = 1 := by omega
        simp [h2, h3]
    · simp [h]
theorem oSt_last (xs : List Pr) (k : Nat) (h : oSt xs k = true) : lSt xs k = 6 ∧ 0 < k := by
  cases k with
  | zero => simp [oSt] at h
  | succ k => simp [oSt] at h; exact ⟨h.1, by omega⟩
/-- The reference's word: does the picture rule join at place i? -/
def picR (xs : List Pr) (i : Nat) : Bool := (xs.getD i Pr.none).pc && (decide (2 ≤ i) && (decide ((xs.getD (i - 1) Pr.none).br = 5) && (!(xs.getD (i - 1) Pr.none).pc && pBack xs (i - 1))))
theorem picR_st (xs : List Pr) (i : Nat) : picR xs i = ((xs.getD i Pr.none).pc && decide (pSt xs i = 2)) := by
  unfold picR
  congr 1
  cases i with
  | zero => simp [pSt]
  | succ k =>
    rw [pBack_st]
    simp only [Nat.add_sub_cancel]
    have hb := pSt_bd xs k
    cases k with
    | zero => simp only [pSt, picI]; cases (xs.getD 0 Pr.none).pc <;> simp
    | succ m =>
      rw [decide_eq_true (by omega), Bool.true_and]
      show _ = decide (picI (pSt xs (m + 1)) (xs.getD (m + 1) Pr.none).br (xs.getD (m + 1) Pr.none).pc = 2)
      unfold picI
      generalize (xs.getD (m + 1) Pr.none).br = b
      generalize (xs.getD (m + 1) Pr.none).pc = c
      generalize pSt xs (m + 1) = s
      cases c with
      | true => simp
      | false =>
        by_cases h1 : s = 1
        · by_cases h4 : b = 4
          · simp [h1, h4]
          · by_cases h5 : b = 5 <;> simp [h1, h4, h5]
        · simp [h1]
def conR (xs : List Pr) (i : Nat) : Bool := (xs.getD i Pr.none).cv == 1 && cBack xs i 0
/-- The reference's word: does the one at place i join? -/
def jR (xs : List Pr) (i : Nat) : Bool :=
  if i = 0 then false else if joinI (xs.getD (i - 1) Pr.none).br (xs.getD i Pr.none).br = 1 then true else if conR xs i = true then true else if picR xs i = true then true
  else if joinI (xs.getD (i - 1) Pr.none).br (xs.getD i Pr.none).br ≠ 2 then false else if (xs.getD i Pr.none).br ≠ 6 then false else decide (nBack xs i % 2 = 1)
theorem jR_st (xs : List Pr) (i : Nat) : jR xs i = joinsB (decide (0 < i)) (lSt xs i) (cSt xs i) (pSt xs i) (oSt xs i) (xs.getD i Pr.none).br (xs.getD i Pr.none).pc (xs.getD i Pr.none).cv := by
  cases i with
  | zero => simp [jR, joinsB]
  | succ k =>
    have hl : (xs.getD (k + 1 - 1) Pr.none).br = lSt xs (k + 1) := rfl
    have ho := oSt_last xs (k + 1)
    unfold jR joinsB conR
    rw [hl, cBack_st, if_pos rfl, picR_st, nBack_st]
    rw [if_neg (show ¬ k + 1 = 0 by omega), if_neg (show ¬ decide (0 < k + 1) = false by simp)]
    generalize (xs.getD (k + 1) Pr.none).br = b
    generalize (xs.getD (k + 1) Pr.none).pc = c
    generalize (xs.getD (k + 1) Pr.none).cv = v
    generalize cSt xs (k + 1) = s1
    generalize pSt xs (k + 1) = s2
    generalize oSt xs (k + 1) = od at *
    generalize lSt xs (k + 1) = la at *
    by_cases h1 : joinI la b = 1
    · simp [h1]
    · rw [if_neg h1, if_neg h1]
      by_cases h2 : v = 1 ∧ s1 = 2
      · rw [if_pos h2, if_pos (by simp [h2.1, h2.2])]
      · rw [if_neg h2, if_neg (by simpa using h2)]
        by_cases h3 : c = true ∧ s2 = 2
        · rw [if_pos h3, if_pos (by simp [h3.1, h3.2])]
        · rw [if_neg h3, if_neg (by simpa using h3)]
          by_cases h6 : b = 6
          · subst h6
            cases od with
            | true =>
              rw [(ho rfl).1]
              rfl
            | false => simp
          · simp [h6]
end Go.Proofs.YtoeggiplcaegoaaGreatDoor
/- Contracts of the reference's functions of layer 15. -/
namespace Go.Proofs.YtoeggiplcaegoaaGreatDoor
open Go.RowKit Go.ChangeShapes Go.WideShapes
end Go.Proofs.YtoeggiplcaegoaaGreatDoor
/- The reference's Joins of layer 15. -/
namespace Go.Proofs.YtoeggiplcaegoaaGreatDoor
open Go.RowKit Go.ChangeShapes Go.WideShapes
end Go.Proofs.YtoeggiplcaegoaaGreatDoor
/- A state behind the first so many of a row of properties. -/
namespace Go.Proofs.YtoeggiplcaegoaaGreatDoor
open Go.RowKit Go.ChangeShapes Go.WideShapes
/-- The state in block g is that behind the first k. -/
def At (w : World) (g : Nat) (xs : List Pr) (k : Nat) : Prop := SegAt w g (decide (0 < k)) (lSt xs k) (cSt xs k) (pSt xs k) (oSt xs k)
end Go.Proofs.YtoeggiplcaegoaaGreatDoor
/- Contracts of the tables' readers: pict.Is, the class of a number, what it is in a conjunct and in the east; the reference's In. -/
namespace Go.Proofs.YtoeggiplcaegoaaGreatDoor
open Go.RowKit Go.ChangeShapes Go.WideShapes
theorem storesT (P : Program) (t : TypeId) (T : List (Int × Int)) (z : Array Value) (n : Nat) (hi : (P.info? t).map (·.size) = some (2 * n)) (hz : z.size = 2 * n) (hT : T.length = n) (w : World) :
    (storeCells ⟨w.heap.size, 0, none⟩ (tabCells .i32 T) 0).run P (w.alloc (.cells z t)) = .ok () (w.alloc (.cells (tabCells .i32 T).toArray t)) := by
  have hs := tab_size .i32 T n hT
  have := run_storeCells_new (P := P) w t z (tabCells .i32 T).toArray (by rw [hs]; exact hi) (by rw [hs]; exact hz) (tab_one _ _)
  simpa using this
theorem heldT_new {k : IntKind} {w : World} {T : List (Int × Int)} {t : TypeId} {n cap : Nat} (hn : T.length = n) : HeldT k (w.alloc (.cells (tabCells k T).toArray t)) (.slice (some ⟨w.heap.size, 0, none⟩) n cap) T := by
  subst hn
  exact heldT_has (heap_alloc_last w _)
set_option maxRecDepth 100000 in
theorem pict_any (r : Int) (w : World) : Calls Tryz.prog 198 #[.int .i32 r] w (Gives w (.bool (inTab tPict r))) := by
  have hst := storesT Tryz.prog 293 tPict Tryz.zeroCells293 78 (by kernel_rfl) (by kernel_rfl) tPict_len
  go_enter Tryz.func198, Tryz.ntmps198
  go_wp2_with fail
  refine (pictures_any _).mono ?_
  rintro e w1 ⟨rfl, b1⟩
  go_wp2_with fail
  refine (has_any _ tPict r _ (heldT_new tPict_len) tPict_up (by rw [tPict_len]; decide)).mono ?_
  rintro e w2 ⟨rfl, b2⟩
  clear hst
  go_wp2
  go_ret
  exact ⟨(ret_eq (by first | rfl | (simp <;> omega))), b1.trans (((Below.refl _ _).alloc (Nat.le_refl _) _).trans (b2.mono (by simp)) |>.mono b1.size)⟩
end Go.Proofs.YtoeggiplcaegoaaGreatDoor
/- What the reference's lists tell of any number. -/
namespace Go.Proofs.YtoeggiplcaegoaaGreatDoor
open Go.RowKit Go.ChangeShapes Go.WideShapes
end Go.Proofs.YtoeggiplcaegoaaGreatDoor
