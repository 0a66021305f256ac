/- Texts put together: SegC, TabF. -/
import Derived.Test.YtgkcobmbdpgceaaGreatPairsJ
import Derived.Test.YtgkcobmbdpgceaaGreatMg1
import Derived.Test.YtgkcobmbdpgceaaGreatTabE
/- Contracts of seg: a state's calls. -/
namespace Go.Proofs.YtgkcobmbdpgceaaGreat
open Go.RowKit Go.ChangeShapes Go.WideShapes
def propV (br : Int) (pc : Bool) (cj ea : Int) : Value := .agg #[.int .i64 br, .bool pc, .int .i64 cj, .int .i64 ea]
def conjI (n cj : Int) : Int := if cj = 1 then 1 else if cj = 2 ∧ n ≠ 0 then 2 else if cj = 3 then n else 0
def picI (n br : Int) (pc : Bool) : Int := if pc = true then 1 else if n ≠ 1 then 0 else if br = 4 then 1 else if br = 5 then 2 else 0
theorem pbox (w : World) (br : Int) (pc : Bool) (cj ea : Int) : ∃ W, W = w.alloc (.cells #[Value.int .i64 br, .bool pc, .int .i64 cj, .int .i64 ea] 66) ∧ Has W w.heap.size [Value.int .i64 br, .bool pc, .int .i64 cj, .int .i64 ea] 66 ∧ Below w.heap.size w W :=
  ⟨_, rfl, Has.new w _ _, (Below.refl _ _).alloc (Nat.le_refl _) _⟩
theorem conj_cases (n cj : Int) : ((cj == 1) = true ∧ conjI n cj = 1) ∨ ((cj == 1) = false ∧ (cj == 2) = true ∧ (n == 0) = false ∧ conjI n cj = 2) ∨ ((cj == 1) = false ∧ (cj == 2) = true ∧ (n == 0) = true ∧ (cj == 3) = false ∧ conjI n cj = 0)
    ∨ ((cj == 1) = false ∧ (cj == 2) = false ∧ (cj == 3) = true ∧ conjI n cj = n) ∨ ((cj == 1) = false ∧ (cj == 2) = false ∧ (cj == 3) = false ∧ conjI n cj = 0) := by
  unfold conjI
  by_cases h1 : cj = 1
  · simp [h1]
  by_cases h2 : cj = 2
  · by_cases h3 : n = 0 <;> simp [h2, h3]
  by_cases h3 : cj = 3
  · simp [h3]
  · simp [h1, h2, h3]
set_option maxRecDepth 100000 in
theorem conj_any (n br : Int) (pc : Bool) (cj ea : Int) (w : World) (n0 : 0 ≤ n) (n1 : n ≤ 255) : Calls Tryz.prog 48 #[.int .u8 n, .agg #[.int .i64 br, .bool pc, .int .i64 cj, .int .i64 ea]] w (Gives w (.int .u8 (conjI n cj))) := by
  rcases conj_cases n cj with ⟨h1, hs⟩ | ⟨h1, h2, h3, hs⟩ | ⟨h1, h2, h3, h4, hs⟩ | ⟨h1, h2, h3, hs⟩ | ⟨h1, h2, h3, hs⟩
  all_goals
    rw [hs]
    clear hs
    go_enter Tryz.func48, Tryz.ntmps48
    go_wp2
    go_ret
    exact ⟨(ret_eq (by first | rfl | (simp <;> omega))), (Below.refl _ _).alloc (Nat.le_refl _) _⟩
theorem pic_cases (n br : Int) (pc : Bool) : (pc = true ∧ picI n br pc = 1) ∨ (pc = false ∧ (n == 1) = false ∧ picI n br pc = 0) ∨ (pc = false ∧ n = 1 ∧ (br == 4) = true ∧ picI n br pc = 1) ∨ (pc = false ∧ n = 1 ∧ (br == 4) = false ∧ (br == 5) = true ∧ picI n br pc = 2) ∨ (pc = false ∧ n = 1 ∧ (br == 4) = false ∧ (br == 5) = false ∧ picI n br pc = 0) := by
  unfold picI
  cases pc with
  | true => simp
  | false =>
    by_cases h1 : n = 1
    · by_cases h2 : br = 4
      · simp [h1, h2]
      · by_cases h3 : br = 5 <;> simp [h1, h2, h3]
    · simp [h1]
set_option maxRecDepth 100000 in
theorem pic_any (n br : Int) (pc : Bool) (cj ea : Int) (w : World) (n0 : 0 ≤ n) (n1 : n ≤ 255) : Calls Tryz.prog 49 #[.int .u8 n, .agg #[.int .i64 br, .bool pc, .int .i64 cj, .int .i64 ea]] w (Gives w (.int .u8 (picI n br pc))) := by
  rcases pic_cases n br pc with ⟨rfl, hs⟩ | ⟨rfl, h2, hs⟩ | ⟨rfl, rfl, h3, hs⟩ | ⟨rfl, rfl, h3, h4, hs⟩ | ⟨rfl, rfl, h3, h4, hs⟩
  all_goals
    rw [hs]
    clear hs
    go_enter Tryz.func49, Tryz.ntmps49
    go_wp2
    go_ret
    exact ⟨(ret_eq (by first | rfl | (simp <;> omega))), (Below.refl _ _).alloc (Nat.le_refl _) _⟩
end Go.Proofs.YtgkcobmbdpgceaaGreat
/- Contracts of the tables' readers: pict.Is, the class of a number, what it is in a conjunct and in the east; the reference's In. -/
namespace Go.Proofs.YtgkcobmbdpgceaaGreat
open Go.RowKit Go.ChangeShapes Go.WideShapes
theorem storesT (P : Program) (t : TypeId) (T : List (Int × Int)) (z : Array Value) (n : Nat) (hi : (P.info? t).map (·.size) = some (2 * n)) (hz : z.size = 2 * n) (hT : T.length = n) (w : World) :
    (storeCells ⟨w.heap.size, 0, none⟩ (tabCells .i32 T) 0).run P (w.alloc (.cells z t)) = .ok () (w.alloc (.cells (tabCells .i32 T).toArray t)) := by
  have hs := tab_size .i32 T n hT
  have := run_storeCells_new (P := P) w t z (tabCells .i32 T).toArray (by rw [hs]; exact hi) (by rw [hs]; exact hz) (tab_one _ _)
  simpa using this
theorem heldT_new {k : IntKind} {w : World} {T : List (Int × Int)} {t : TypeId} {n cap : Nat} (hn : T.length = n) : HeldT k (w.alloc (.cells (tabCells k T).toArray t)) (.slice (some ⟨w.heap.size, 0, none⟩) n cap) T := by
  subst hn
  exact heldT_has (heap_alloc_last w _)
set_option maxRecDepth 100000 in
theorem pict_any (r : Int) (w : World) : Calls Tryz.prog 51 #[.int .i32 r] w (Gives w (.bool (inTab tPict r))) := by
  have hst := storesT Tryz.prog 95 tPict Tryz.zeroCells95 78 (by kernel_rfl) (by kernel_rfl) tPict_len
  go_enter Tryz.func51, Tryz.ntmps51
  go_wp2_with fail
  refine (pictures_any _).mono ?_
  rintro e w1 ⟨rfl, b1⟩
  go_wp2_with fail
  refine (has_any _ tPict r _ (heldT_new tPict_len) tPict_up (by rw [tPict_len]; decide)).mono ?_
  rintro e w2 ⟨rfl, b2⟩
  clear hst
  go_wp2
  go_ret
  exact ⟨(ret_eq (by first | rfl | (simp <;> omega))), b1.trans (((Below.refl _ _).alloc (Nat.le_refl _) _).trans (b2.mono (by simp)) |>.mono b1.size)⟩
set_option maxRecDepth 100000 in
theorem in_any (v : Value) (T : List (Int × Int)) (r : Int) (w : World) (hh : HeldT .i64 w v T) (hl : T.length ≤ 1000000) (r0 : -2147483648 ≤ r) (r1 : r ≤ 2147483647) :
    Calls Tryz.prog 105 #[v, .int .i32 r] w (Gives w (.bool (inTab T r))) := by
  obtain ⟨ao, cap, rfl, hc⟩ := hh.view
  have HC := Lib.hid hc
  clear hc hh
  go_enter Tryz.func105, Tryz.ntmps105
  go_wp2
  go_loopw [5] (fun i wr => ∃ k : Nat, k ≤ T.length ∧ i = .int .i64 k ∧ Go.RowKit.Hid (∀ j (hj : j < T.length), j < k → ¬ (T[j].1 ≤ r ∧ r ≤ T[j].2)) ∧ Below w.heap.size w wr) (fun i _ => T.length - (intOf i).toNat)
  case atStart => exact ⟨0, Nat.zero_le _, rfl, Lib.hid (fun j _ hj => by omega), Below.refl _ _⟩
  case round =>
    obtain ⟨k, hk, rfl, HN, hbw⟩ := hrel
    by_cases hlt : k < T.length
    · obtain ⟨b, off, rfl, hb, h1, h2⟩ := HC.out k hlt
      have h1 := (hbw.cell (p := ⟨b, off + k * 2, none⟩) hb).trans h1
      have h2 := (hbw.cell (p := ⟨b, off + k * 2 + 1, none⟩) hb).trans h2
      rw [getD_tab hlt] at h1 h2
      by_cases h3 : T[k].1 ≤ r
      · have d1 : decide (T[k].1 ≤ r) = true := decide_eq_true h3
        by_cases h4 : r ≤ T[k].2
        · have d2 : decide (r ≤ T[k].2) = true := decide_eq_true h4
          have HE := Lib.hid (inTab_of k hlt h3 h4)
          generalize T[k].1 = x at *
          generalize T[k].2 = y at *
          clear HN
          go_wp2
          go_ret
          exact ⟨ret_eq (by rw [HE.out]; rfl), hbw⟩
        · have d2 : decide (r ≤ T[k].2) = false := decide_eq_false h4
          have HN2 := Lib.hid (show ∀ j (hj : j < T.length), j < k + 1 → ¬ (T[j].1 ≤ r ∧ r ≤ T[j].2) from fun j hj hjk => by
            by_cases h : j = k
            · subst h; omega
            · exact HN.out j hj (by omega))
          generalize T[k].1 = x at h1 h3 d1
          generalize T[k].2 = y at h2 h4 d2
          go_wp2
          go_roundw
          case rel => exact ⟨k + 1, by omega, by go_num, HN2, hbw⟩
          case measure => simp [intOf]; omega
      · have d1 : decide (T[k].1 ≤ r) = false := decide_eq_false h3
        have HN2 := Lib.hid (show ∀ j (hj : j < T.length), j < k + 1 → ¬ (T[j].1 ≤ r ∧ r ≤ T[j].2) from fun j hj hjk => by
          by_cases h : j = k
          · subst h; omega
          · exact HN.out j hj (by omega))
        generalize T[k].1 = x at h1 h3 d1
        generalize T[k].2 = y at h2
        go_wp2
        go_roundw
        case rel => exact ⟨k + 1, by omega, by go_num, HN2, hbw⟩
        case measure => simp [intOf]; omega
    · have he : inTab T r = false := inTab_none fun j hj => HN.out j hj (by omega)
      have HE := Lib.hid he
      clear he
      go_wp2
      go_ret
      exact ⟨ret_eq (by rw [HE.out]; rfl), hbw⟩
end Go.Proofs.YtgkcobmbdpgceaaGreat
