/- Texts put together: CellC, CursorD, TabF. -/
import Derived.Test.YtoeggiplcaegoaaGreatDoorCellB
import Derived.Test.YtoeggiplcaegoaaGreatDoorCursorC
import Derived.Test.YtoeggiplcaegoaaGreatDoorTabE
/- cell.Sound. -/
namespace Go.Proofs.YtoeggiplcaegoaaGreatDoor
open Go.RowKit Go.ChangeShapes Go.WideShapes
set_option maxRecDepth 100000 in
set_option maxHeartbeats 800000 in
theorem sound_any (Z : Zone) (v : Value) (L : List Cl) (w : World) (hv : HeldE cellE Z w v L) : Calls Tryz.prog 134 #[v] w (Gives w (.bool (soundB L))) := by
  have hl := hv.max
  obtain ⟨ao, cap, rfl⟩ := hv.len
  obtain ⟨_, _, hc⟩ := cells_at hv
  have HC := Lib.hid hc
  clear hc hv
  go_enter Tryz.func134, Tryz.ntmps134
  go_wp2
  go_loopw [3, 8] (fun ld i wr => ∃ k : Nat, k ≤ L.length ∧ i = .int .i64 k ∧ ld = .bool (leadAt L k) ∧ Go.RowKit.Hid (soundF (leadAt L k) (L.drop k) = soundB L) ∧ Below w.heap.size w wr) (fun _ i _ => L.length - (intOf i).toNat)
  case atStart => exact ⟨0, Nat.zero_le _, rfl, rfl, Lib.hid rfl, Below.refl _ _⟩
  case round =>
    obtain ⟨k, hk, rfl, rfl, HP, hbw⟩ := hrel
    have HBW := Lib.hid hbw
    clear hbw
    by_cases hlt : k < L.length
    · obtain ⟨b, off, tv, rfl, hb, _, c0, c1, hh⟩ := HC.out k hlt
      have htl := hh.max
      have hh := hh.ints.below HBW.out
      have c0 := (HBW.out.cell (p := ⟨b, off + k * 2, none⟩) hb).trans c0
      have c1 := (HBW.out.cell (p := ⟨b, off + k * 2 + 1, none⟩) hb).trans c1
      have hs := leadAt_succ L k
      have hbad := soundB_bad hlt HP.out
      have hnext := soundB_next hlt HP.out
      unfold soundAt at hbad hnext
      obtain ⟨⟨K, T⟩, hKT⟩ : ∃ y, y = L.getD k zc := ⟨_, rfl⟩
      rw [← hKT] at c0 hh htl hs hbad hnext
      simp only at c0 hh htl hs hbad hnext
      have HNX := Lib.hid hnext
      have HBD := Lib.hid hbad
      have HS := Lib.hid hs
      have HHH := Lib.hid hh
      clear hKT hnext hbad hs hh HP
      obtain ⟨tz9, tc, rfl, _⟩ := HHH.out.view
      obtain ⟨wk, hwk⟩ : ∃ wk, wk = wr := ⟨_, rfl⟩
      have HB1 := Lib.hid ((Below.refl wr.heap.size wr).alloc (Nat.le_refl _) (.cells #[.int .i64 K, .slice tz9 T.length tc] 147))
      have HR := Lib.hid (right_any K _ T _ (HHH.out.below HB1.out) htl)
      generalize leadAt L k = ld at *
      cases hr : rightB (K, T) with
      | false =>
        rw [hr] at HR HBD
        clear HNX
        go_wp2_with fail
        refine HR.out.mono ?_
        rintro e w2 ⟨rfl, hb2⟩
        have hb3 := HBW.out.trans ((HB1.out.trans (hb2.mono HB1.out.size)).mono HBW.out.size)
        go_wp2
        go_ret
        exact ⟨ret_eq (by rw [HBD.out (by simp)]; try rfl), hb3⟩
      | true =>
        rw [hr] at HR HBD HNX
        have hkc : (K = 3 ∧ (K == 3) = true ∧ (K == 2) = false) ∨ ((K == 3) = false ∧ K = 2 ∧ (K == 2) = true) ∨ ((K == 3) = false ∧ (K == 2) = false) := by
          by_cases h3 : K = 3
          · exact .inl ⟨h3, by simpa using h3, by simp; omega⟩
          · by_cases h2 : K = 2
            · exact .inr (.inl ⟨by simpa using h3, h2, by simpa using h2⟩)
            · exact .inr (.inr ⟨by simpa using h3, by simpa using h2⟩)
        rcases hkc with ⟨hk0, hk3, hk2⟩ | ⟨hk3, hk0, hk2⟩ | ⟨hk3, hk2⟩ <;> cases ld
        all_goals
          rw [hk3] at HBD HNX
          rw [hk2] at HS
          have HB2 := Lib.hid (show ∀ w2, Below (wr.alloc (.cells #[.int .i64 K, .slice tz9 T.length tc] 147)).heap.size (wr.alloc (.cells #[.int .i64 K, .slice tz9 T.length tc] 147)) w2 → w2.cell? ⟨wr.heap.size, 0, none⟩ = some (.int .i64 K) ∧ Below w.heap.size w w2 from fun w2 h => ⟨(h.cell (p := ⟨wr.heap.size, 0, none⟩) (by simp)).trans (by rw [cell_of_row _ wr.heap.size 0 _ _ (0, 0) (heap_alloc_new wr _)]; rfl), HBW.out.trans ((HB1.out.trans (h.mono HB1.out.size)).mono HBW.out.size)⟩)
          try subst hk0
          go_wp2_with fail
          refine HR.out.mono ?_
          rintro e w2 ⟨rfl, hb2⟩
          obtain ⟨hcc, hb3⟩ := HB2.out w2 hb2
          clear hb2
          go_wp2
        all_goals first
          | (go_ret; exact ⟨ret_eq (by rw [HBD.out (by rfl)]; try rfl), hb3⟩)
          | (go_roundw
             case rel => exact ⟨k + 1, by omega, by go_num, by rw [HS.out], Lib.hid (HNX.out rfl), hb3⟩
             case measure => simp [intOf] <;> omega)
    · obtain rfl : k = L.length := by omega
      have HE := Lib.hid (soundB_end HP.out)
      clear HP
      generalize leadAt L L.length = ld at *
      go_wp2
      go_ret
      exact ⟨ret_eq (by rw [HE.out]; try rfl), HBW.out⟩
end Go.Proofs.YtoeggiplcaegoaaGreatDoor
/- Contracts of cursor.Right, Move, After and of the reference's. -/
namespace Go.Proofs.YtoeggiplcaegoaaGreatDoor
open Go.RowKit Go.ChangeShapes Go.WideShapes
end Go.Proofs.YtoeggiplcaegoaaGreatDoor
/- Contracts of the tables' readers: pict.Is, the class of a number, what it is in a conjunct and in the east; the reference's In. -/
namespace Go.Proofs.YtoeggiplcaegoaaGreatDoor
open Go.RowKit Go.ChangeShapes Go.WideShapes
set_option maxRecDepth 100000 in
theorem in_any (v : Value) (T : List (Int × Int)) (r : Int) (w : World) (hh : HeldT .i64 w v T) (hl : T.length ≤ 1000000) (r0 : -2147483648 ≤ r) (r1 : r ≤ 2147483647) :
    Calls Tryz.prog 125 #[v, .int .i32 r] w (Gives w (.bool (inTab T r))) := by
  obtain ⟨ao, cap, rfl, hc⟩ := hh.view
  have HC := Lib.hid hc
  clear hc hh
  go_enter Tryz.func125, Tryz.ntmps125
  go_wp2
  go_loopw [5] (fun i wr => ∃ k : Nat, k ≤ T.length ∧ i = .int .i64 k ∧ Go.RowKit.Hid (∀ j (hj : j < T.length), j < k → ¬ (T[j].1 ≤ r ∧ r ≤ T[j].2)) ∧ Below w.heap.size w wr) (fun i _ => T.length - (intOf i).toNat)
  case atStart => exact ⟨0, Nat.zero_le _, rfl, Lib.hid (fun j _ hj => by omega), Below.refl _ _⟩
  case round =>
    obtain ⟨k, hk, rfl, HN, hbw⟩ := hrel
    by_cases hlt : k < T.length
    · obtain ⟨b, off, rfl, hb, h1, h2⟩ := HC.out k hlt
      have h1 := (hbw.cell (p := ⟨b, off + k * 2, none⟩) hb).trans h1
      have h2 := (hbw.cell (p := ⟨b, off + k * 2 + 1, none⟩) hb).trans h2
      rw [getD_tab hlt] at h1 h2
      by_cases h3 : T[k].1 ≤ r
      · have d1 : decide (T[k].1 ≤ r) = true := decide_eq_true h3
        by_cases h4 : r ≤ T[k].2
        · have d2 : decide (r ≤ T[k].2) = true := decide_eq_true h4
          have HE := Lib.hid (inTab_of k hlt h3 h4)
          generalize T[k].1 = x at *
          generalize T[k].2 = y at *
          clear HN
          go_wp2
          go_ret
          exact ⟨ret_eq (by rw [HE.out]; rfl), hbw⟩
        · have d2 : decide (r ≤ T[k].2) = false := decide_eq_false h4
          have HN2 := Lib.hid (show ∀ j (hj : j < T.length), j < k + 1 → ¬ (T[j].1 ≤ r ∧ r ≤ T[j].2) from fun j hj hjk => by
            by_cases h : j = k
            · subst h; omega
            · exact HN.out j hj (by omega))
          generalize T[k].1 = x at h1 h3 d1
          generalize T[k].2 = y at h2 h4 d2
          go_wp2
          go_roundw
          case rel => exact ⟨k + 1, by omega, by go_num, HN2, hbw⟩
          case measure => simp [intOf]; omega
      · have d1 : decide (T[k].1 ≤ r) = false := decide_eq_false h3
        have HN2 := Lib.hid (show ∀ j (hj : j < T.length), j < k + 1 → ¬ (T[j].1 ≤ r ∧ r ≤ T[j].2) from fun j hj hjk => by
          by_cases h : j = k
          · subst h; omega
          · exact HN.out j hj (by omega))
        generalize T[k].1 = x at h1 h3 d1
        generalize T[k].2 = y at h2
        go_wp2
        go_roundw
        case rel => exact ⟨k + 1, by omega, by go_num, HN2, hbw⟩
        case measure => simp [intOf]; omega
    · have he : inTab T r = false := inTab_none fun j hj => HN.out j hj (by omega)
      have HE := Lib.hid he
      clear he
      go_wp2
      go_ret
      exact ⟨ret_eq (by rw [HE.out]; rfl), hbw⟩
end Go.Proofs.YtoeggiplcaegoaaGreatDoor
