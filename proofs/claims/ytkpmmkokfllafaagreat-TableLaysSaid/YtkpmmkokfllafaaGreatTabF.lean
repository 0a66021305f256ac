/- Contracts of the tables' readers: pict.Is, the class of a number, what it is in a conjunct and in the east; the reference's In. -/
import Derived.Test.YtkpmmkokfllafaaGreatTabE
namespace Go.Proofs.YtkpmmkokfllafaaGreat
open Go.RowKit Go.ChangeShapes Go.WideShapes
theorem storesT (P : Program) (t : TypeId) (T : List (Int × Int)) (z : Array Value) (n : Nat) (hi : (P.info? t).map (·.size) = some (2 * n)) (hz : z.size = 2 * n) (hT : T.length = n) (w : World) :
    (storeCells ⟨w.heap.size, 0, none⟩ (tabCells .i32 T) 0).run P (w.alloc (.cells z t)) = .ok () (w.alloc (.cells (tabCells .i32 T).toArray t)) := by
  have hs := tab_size .i32 T n hT
  have := run_storeCells_new (P := P) w t z (tabCells .i32 T).toArray (by rw [hs]; exact hi) (by rw [hs]; exact hz) (tab_one _ _)
  simpa using this
theorem heldT_new {k : IntKind} {w : World} {T : List (Int × Int)} {t : TypeId} {n cap : Nat} (hn : T.length = n) : HeldT k (w.alloc (.cells (tabCells k T).toArray t)) (.slice (some ⟨w.heap.size, 0, none⟩) n cap) T := by
  subst hn
  exact heldT_has (heap_alloc_last w _)
set_option maxRecDepth 100000 in
theorem pict_any (r : Int) (w : World) : Calls Tryz.prog 45 #[.int .i32 r] w (Gives w (.bool (inTab tPict r))) := by
  have hst := storesT Tryz.prog 85 tPict Tryz.zeroCells85 78 (by kernel_rfl) (by kernel_rfl) tPict_len
  go_enter Tryz.func45, Tryz.ntmps45
  go_wp2_with fail
  refine (pictures_any _).mono ?_
  rintro e w1 ⟨rfl, b1⟩
  go_wp2_with fail
  refine (has_any _ tPict r _ (heldT_new tPict_len) tPict_up (by rw [tPict_len]; decide)).mono ?_
  rintro e w2 ⟨rfl, b2⟩
  clear hst
  go_wp2
  go_ret
  exact ⟨(ret_eq (by first | rfl | (simp <;> omega))), b1.trans (((Below.refl _ _).alloc (Nat.le_refl _) _).trans (b2.mono (by simp)) |>.mono b1.size)⟩
set_option maxRecDepth 100000 in
theorem in_any (v : Value) (T : List (Int × Int)) (r : Int) (w : World) (hh : HeldT .i64 w v T) (hl : T.length ≤ 1000000) (r0 : -2147483648 ≤ r) (r1 : r ≤ 2147483647) :
    Calls Tryz.prog 104 #[v, .int .i32 r] w (Gives w (.bool (inTab T r))) := by
  obtain ⟨ao, cap, rfl, hc⟩ := hh.view
  have HC := Lib.hid hc
  clear hc hh
  go_enter Tryz.func104, Tryz.ntmps104
  go_wp2
  go_loopw [5] (fun i wr => ∃ k : Nat, k ≤ T.length ∧ i = .int .i64 k ∧ Go.RowKit.Hid (∀ j (hj : j < T.length), j < k → ¬ (T[j].1 ≤ r ∧ r ≤ T[j].2)) ∧ Below w.heap.size w wr) (fun i _ => T.length - (intOf i).toNat)
  case atStart => exact ⟨0, Nat.zero_le _, rfl, Lib.hid (fun j _ hj => by omega), Below.refl _ _⟩
  case round =>
    obtain ⟨k, hk, rfl, HN, hbw⟩ := hrel
    by_cases hlt : k < T.length
    · obtain ⟨b, off, rfl, hb, h1, h2⟩ := HC.out k hlt
      have h1 := (hbw.cell (p := ⟨b, off + k * 2, none⟩) hb).trans h1
      have h2 := (hbw.cell (p := ⟨b, off + k * 2 + 1, none⟩) hb).trans h2
      rw [getD_tab hlt] at h1 h2
      by_cases h3 : T[k].1 ≤ r
      · have d1 : decide (T[k].1 ≤ r) = true := decide_eq_true h3
        by_cases h4 : r ≤ T[k].2
        · have d2 : decide (r ≤ T[k].2) = true := decide_eq_true h4
          have HE := Lib.hid (inTab_of k hlt h3 h4)
          generalize T[k].1 = x at *
          generalize T[k].2 = y at *
          clear HN
          go_wp2
          go_ret
          exact ⟨ret_eq (by rw [HE.out]; rfl), hbw⟩
        · have d2 : decide (r ≤ T[k].2) = false := decide_eq_false h4
          have HN2 := Lib.hid (show ∀ j (hj : j < T.length), j < k + 1 → ¬ (T[j].1 ≤ r ∧ r ≤ T[j].2) from fun j hj hjk => by
            by_cases h : j = k
            · subst h; omega
            · exact HN.out j hj (by omega))
          generalize T[k].1 = x at h1 h3 d1
          generalize T[k].2 = y at h2 h4 d2
          go_wp2
          go_roundw
          case rel => exact ⟨k + 1, by omega, by go_num, HN2, hbw⟩
          case measure => simp [intOf]; omega
      · have d1 : decide (T[k].1 ≤ r) = false := decide_eq_false h3
        have HN2 := Lib.hid (show ∀ j (hj : j < T.length), j < k + 1 → ¬ (T[j].1 ≤ r ∧ r ≤ T[j].2) from fun j hj hjk => by
          by_cases h : j = k
          · subst h; omega
          · exact HN.out j hj (by omega))
        generalize T[k].1 = x at h1 h3 d1
        generalize T[k].2 = y at h2
        go_wp2
        go_roundw
        case rel => exact ⟨k + 1, by omega, by go_num, HN2, hbw⟩
        case measure => simp [intOf]; omega
    · have he : inTab T r = false := inTab_none fun j hj => HN.out j hj (by omega)
      have HE := Lib.hid he
      clear he
      go_wp2
      go_ret
      exact ⟨ret_eq (by rw [HE.out]; rfl), hbw⟩
end Go.Proofs.YtkpmmkokfllafaaGreat
