/- Contracts of the reference's functions of layer 15. -/
import Derived.Test.YtkpmmkokfllafaaGreatMg4
import Derived.Test.YtkpmmkokfllafaaGreatPairsR
import Derived.Test.YtkpmmkokfllafaaGreatMg1
namespace Go.Proofs.YtkpmmkokfllafaaGreat
open Go.RowKit Go.ChangeShapes Go.WideShapes
theorem cBack_cases (xs : List Pr) (k n : Nat) : ((xs.getD k Pr.none).cv = 1 ∧ cBack xs (k + 1) n = decide (0 < n)) ∨ (((xs.getD k Pr.none).cv == 1) = false ∧ (xs.getD k Pr.none).cv = 2 ∧ cBack xs (k + 1) n = cBack xs k (n + 1))
    ∨ (((xs.getD k Pr.none).cv == 1) = false ∧ ((xs.getD k Pr.none).cv == 2) = false ∧ (xs.getD k Pr.none).cv = 3 ∧ cBack xs (k + 1) n = cBack xs k n)
    ∨ (((xs.getD k Pr.none).cv == 1) = false ∧ ((xs.getD k Pr.none).cv == 2) = false ∧ ((xs.getD k Pr.none).cv == 3) = false ∧ cBack xs (k + 1) n = false) := by
  have hstep : cBack xs (k + 1) n = (if (xs.getD k Pr.none).cv = 1 then decide (0 < n) else if (xs.getD k Pr.none).cv = 2 then cBack xs k (n + 1) else if (xs.getD k Pr.none).cv = 3 then cBack xs k n else false) := rfl
  rw [hstep]
  generalize (xs.getD k Pr.none).cv = c
  by_cases h1 : c = 1
  · exact .inl ⟨h1, by rw [if_pos h1]⟩
  · have d1 : (c == 1) = false := by simpa using h1
    rw [if_neg h1]
    by_cases h2 : c = 2
    · exact .inr (.inl ⟨d1, h2, by rw [if_pos h2]⟩)
    · have d2 : (c == 2) = false := by simpa using h2
      rw [if_neg h2]
      by_cases h3 : c = 3
      · exact .inr (.inr (.inl ⟨d1, d2, h3, by rw [if_pos h3]⟩))
      · exact .inr (.inr (.inr ⟨d1, d2, by simpa using h3, by rw [if_neg h3]⟩))
set_option maxRecDepth 100000 in
theorem rconj_any (v : Value) (xs : List Pr) (i : Nat) (w : World) (hh : HeldP w v xs) (hi : i < xs.length) (hl : xs.length ≤ 1000000) :
    Calls Tryz.prog 87 #[v, .int .i64 i] w (Gives w (.bool (conR xs i))) := by
  obtain ⟨ao, cap, rfl, hc0⟩ := id hh
  clear hc0
  obtain ⟨_, hc⟩ := hh.at
  have HC := Lib.hid hc
  clear hc hh
  obtain ⟨b, off, rfl, hb, _, _, hx, _⟩ := HC.out i hi
  by_cases h1 : (xs.getD i Pr.none).cv = 1
  · have e1 : conR xs i = cBack xs i 0 := by unfold conR; rw [h1]; rfl
    have E1 := Lib.hid e1
    rw [h1] at hx
    clear h1 e1
    go_enter Tryz.func87, Tryz.ntmps87
    go_wp2
    go_loopw [5, 6] (fun lk kv wr => ∃ (k n : Nat), k ≤ i ∧ n ≤ i - k ∧ kv = .int .i64 ((k : Int) - 1) ∧ lk = .int .i64 n ∧ Go.RowKit.Hid (cBack xs k n = cBack xs i 0) ∧ Below w.heap.size w wr) (fun _ kv _ => (intOf kv + 1).toNat)
    case atStart => exact ⟨i, 0, Nat.le_refl _, by omega, rfl, rfl, Lib.hid rfl, Below.refl _ _⟩
    case round =>
      obtain ⟨k, n, hk, hn, rfl, rfl, HQ, hbw⟩ := hrel
      clear hx
      cases k with
      | zero =>
        go_wp2
        go_ret
        exact ⟨ret_eq (by rw [E1.out, ← HQ.out]; rfl), hbw⟩
      | succ k =>
        obtain ⟨b', off', e', hb', _, _, hx, _⟩ := HC.out k (by omega)
        cases e'
        have hx := (hbw.cell (p := ⟨b, off + k * 4 + 2, none⟩) hb').trans hx
        have hw0 : (((k + 1 : Nat) : Int) - 1) = (k : Int) := by omega
        rw [hw0]
        clear hw0
        rcases cBack_cases xs k n with ⟨h1, hs⟩ | ⟨h1, h2, hs⟩ | ⟨h1, h2, h3, hs⟩ | ⟨h1, h2, h3, hs⟩
        · have HS := Lib.hid (hs.symm.trans HQ.out)
          rw [h1] at hx
          clear h1 hs HQ
          go_wp2
          go_ret
          exact ⟨ret_eq (by rw [E1.out, ← HS.out]; simp; try omega), hbw⟩
        · have HS := Lib.hid (hs.symm.trans HQ.out)
          rw [h2] at hx
          clear h1 h2 hs HQ
          go_wp2
          go_roundw
          case rel => exact ⟨k, n + 1, by omega, by omega, by simp, by go_num, HS, hbw⟩
          case measure => simp [intOf] <;> omega
        · have HS := Lib.hid (hs.symm.trans HQ.out)
          rw [h3] at hx
          clear h1 h2 h3 hs HQ
          go_wp2
          go_roundw
          case rel => exact ⟨k, n, by omega, by omega, by simp, rfl, HS, hbw⟩
          case measure => simp [intOf] <;> omega
        · have HS := Lib.hid (hs.symm.trans HQ.out)
          clear hs HQ
          generalize (xs.getD k Pr.none).cv = c at *
          have n2 : (c != 2) = true := by simp [bne, h2]
          have n3 : (c != 3) = true := by simp [bne, h3]
          go_wp2
          go_ret
          exact ⟨ret_eq (by rw [E1.out, ← HS.out]; rfl), hbw⟩
  · have h1' : ((xs.getD i Pr.none).cv == 1) = false := by simpa using h1
    have e1 : conR xs i = false := by unfold conR; rw [h1']; rfl
    rw [e1]
    clear h1 e1
    generalize (xs.getD i Pr.none).cv = c at hx h1'
    go_enter Tryz.func87, Tryz.ntmps87
    go_wp2
    go_ret
    exact ⟨(ret_eq (by first | rfl | (simp <;> omega))), Below.refl _ _⟩
theorem pBack_cases (xs : List Pr) (k : Nat) : ((xs.getD k Pr.none).pc = true ∧ pBack xs (k + 1) = true) ∨ ((xs.getD k Pr.none).pc = false ∧ (xs.getD k Pr.none).br = 4 ∧ pBack xs (k + 1) = pBack xs k) ∨ ((xs.getD k Pr.none).pc = false ∧ ((xs.getD k Pr.none).br == 4) = false ∧ pBack xs (k + 1) = false) := by
  have hstep : pBack xs (k + 1) = (if (xs.getD k Pr.none).pc = true then true else if (xs.getD k Pr.none).br = 4 then pBack xs k else false) := rfl
  rw [hstep]
  generalize (xs.getD k Pr.none).br = b
  generalize (xs.getD k Pr.none).pc = c
  cases c with
  | true => exact .inl ⟨rfl, rfl⟩
  | false =>
    by_cases h : b = 4
    · exact .inr (.inl ⟨rfl, h, by simp [h]⟩)
    · exact .inr (.inr ⟨rfl, by simpa using h, by simp [h]⟩)
theorem picR_cases (xs : List Pr) (i : Nat) : ((xs.getD i Pr.none).pc = false ∧ picR xs i = false) ∨ ((xs.getD i Pr.none).pc = true ∧ i < 2 ∧ picR xs i = false)
    ∨ ((xs.getD i Pr.none).pc = true ∧ 2 ≤ i ∧ ((xs.getD (i - 1) Pr.none).br == 5) = false ∧ picR xs i = false) ∨ ((xs.getD i Pr.none).pc = true ∧ 2 ≤ i ∧ (xs.getD (i - 1) Pr.none).br = 5 ∧ (xs.getD (i - 1) Pr.none).pc = true ∧ picR xs i = false)
    ∨ ((xs.getD i Pr.none).pc = true ∧ 2 ≤ i ∧ (xs.getD (i - 1) Pr.none).br = 5 ∧ (xs.getD (i - 1) Pr.none).pc = false ∧ picR xs i = pBack xs (i - 1)) := by
  unfold picR
  generalize (xs.getD i Pr.none).pc = a
  generalize (xs.getD (i - 1) Pr.none).br = b
  generalize (xs.getD (i - 1) Pr.none).pc = c
  cases a with
  | false => exact .inl ⟨rfl, rfl⟩
  | true =>
    by_cases h2 : 2 ≤ i
    · by_cases h5 : b = 5
      · cases c with
        | true => exact .inr (.inr (.inr (.inl ⟨rfl, h2, h5, rfl, by simp⟩)))
        | false => exact .inr (.inr (.inr (.inr ⟨rfl, h2, h5, rfl, by simp [h2, h5]⟩)))
      · exact .inr (.inr (.inl ⟨rfl, h2, by simpa using h5, by simp [h5]⟩))
    · exact .inr (.inl ⟨rfl, by omega, by simp [h2]⟩)
set_option maxRecDepth 100000 in
theorem rpic_any (v : Value) (xs : List Pr) (i : Nat) (w : World) (hh : HeldP w v xs) (hi : i < xs.length) (hl : xs.length ≤ 1000000) :
    Calls Tryz.prog 88 #[v, .int .i64 i] w (Gives w (.bool (picR xs i))) := by
  obtain ⟨ao, cap, rfl, hc0⟩ := id hh
  clear hc0
  obtain ⟨_, hc⟩ := hh.at
  have HC := Lib.hid hc
  clear hc hh
  obtain ⟨b, off, rfl, hb, _, hx, _, _⟩ := HC.out i hi
  rcases picR_cases xs i with ⟨h1, hs⟩ | ⟨h1, h2, hs⟩ | ⟨h1, h2, h3, hs⟩ | ⟨h1, h2, h3, h4, hs⟩ | ⟨h1, h2, h3, h4, hs⟩
  · rw [h1] at hx
    rw [hs]
    clear h1 hs
    go_enter Tryz.func88, Tryz.ntmps88
    go_wp2
    go_ret
    exact ⟨(ret_eq (by first | rfl | (simp <;> omega))), Below.refl _ _⟩
  · rw [h1] at hx
    rw [hs]
    clear h1 hs
    go_enter Tryz.func88, Tryz.ntmps88
    go_wp2
    go_ret
    exact ⟨(ret_eq (by first | rfl | (simp <;> omega))), Below.refl _ _⟩
  all_goals
    rw [h1] at hx
    obtain ⟨m, rfl⟩ : ∃ m, i = m + 2 := ⟨i - 2, by omega⟩
    obtain ⟨b', off', e', hb', hy, hz, _, _⟩ := HC.out (m + 1) (by omega)
    cases e'
    simp only [show m + 2 - 1 = m + 1 by omega] at h3 hs
    try simp only [show m + 2 - 1 = m + 1 by omega] at h4
    have hw0 : ((m + 2 : Nat) : Int) - 1 = ((m + 1 : Nat) : Int) := by omega
  · rw [hs]
    generalize (xs.getD (m + 1) Pr.none).br = br at *
    have n3 : ¬ br = 5 := by simpa using h3
    clear h1 hs
    go_enter Tryz.func88, Tryz.ntmps88
    go_wp2
    go_ret
    exact ⟨(ret_eq (by first | rfl | (simp <;> omega))), Below.refl _ _⟩
  · rw [h3] at hy
    rw [h4] at hz
    rw [hs]
    clear h1 hs h3 h4
    go_enter Tryz.func88, Tryz.ntmps88
    go_wp2
    go_ret
    exact ⟨(ret_eq (by first | rfl | (simp <;> omega))), Below.refl _ _⟩
  · rw [h3] at hy
    rw [h4] at hz
    have E1 := Lib.hid hs
    clear h1 hs h3 h4
    go_enter Tryz.func88, Tryz.ntmps88
    go_wp2
    go_loopw [5] (fun kv wr => ∃ (k : Nat), k ≤ m + 1 ∧ kv = .int .i64 ((k : Int) - 1) ∧ Go.RowKit.Hid (pBack xs k = pBack xs (m + 1)) ∧ Below w.heap.size w wr) (fun kv _ => (intOf kv + 1).toNat)
    case atStart => exact ⟨m + 1, Nat.le_refl _, by congr 1; omega, Lib.hid rfl, Below.refl _ _⟩
    case round =>
      obtain ⟨k, hk, rfl, HQ, hbw⟩ := hrel
      clear hx hy hz
      cases k with
      | zero =>
        go_wp2
        go_ret
        exact ⟨ret_eq (by rw [E1.out, ← HQ.out]; rfl), hbw⟩
      | succ k =>
        obtain ⟨b', off', e', hb', hx, hy, _, _⟩ := HC.out k (by omega)
        cases e'
        have hx := (hbw.cell (p := ⟨b, off + k * 4, none⟩) hb').trans hx
        have hy := (hbw.cell (p := ⟨b, off + k * 4 + 1, none⟩) hb').trans hy
        have hw1 : (((k + 1 : Nat) : Int) - 1) = (k : Int) := by omega
        rw [hw1]
        clear hw1 hw0
        rcases pBack_cases xs k with ⟨h1, hs⟩ | ⟨h1, h2, hs⟩ | ⟨h1, h2, hs⟩
        · have HS := Lib.hid (hs.symm.trans HQ.out)
          rw [h1] at hy
          clear h1 hs HQ
          go_wp2
          go_ret
          exact ⟨ret_eq (by rw [E1.out, ← HS.out]; rfl), hbw⟩
        · have HS := Lib.hid (hs.symm.trans HQ.out)
          rw [h1] at hy
          rw [h2] at hx
          clear h1 h2 hs HQ
          go_wp2
          go_roundw
          case rel => exact ⟨k, by omega, by simp, HS, hbw⟩
          case measure => simp [intOf] <;> omega
        · have HS := Lib.hid (hs.symm.trans HQ.out)
          rw [h1] at hy
          clear h1 hs HQ
          generalize (xs.getD k Pr.none).br = c at *
          go_wp2
          go_ret
          exact ⟨ret_eq (by rw [E1.out, ← HS.out]; rfl), hbw⟩
end Go.Proofs.YtkpmmkokfllafaaGreat
