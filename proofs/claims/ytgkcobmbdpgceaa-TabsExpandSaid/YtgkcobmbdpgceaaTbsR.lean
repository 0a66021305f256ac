/- The reference's Has, Next, Prev (57). -/
import Derived.Test.YtgkcobmbdpgceaaMg7
namespace Go.Proofs.Ytgkcobmbdpgceaa
open Go.RowKit Go.ChangeShapes Go.WideShapes
def hasC (cols : List Int) (col : Int) : Bool := decide (col ∈ cols ∧ 1 ≤ col ∧ col ≤ 1023)
theorem hasC_of (cols : List Int) (k : Nat) : hasC cols (k : Int) = ofF cols k := by
  have h := ofF_iff cols k
  unfold hasC
  cases ho : ofF cols k with
  | true => rw [ho] at h; rw [decide_eq_true_eq]; have := h.1 rfl; exact ⟨this.1, by omega, by omega⟩
  | false =>
    rw [decide_eq_false_iff_not]
    intro e
    rw [ho] at h
    exact absurd (h.2 ⟨e.1, by omega, by omega⟩) (by decide)
set_option maxRecDepth 100000 in
set_option maxHeartbeats 1600000 in
theorem rhas_any (v : Value) (cols : List Int) (col : Int) (w : World) (hv : Held .i64 w v cols) (hn : cols.length ≤ 1000000) : Calls Try.prog 32 #[v, .int .i64 col] w (fun e w' => e = .returned (.bool (hasC cols col)) ∧ w = w') := by
  obtain ⟨ao, ca, rfl⟩ := hv.len
  have HS := Lib.hid (show ∀ k, k < cols.length → ∃ b off, ao = some ⟨b, off, none⟩ ∧ b < w.heap.size ∧ w.cell? ⟨b, off + k, none⟩ = some (.int .i64 (cols.getD k 0)) from fun k hk => hv.spots k hk)
  have HT := Lib.hid (show ∀ k, k < cols.length → cols.getD k 0 = col → 1 ≤ col → col ≤ 1023 → hasC cols col = true from fun k hk e h1 h2 => by
    unfold hasC
    rw [decide_eq_true_eq]
    refine ⟨?_, h1, h2⟩
    rw [← e, show cols.getD k 0 = cols[k] from by simp [List.getD, List.getElem?_eq_getElem hk]]
    exact List.getElem_mem _)
  have HFA := Lib.hid (show (∀ k, k < cols.length → ¬ (cols.getD k 0 = col ∧ 1 ≤ col ∧ col ≤ 1023)) → hasC cols col = false from fun h => by
    unfold hasC
    rw [decide_eq_false_iff_not]
    rintro ⟨hm, h1, h2⟩
    obtain ⟨k, hk, e⟩ := List.getElem_of_mem hm
    exact h k hk ⟨by rw [show cols.getD k 0 = cols[k] from by simp [List.getD, List.getElem?_eq_getElem hk], e], h1, h2⟩)
  obtain ⟨n, hnn⟩ : ∃ n, n = cols.length := ⟨_, rfl⟩
  have HCAP := Lib.hid (show True from trivial)
  rw [← hnn] at HS HT HFA hn ⊢
  obtain ⟨hb9, hhb⟩ : ∃ b, b = hasC cols col := ⟨_, rfl⟩
  rw [← hhb] at HT HFA ⊢
  clear hv hnn hhb
  go_enter Try.func32, Try.ntmps32
  go_wp2
  go_loopw [5] (fun iv wr => ∃ k : Nat, k ≤ n ∧ iv = .int .i64 k ∧ (∀ j, j < k → ¬ (cols.getD j 0 = col ∧ 1 ≤ col ∧ col ≤ 1023)) ∧ w = wr) (fun iv _ => n - (intOf iv).toNat)
  case atStart => exact ⟨0, Nat.zero_le _, rfl, fun j hj => absurd hj (Nat.not_lt_zero _), rfl⟩
  case round =>
    obtain ⟨k, hk, rfl, hno, rfl⟩ := hrel
    have HNO := Lib.hid hno
    clear hno
    by_cases hlt : k < n
    · obtain ⟨b, off, e, hb, hc⟩ := HS.out k hlt
      subst e
      have hki : (k : Int) < (n : Int) := by omega
      have hwk : IntKind.i64.wrap ((k : Int) + 1) = (k : Int) + 1 := by rw [IntKind.wrap_i64]; omega
      have HTK := Lib.hid (HT.out k hlt)
      have HNX := Lib.hid (show ¬ (cols.getD k 0 = col ∧ 1 ≤ col ∧ col ≤ 1023) → ∀ j, j < k + 1 → ¬ (cols.getD j 0 = col ∧ 1 ≤ col ∧ col ≤ 1023) from fun h j hj => by
        by_cases e : j < k
        · exact HNO.out j e
        · obtain rfl : j = k := by omega
          exact h)
      obtain ⟨x, hx⟩ : ∃ x, x = cols.getD k 0 := ⟨_, rfl⟩
      rw [← hx] at hc HTK
      have HX := Lib.hid hx
      clear hx hb
      by_cases e1 : x = col
      · have hq : (x == col) = true := by rw [beq_iff_eq]; exact e1
        by_cases e2 : 1 ≤ col
        · have hg1 : decide ((1 : Int) ≤ col) = true := by rw [decide_eq_true_eq]; exact e2
          by_cases e3 : col ≤ 1023
          · have hg2 : decide (col ≤ 1023) = true := by rw [decide_eq_true_eq]; exact e3
            obtain rfl := HTK.out e1 e2 e3
            clear e1 e2 e3
            go_wp2
            go_ret
            exact ⟨(ret_eq (by first | rfl | (simp <;> omega))), rfl⟩
          · have hg2 : decide (col ≤ 1023) = false := by rw [decide_eq_false_iff_not]; exact e3
            have HN1 := Lib.hid (HNX.out (fun e => e3 e.2.2))
            clear e1 e2 e3
            go_wp2
            go_roundw
            case rel => exact ⟨k + 1, by omega, by go_num, HN1.out, trivial⟩
            case measure => simp [intOf] <;> omega
        · have hg1 : decide ((1 : Int) ≤ col) = false := by rw [decide_eq_false_iff_not]; exact e2
          have HN1 := Lib.hid (HNX.out (fun e => e2 e.2.1))
          clear e1 e2
          go_wp2
          go_roundw
          case rel => exact ⟨k + 1, by omega, by go_num, HN1.out, trivial⟩
          case measure => simp [intOf] <;> omega
      · have hq : (x == col) = false := by rw [beq_eq_false_iff_ne]; exact e1
        have HN1 := Lib.hid (HNX.out (fun e => e1 (by rw [HX.out]; exact e.1)))
        clear e1
        go_wp2
        go_roundw
        case rel => exact ⟨k + 1, by omega, by go_num, HN1.out, trivial⟩
        case measure => simp [intOf] <;> omega
    · obtain rfl : k = n := by omega
      obtain rfl := HFA.out HNO.out
      go_wp2
      go_ret
      exact ⟨(ret_eq (by first | rfl | (simp <;> omega))), rfl⟩
theorem upF_is (F : Nat → Bool) : ∀ (n c k : Nat), c ≤ k → k ≤ 1023 → k < c + n → (F k = true ∨ k = 1023) → (∀ j, c ≤ j → j < k → F j = false) → upF F n c = k
  | 0, c, k, h1, _, h3, _, _ => by omega
  | n + 1, c, k, h1, h2, h3, h4, h5 => by
    unfold upF
    by_cases e : c = k
    · subst e
      rw [if_neg]
      rintro ⟨e1, e2⟩
      rcases h4 with h4 | h4
      · rw [h4] at e2; cases e2
      · omega
    · rw [if_pos ⟨by omega, h5 c (Nat.le_refl _) (by omega)⟩]
      exact upF_is F n (c + 1) k (by omega) h2 (by omega) h4 (fun j a b => h5 j (by omega) b)
theorem nextF_is {F : Nat → Bool} {col : Int} {k : Nat} (h1 : 1 ≤ k) (h2 : k ≤ 1023) (h3 : col < k) (h4 : F k = true ∨ k = 1023) (h5 : ∀ j : Nat, 1 ≤ j → j < k → col < j → F j = false) : nextF F col = (k : Int) := by
  unfold nextF
  rw [if_neg (by omega), upF_is F 1024 ((max col 0).toNat + 1) k (by omega) h2 (by omega) h4 (fun j a b => h5 j (by omega) b (by omega))]
theorem dnF_is (F : Nat → Bool) : ∀ (c k : Nat), k ≤ c → (k = 0 ∨ F k = true) → (∀ j, k < j → j ≤ c → F j = false) → dnF F c = k
  | 0, k, h, _, _ => by unfold dnF; omega
  | c + 1, k, h, h1, h2 => by
    unfold dnF
    by_cases e : k = c + 1
    · subst e
      rw [if_neg]
      intro e2
      rcases h1 with h1 | h1
      · omega
      · rw [h1] at e2; cases e2
    · rw [if_pos (h2 (c + 1) (by omega) (Nat.le_refl _))]
      exact dnF_is F c k (by omega) h1 (fun j a b => h2 j a (by omega))
theorem prevF_is {F : Nat → Bool} {col : Int} {k : Nat} (h1 : k = 0 ∨ (F k = true ∧ (k : Int) < col ∧ k ≤ 1023)) (h2 : ∀ j : Nat, k < j → j ≤ 1023 → (j : Int) < col → F j = false) : prevF F col = (k : Int) := by
  unfold prevF
  by_cases e : col < 1
  · rw [if_pos e]
    rcases h1 with h1 | h1
    · rw [h1]; rfl
    · omega
  · rw [if_neg e, dnF_is F _ k (by rcases h1 with h1 | h1 <;> omega) (by rcases h1 with h1 | h1; exact .inl h1; exact .inr h1.1) (fun j a b => h2 j a (by omega) (by omega))]
set_option maxRecDepth 100000 in
set_option maxHeartbeats 1600000 in
theorem rnext_any (v : Value) (cols : List Int) (col : Int) (w : World) (hv : Held .i64 w v cols) (hn : cols.length ≤ 1000000) : Calls Try.prog 34 #[v, .int .i64 col] w (fun e w' => e = .returned (.int .i64 (nextF (ofF cols) col)) ∧ w = w') := by
  obtain ⟨ao, ca, rfl⟩ := hv.len
  have HH := Lib.hid (show ∀ k : Nat, Calls Try.prog 32 #[.slice ao cols.length ca, .int .i64 (k : Int)] w (fun e w' => e = .returned (.bool (ofF cols k)) ∧ w = w') from fun k => by rw [← hasC_of]; exact rhas_any _ cols (k : Int) w hv hn)
  have HIS := Lib.hid (show ∀ k : Nat, 1 ≤ k → k ≤ 1023 → col < k → (ofF cols k = true ∨ k = 1023) → (∀ j : Nat, 1 ≤ j → j < k → col < j → ofF cols j = false) → nextF (ofF cols) col = (k : Int) from fun k a b c d e => nextF_is a b c d e)
  have HBIG := Lib.hid (show 1023 ≤ col → nextF (ofF cols) col = 1023 from fun h => by unfold nextF; rw [if_pos h])
  obtain ⟨n, hnn⟩ : ∃ n, n = cols.length := ⟨_, rfl⟩
  rw [← hnn] at HH ⊢
  obtain ⟨F, hF⟩ : ∃ F, F = ofF cols := ⟨_, rfl⟩
  rw [← hF] at HH HIS HBIG ⊢
  obtain ⟨R, hR⟩ : ∃ R, R = nextF F col := ⟨_, rfl⟩
  rw [← hR] at HIS HBIG ⊢
  clear hv hnn hF hR hn
  go_enter Try.func34, Try.ntmps34
  go_wp2
  go_loopw [5] (fun iv wr => ∃ k : Nat, 1 ≤ k ∧ k ≤ 1024 ∧ iv = .int .i64 k ∧ (∀ j : Nat, 1 ≤ j → j < k → col < j → F j = false) ∧ w = wr) (fun iv _ => 1024 - (intOf iv).toNat)
  case atStart => exact ⟨1, Nat.le_refl _, by decide, rfl, fun j a b => by omega, rfl⟩
  case round =>
    obtain ⟨k, hk1, hk2, rfl, hno, rfl⟩ := hrel
    have HNO := Lib.hid hno
    clear hno
    by_cases hlt : k ≤ 1023
    · have hg : decide ((k : Int) ≤ 1023) = true := by rw [decide_eq_true_eq]; omega
      have hwk : IntKind.i64.wrap ((k : Int) + 1) = (k : Int) + 1 := by rw [IntKind.wrap_i64]; omega
      have HNX := Lib.hid (show (col < k → F k = false) → ∀ j : Nat, 1 ≤ j → j < k + 1 → col < j → F j = false from fun h j a b c => by
        by_cases e : j < k
        · exact HNO.out j a e c
        · obtain rfl : j = k := by omega
          exact h c)
      by_cases hgt : col < k
      · have hg2 : decide (col < (k : Int)) = true := by rw [decide_eq_true_eq]; exact hgt
        have hh := HH.out k
        cases hb : F k with
        | true =>
          rw [hb] at hh
          have HR := Lib.hid (HIS.out k hk1 hlt hgt (.inl hb) HNO.out)
          clear hb
          go_wp2_with fail
          refine hh.mono ?_
          clear hh
          rintro e w2 ⟨rfl, rfl⟩
          go_wp2
          go_ret
          exact ⟨ret_eq (by rw [HR.out]; try rfl), rfl⟩
        | false =>
          rw [hb] at hh
          have HN1 := Lib.hid (HNX.out (fun _ => hb))
          clear hb
          go_wp2_with fail
          refine hh.mono ?_
          clear hh
          rintro e w2 ⟨rfl, rfl⟩
          go_wp2
          go_roundw
          case rel => exact ⟨k + 1, by omega, by omega, by go_num, HN1.out, trivial⟩
          case measure => simp [intOf] <;> omega
      · have hg2 : decide (col < (k : Int)) = false := by rw [decide_eq_false_iff_not]; exact hgt
        have HN1 := Lib.hid (HNX.out (fun e => absurd e hgt))
        go_wp2
        go_roundw
        case rel => exact ⟨k + 1, by omega, by omega, by go_num, HN1.out, trivial⟩
        case measure => simp [intOf] <;> omega
    · obtain rfl : k = 1024 := by omega
      have HR := Lib.hid (show R = 1023 from by
        by_cases e : 1023 ≤ col
        · exact HBIG.out e
        · exact HIS.out 1023 (by decide) (Nat.le_refl _) (by omega) (.inr rfl) (fun j a b c => HNO.out j a (by omega) c))
      go_wp2
      go_ret
      exact ⟨ret_eq (by rw [HR.out]; try rfl), rfl⟩
set_option maxRecDepth 100000 in
set_option maxHeartbeats 1600000 in
theorem rprev_any (v : Value) (cols : List Int) (col : Int) (w : World) (hv : Held .i64 w v cols) (hn : cols.length ≤ 1000000) : Calls Try.prog 36 #[v, .int .i64 col] w (fun e w' => e = .returned (.int .i64 (prevF (ofF cols) col)) ∧ w = w') := by
  obtain ⟨ao, ca, rfl⟩ := hv.len
  have HH := Lib.hid (show ∀ k : Nat, Calls Try.prog 32 #[.slice ao cols.length ca, .int .i64 (k : Int)] w (fun e w' => e = .returned (.bool (ofF cols k)) ∧ w = w') from fun k => by rw [← hasC_of]; exact rhas_any _ cols (k : Int) w hv hn)
  have HIS := Lib.hid (show ∀ k : Nat, (k = 0 ∨ (ofF cols k = true ∧ (k : Int) < col ∧ k ≤ 1023)) → (∀ j : Nat, k < j → j ≤ 1023 → (j : Int) < col → ofF cols j = false) → prevF (ofF cols) col = (k : Int) from fun k a b => prevF_is a b)
  obtain ⟨n, hnn⟩ : ∃ n, n = cols.length := ⟨_, rfl⟩
  rw [← hnn] at HH ⊢
  obtain ⟨F, hF⟩ : ∃ F, F = ofF cols := ⟨_, rfl⟩
  rw [← hF] at HH HIS ⊢
  obtain ⟨R, hR⟩ : ∃ R, R = prevF F col := ⟨_, rfl⟩
  rw [← hR] at HIS ⊢
  clear hv hnn hF hR hn
  go_enter Try.func36, Try.ntmps36
  go_wp2
  go_loopw [5] (fun iv wr => ∃ k : Nat, k ≤ 1023 ∧ iv = .int .i64 k ∧ (∀ j : Nat, k < j → j ≤ 1023 → (j : Int) < col → F j = false) ∧ w = wr) (fun iv _ => (intOf iv).toNat)
  case atStart => exact ⟨1023, Nat.le_refl _, rfl, fun j a b => by omega, rfl⟩
  case round =>
    obtain ⟨k, hk2, rfl, hno, rfl⟩ := hrel
    have HNO := Lib.hid hno
    clear hno
    by_cases hlt : 1 ≤ k
    · have hg : decide ((1 : Int) ≤ (k : Int)) = true := by rw [decide_eq_true_eq]; omega
      have hg0 : 1 ≤ k := hlt
      have hg00 : 0 < k := hlt
      have hwk : IntKind.i64.wrap ((k : Int) - 1) = ((k - 1 : Nat) : Int) := by rw [IntKind.wrap_i64]; omega
      have HNX := Lib.hid (show ((k : Int) < col → F k = false) → ∀ j : Nat, k - 1 < j → j ≤ 1023 → (j : Int) < col → F j = false from fun h j a b c => by
        by_cases e : k < j
        · exact HNO.out j e b c
        · obtain rfl : j = k := by omega
          exact h c)
      by_cases hgt : (k : Int) < col
      · have hg2 : decide ((k : Int) < col) = true := by rw [decide_eq_true_eq]; exact hgt
        have hh := HH.out k
        cases hb : F k with
        | true =>
          rw [hb] at hh
          have HR := Lib.hid (HIS.out k (.inr ⟨hb, hgt, hk2⟩) HNO.out)
          clear hb
          go_wp2_with fail
          refine hh.mono ?_
          clear hh
          rintro e w2 ⟨rfl, rfl⟩
          go_wp2
          go_ret
          exact ⟨ret_eq (by rw [HR.out]; try rfl), rfl⟩
        | false =>
          rw [hb] at hh
          have HN1 := Lib.hid (HNX.out (fun _ => hb))
          clear hb
          go_wp2_with fail
          refine hh.mono ?_
          clear hh
          rintro e w2 ⟨rfl, rfl⟩
          go_wp2
          go_roundw
          case rel => exact ⟨k - 1, by omega, rfl, HN1.out, trivial⟩
          case measure => simp [intOf] <;> omega
      · have hg2 : decide ((k : Int) < col) = false := by rw [decide_eq_false_iff_not]; exact hgt
        have HN1 := Lib.hid (HNX.out (fun e => absurd e hgt))
        go_wp2
        go_roundw
        case rel => exact ⟨k - 1, by omega, rfl, HN1.out, trivial⟩
        case measure => simp [intOf] <;> omega
    · obtain rfl : k = 0 := by omega
      have HR := Lib.hid (HIS.out 0 (.inl rfl) HNO.out)
      go_wp2
      go_ret
      exact ⟨ret_eq (by rw [HR.out]; try rfl), rfl⟩
end Go.Proofs.Ytgkcobmbdpgceaa
