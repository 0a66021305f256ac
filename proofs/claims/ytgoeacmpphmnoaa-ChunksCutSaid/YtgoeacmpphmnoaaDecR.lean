/- Contracts of the reference's functions of layer 3: some, Begins, whole. -/
import Derived.Test.YtgoeacmpphmnoaaBegM
import Derived.Test.YtgoeacmpphmnoaaGrow
namespace Go.Proofs.Ytgoeacmpphmnoaa
open Go.RowKit Go.ChangeShapes Go.WideShapes
theorem pow_bd {s : Nat} (h : s ≤ 3) : (128 : Int) * 64 ^ s ≤ 33554432 := by
  match s, h with
  | 0, _ => decide
  | 1, _ => decide
  | 2, _ => decide
  | 3, _ => decide

theorem someN_bool (b : List Int) (n : Nat) (p q r : Bool) (hv : 0 ≤ vF b n ∧ vF b n < szN n) (hk : okF b (n - 1)) (h1 : decide (mxI (loF b (vF b n) (n - 1)) (frN n) ≤ mnI (hiF b (vF b n) (n - 1)) (toN n)) = p) (h2 : decide (mxI (loF b (vF b n) (n - 1)) (frN n) < 55296) = q) (h3 : decide (57343 < mnI (hiF b (vF b n) (n - 1)) (toN n)) = r) : decide (someP b n) = (p && (q || r)) := by
  rw [← h1, ← h2, ← h3]
  unfold someP
  rw [Bool.eq_iff_iff]
  simp [hv.1, hv.2, hk]
theorem okF_mono {b : List Int} {s m : Nat} (h : s ≤ m) (hm : okF b m) : okF b s := by
  induction m with
  | zero => obtain rfl : s = 0 := by omega
            exact hm
  | succ m ih =>
    by_cases e : s = m + 1
    · subst e; exact hm
    · exact ih (by omega) hm.1
theorem mx_cases (a b : Int) : (a < b ∧ mxI a b = b) ∨ (b ≤ a ∧ mxI a b = a) := by unfold mxI; omega
theorem mn_cases (a b : Int) : (a ≤ b ∧ mnI a b = a) ∨ (b < a ∧ mnI a b = b) := by unfold mnI; omega
theorem fin_cases_ (a b : Int) : (decide (a ≤ b) = false) ∨ (decide (a ≤ b) = true ∧ decide (a < 55296) = true) ∨ (decide (a ≤ b) = true ∧ decide (a < 55296) = false) := by
  by_cases h : a ≤ b
  · by_cases h2 : a < 55296
    · exact .inr (.inl ⟨decide_eq_true h, decide_eq_true h2⟩)
    · exact .inr (.inr ⟨decide_eq_true h, decide_eq_false h2⟩)
  · exact .inl (decide_eq_false h)
set_option maxRecDepth 100000 in
set_option maxHeartbeats 1000000 in
theorem some1_any (v : Value) (b : List Int) (w : World) (hb : Held .u8 w v b) (hl : 1 ≤ b.length) (hr : ∀ i, i < b.length → 0 ≤ b.getD i 0 ∧ b.getD i 0 ≤ 255) :
    Calls Try.prog 127 #[v, .int .i64 1] w (Gives w (.bool (decide (someP b 1)))) := by
  obtain ⟨ao, ca, rfl, hc⟩ := hb.view
  have HC := Lib.hid hc
  have HR := Lib.hid hr
  obtain ⟨bb, off, rfl, hbb, hc0⟩ := HC.out 0 (by omega)
  simp only [Nat.add_zero] at hc0
  have hv0 : vF b 1 = b.getD 0 0 - 0 := rfl
  obtain ⟨x0, x1⟩ := HR.out 0 (by omega)
  clear hc hb hr
  have hcs : (decide (vF b 1 < 0) = true ∧ decide (someP b 1) = false) ∨ (decide (vF b 1 < 0) = false ∧ decide (128 ≤ vF b 1) = true ∧ decide (someP b 1) = false) ∨ (0 ≤ vF b 1 ∧ vF b 1 < 128 ∧ decide (vF b 1 < 0) = false ∧ decide (128 ≤ vF b 1) = false) := by
    by_cases h1 : vF b 1 < 0
    · exact .inl ⟨decide_eq_true h1, decide_eq_false (fun h => by have := h.1; omega)⟩
    · by_cases h2 : 128 ≤ vF b 1
      · exact .inr (.inl ⟨decide_eq_false h1, decide_eq_true h2, decide_eq_false (fun h => by have h3 := h.2.1; have h4 : szN 1 = 128 := rfl; omega)⟩)
      · exact .inr (.inr ⟨by omega, by omega, decide_eq_false h1, decide_eq_false h2⟩)
  obtain ⟨y, hy⟩ : ∃ y, y = vF b 1 := ⟨_, rfl⟩
  rw [← hy] at hcs hv0
  have HY := Lib.hid hy
  have hxy : b.getD 0 0 = y + 0 := by omega
  rw [hxy] at hc0 x0 x1
  clear hy hv0 hxy
  have hwy : y + 0 - 0 = y := by omega
  have hbl : ∀ o1 o2 nq, Below w.heap.size w (((w.alloc o1).alloc o2).drewN nq) := fun o1 o2 nq => (((Below.refl _ _).alloc (Nat.le_refl _) o1).alloc (by simp) o2).drewN nq
  have HBL := Lib.hid hbl
  clear hbl
  rcases hcs with ⟨d1, hs⟩ | ⟨d1, d2, hs⟩ | ⟨y0, y1, d1, d2⟩
  · have HS := Lib.hid hs
    clear hs
    go_enter Try.func127, Try.ntmps127
    go_wp2
    go_quiet (fail)
    go_wp2
    go_ret
    exact ⟨ret_eq (by rw [HS.out]; rfl), HBL.out _ _ _⟩
  · have HS := Lib.hid hs
    clear hs
    go_enter Try.func127, Try.ntmps127
    go_wp2
    go_quiet (fail)
    go_wp2
    go_ret
    exact ⟨ret_eq (by rw [HS.out]; rfl), HBL.out _ _ _⟩
  · go_enter Try.func127, Try.ntmps127
    go_wp2
    go_quiet (fail)
    have hw0 := HBL.out (.cells #[.int .i64 0, .int .i64 0, .int .i64 192, .int .i64 224, .int .i64 240] 3) (.cells #[.int .i64 0, .int .i64 128, .int .i64 32, .int .i64 16, .int .i64 8] 3) nq
    go_wp2
    obtain ⟨W, hW⟩ : ∃ W, W = ((w.alloc (.cells #[.int .i64 0, .int .i64 0, .int .i64 192, .int .i64 224, .int .i64 240] 3)).alloc (.cells #[.int .i64 0, .int .i64 128, .int .i64 32, .int .i64 16, .int .i64 8] 3)).drewN nq := ⟨_, rfl⟩
    rw [← hW] at hw0 ⊢
    clear hW hc0
    go_loopw [8, 9, 10] (fun lo hi i wr => ∃ s : Nat, s ≤ 0 ∧ i = .int .i64 ((s : Int) + 1) ∧ lo = .int .i64 (loF b y s) ∧ hi = .int .i64 (hiF b y s) ∧ Go.RowKit.Hid (okF b s) ∧ Below w.heap.size w wr) (fun _ _ i _ => 1 - (intOf i).toNat)
    case atStart => exact ⟨0, Nat.zero_le _, rfl, rfl, rfl, Lib.hid trivial, hw0⟩
    case round =>
      obtain ⟨s, hs, rfl, rfl, rfl, HK, hbw⟩ := hrel
      obtain ⟨l1, l2, l3⟩ := lohi b y y0 (by omega) s HK.out
      have l4 := pow_bd (s := s) (by omega)
      have l5 : hiF b y s < 33554432 := by omega
      clear l3 l4
      by_cases hlt : s < 0
      · exact absurd hlt (Nat.not_lt_zero _)
      · obtain rfl : s = 0 := by omega
        have HSM := Lib.hid (fun p q r => someN_bool b 1 p q r (by rw [← HY.out]; exact ⟨y0, y1⟩) HK.out)
        rw [← HY.out] at HSM
        simp only [show 1 - 1 = 0 from rfl] at HSM
        clear HK
        generalize loF b y 0 = lo at *
        generalize hiF b y 0 = hi at *
        have hfin : ∀ o1 o2, Below w.heap.size w ((wr.alloc o1).alloc o2) := fun o1 o2 => (hbw.alloc hbw.size o1).alloc (by have := hbw.size; simp; omega) o2
        have HF := Lib.hid hfin
        clear hfin hw0
        rcases mx_cases lo (frN 1) with ⟨m1, m2⟩ | ⟨m1, m2⟩
        all_goals rcases mn_cases hi (toN 1) with ⟨n1, n2⟩ | ⟨n1, n2⟩
        all_goals
          simp only [show frN 1 = 0 from rfl, show toN 1 = 127 from rfl] at m1 n1 m2 n2 HSM
          rw [m2, n2] at HSM
          clear m2 n2
        · skip
          cases h1 : decide (0 ≤ hi)
          · skip
            first
            | (exfalso; omega)
            | (exfalso; simp only [decide_eq_true_eq, decide_eq_false_iff_not] at h1; omega)
            | (go_wp2
               go_ret
               exact ⟨ret_eq (by rw [HSM.out _ _ _ h1 rfl rfl]; first | rfl | (simp; try omega)), HF.out _ _⟩)
          · skip
            first
            | (exfalso; omega)
            | (exfalso; simp only [decide_eq_true_eq, decide_eq_false_iff_not] at h1; omega)
            | (go_wp2
               go_ret
               exact ⟨ret_eq (by rw [HSM.out _ _ _ h1 rfl rfl]; first | rfl | (simp; try omega)), HF.out _ _⟩)
        · skip
          first
          | (exfalso; omega)
          | (exfalso; simp only [decide_eq_true_eq, decide_eq_false_iff_not] at l5; omega)
          | (go_wp2
             go_ret
             exact ⟨ret_eq (by rw [HSM.out _ _ _ rfl rfl rfl]; first | rfl | (simp; try omega)), HF.out _ _⟩)
        · skip
          cases h1 : decide (lo ≤ hi)
          · skip
            cases h2 : decide (lo < 55296)
            · skip
              first
              | (exfalso; omega)
              | (exfalso; simp only [decide_eq_true_eq, decide_eq_false_iff_not] at h1 h2; omega)
              | (go_wp2
                 go_ret
                 exact ⟨ret_eq (by rw [HSM.out _ _ _ h1 h2 rfl]; first | rfl | (simp; try omega)), HF.out _ _⟩)
            · skip
              first
              | (exfalso; omega)
              | (exfalso; simp only [decide_eq_true_eq, decide_eq_false_iff_not] at h1 h2; omega)
              | (go_wp2
                 go_ret
                 exact ⟨ret_eq (by rw [HSM.out _ _ _ h1 h2 rfl]; first | rfl | (simp; try omega)), HF.out _ _⟩)
          · skip
            cases h2 : decide (lo < 55296)
            · skip
              first
              | (exfalso; omega)
              | (exfalso; simp only [decide_eq_true_eq, decide_eq_false_iff_not] at h1 h2; omega)
              | (go_wp2
                 go_ret
                 exact ⟨ret_eq (by rw [HSM.out _ _ _ h1 h2 rfl]; first | rfl | (simp; try omega)), HF.out _ _⟩)
            · skip
              first
              | (exfalso; omega)
              | (exfalso; simp only [decide_eq_true_eq, decide_eq_false_iff_not] at h1 h2; omega)
              | (go_wp2
                 go_ret
                 exact ⟨ret_eq (by rw [HSM.out _ _ _ h1 h2 rfl]; first | rfl | (simp; try omega)), HF.out _ _⟩)
        · skip
          cases h1 : decide (lo ≤ 127)
          · skip
            cases h2 : decide (lo < 55296)
            · skip
              first
              | (exfalso; omega)
              | (exfalso; simp only [decide_eq_true_eq, decide_eq_false_iff_not] at h1 h2; omega)
              | (go_wp2
                 go_ret
                 exact ⟨ret_eq (by rw [HSM.out _ _ _ h1 h2 rfl]; first | rfl | (simp; try omega)), HF.out _ _⟩)
            · skip
              first
              | (exfalso; omega)
              | (exfalso; simp only [decide_eq_true_eq, decide_eq_false_iff_not] at h1 h2; omega)
              | (go_wp2
                 go_ret
                 exact ⟨ret_eq (by rw [HSM.out _ _ _ h1 h2 rfl]; first | rfl | (simp; try omega)), HF.out _ _⟩)
          · skip
            cases h2 : decide (lo < 55296)
            · skip
              first
              | (exfalso; omega)
              | (exfalso; simp only [decide_eq_true_eq, decide_eq_false_iff_not] at h1 h2; omega)
              | (go_wp2
                 go_ret
                 exact ⟨ret_eq (by rw [HSM.out _ _ _ h1 h2 rfl]; first | rfl | (simp; try omega)), HF.out _ _⟩)
            · skip
              first
              | (exfalso; omega)
              | (exfalso; simp only [decide_eq_true_eq, decide_eq_false_iff_not] at h1 h2; omega)
              | (go_wp2
                 go_ret
                 exact ⟨ret_eq (by rw [HSM.out _ _ _ h1 h2 rfl]; first | rfl | (simp; try omega)), HF.out _ _⟩)
set_option maxRecDepth 100000 in
set_option maxHeartbeats 1000000 in
theorem some2_any (v : Value) (b : List Int) (w : World) (hb : Held .u8 w v b) (hl : 1 ≤ b.length) (hr : ∀ i, i < b.length → 0 ≤ b.getD i 0 ∧ b.getD i 0 ≤ 255) :
    Calls Try.prog 127 #[v, .int .i64 2] w (Gives w (.bool (decide (someP b 2)))) := by
  obtain ⟨ao, ca, rfl, hc⟩ := hb.view
  have HC := Lib.hid hc
  have HR := Lib.hid hr
  obtain ⟨bb, off, rfl, hbb, hc0⟩ := HC.out 0 (by omega)
  simp only [Nat.add_zero] at hc0
  have hv0 : vF b 2 = b.getD 0 0 - 192 := rfl
  obtain ⟨x0, x1⟩ := HR.out 0 (by omega)
  clear hc hb hr
  have hcs : (decide (vF b 2 < 0) = true ∧ decide (someP b 2) = false) ∨ (decide (vF b 2 < 0) = false ∧ decide (32 ≤ vF b 2) = true ∧ decide (someP b 2) = false) ∨ (0 ≤ vF b 2 ∧ vF b 2 < 32 ∧ decide (vF b 2 < 0) = false ∧ decide (32 ≤ vF b 2) = false) := by
    by_cases h1 : vF b 2 < 0
    · exact .inl ⟨decide_eq_true h1, decide_eq_false (fun h => by have := h.1; omega)⟩
    · by_cases h2 : 32 ≤ vF b 2
      · exact .inr (.inl ⟨decide_eq_false h1, decide_eq_true h2, decide_eq_false (fun h => by have h3 := h.2.1; have h4 : szN 2 = 32 := rfl; omega)⟩)
      · exact .inr (.inr ⟨by omega, by omega, decide_eq_false h1, decide_eq_false h2⟩)
  obtain ⟨y, hy⟩ : ∃ y, y = vF b 2 := ⟨_, rfl⟩
  rw [← hy] at hcs hv0
  have HY := Lib.hid hy
  have hxy : b.getD 0 0 = y + 192 := by omega
  rw [hxy] at hc0 x0 x1
  clear hy hv0 hxy
  have hwy : y + 192 - 192 = y := by omega
  have hbl : ∀ o1 o2 nq, Below w.heap.size w (((w.alloc o1).alloc o2).drewN nq) := fun o1 o2 nq => (((Below.refl _ _).alloc (Nat.le_refl _) o1).alloc (by simp) o2).drewN nq
  have HBL := Lib.hid hbl
  clear hbl
  rcases hcs with ⟨d1, hs⟩ | ⟨d1, d2, hs⟩ | ⟨y0, y1, d1, d2⟩
  · have HS := Lib.hid hs
    clear hs
    go_enter Try.func127, Try.ntmps127
    go_wp2
    go_quiet (fail)
    go_wp2
    go_ret
    exact ⟨ret_eq (by rw [HS.out]; rfl), HBL.out _ _ _⟩
  · have HS := Lib.hid hs
    clear hs
    go_enter Try.func127, Try.ntmps127
    go_wp2
    go_quiet (fail)
    go_wp2
    go_ret
    exact ⟨ret_eq (by rw [HS.out]; rfl), HBL.out _ _ _⟩
  · go_enter Try.func127, Try.ntmps127
    go_wp2
    go_quiet (fail)
    have hw0 := HBL.out (.cells #[.int .i64 0, .int .i64 0, .int .i64 192, .int .i64 224, .int .i64 240] 3) (.cells #[.int .i64 0, .int .i64 128, .int .i64 32, .int .i64 16, .int .i64 8] 3) nq
    go_wp2
    obtain ⟨W, hW⟩ : ∃ W, W = ((w.alloc (.cells #[.int .i64 0, .int .i64 0, .int .i64 192, .int .i64 224, .int .i64 240] 3)).alloc (.cells #[.int .i64 0, .int .i64 128, .int .i64 32, .int .i64 16, .int .i64 8] 3)).drewN nq := ⟨_, rfl⟩
    rw [← hW] at hw0 ⊢
    clear hW hc0
    go_loopw [8, 9, 10] (fun lo hi i wr => ∃ s : Nat, s ≤ 1 ∧ i = .int .i64 ((s : Int) + 1) ∧ lo = .int .i64 (loF b y s) ∧ hi = .int .i64 (hiF b y s) ∧ Go.RowKit.Hid (okF b s) ∧ Below w.heap.size w wr) (fun _ _ i _ => 2 - (intOf i).toNat)
    case atStart => exact ⟨0, Nat.zero_le _, rfl, rfl, rfl, Lib.hid trivial, hw0⟩
    case round =>
      obtain ⟨s, hs, rfl, rfl, rfl, HK, hbw⟩ := hrel
      obtain ⟨l1, l2, l3⟩ := lohi b y y0 (by omega) s HK.out
      have l4 := pow_bd (s := s) (by omega)
      have l5 : hiF b y s < 33554432 := by omega
      clear l3 l4
      by_cases hlt : s < 1
      · have hlo : loF b y (s + 1) = loF b y s * 64 + (if s + 1 < b.length then b.getD (s + 1) 0 - 128 else 0) := rfl
        have hhi : hiF b y (s + 1) = hiF b y s * 64 + 63 + (if s + 1 < b.length then b.getD (s + 1) 0 - 128 - 63 else 0) := rfl
        have hok : okF b (s + 1) ↔ okF b s ∧ (s + 1 < b.length → 0 ≤ b.getD (s + 1) 0 - 128 ∧ b.getD (s + 1) 0 - 128 ≤ 63) := Iff.rfl
        by_cases hsl : s + 1 < b.length
        · obtain ⟨b2, o2, e2, _, hcx⟩ := HC.out (s + 1) hsl
          cases e2
          have hcx := (hbw.cell (p := ⟨bb, off + (s + 1), none⟩) hbb).trans hcx
          obtain ⟨z0, z1⟩ := HR.out (s + 1) hsl
          rw [if_pos hsl] at hlo hhi
          have hok2 : okF b (s + 1) ↔ 0 ≤ b.getD (s + 1) 0 - 128 ∧ b.getD (s + 1) 0 - 128 ≤ 63 := by rw [hok]; exact ⟨fun h => h.2 hsl, fun h => ⟨HK.out, fun _ => h⟩⟩
          have hnok : ¬ okF b (s + 1) → decide (someP b 2) = false := fun h => decide_eq_false (fun hp => h (okF_mono (by omega) hp.2.2.1))
          clear hok
          generalize b.getD (s + 1) 0 = z at *
          by_cases e1 : z - 128 < 0
          · have d3 : decide (z - 128 < 0) = true := decide_eq_true e1
            have HS := Lib.hid (hnok (fun h => by have := hok2.1 h; omega))
            clear hlo hhi hok2 hnok HK
            generalize loF b y s = lo at *
            generalize hiF b y s = hi at *
            go_wp2
            go_ret
            exact ⟨ret_eq (by rw [HS.out]; rfl), hbw⟩
          by_cases e3 : 63 < z - 128
          · have d3 : decide (z - 128 < 0) = false := decide_eq_false e1
            have d4 : decide (63 < z - 128) = true := decide_eq_true e3
            have HS := Lib.hid (hnok (fun h => by have := hok2.1 h; omega))
            clear hlo hhi hok2 hnok HK
            generalize loF b y s = lo at *
            generalize hiF b y s = hi at *
            go_wp2
            go_ret
            exact ⟨ret_eq (by rw [HS.out]; rfl), hbw⟩
          · have d3 : decide (z - 128 < 0) = false := decide_eq_false e1
            have d4 : decide (63 < z - 128) = false := decide_eq_false e3
            have HK2 := Lib.hid (hok2.2 (by omega))
            have HLO := Lib.hid hlo
            have HHI := Lib.hid hhi
            clear hlo hhi hok2 hnok HK
            generalize loF b y s = lo at *
            generalize hiF b y s = hi at *
            go_wp2
            go_roundw
            case rel => exact ⟨s + 1, by omega, by go_num, (by rw [HLO.out]; try (congr 1 <;> omega)), (by rw [HHI.out]; try (congr 1 <;> omega)), HK2, hbw⟩
            case measure => simp [intOf] <;> omega
        · rw [if_neg hsl] at hlo hhi
          have HK2 := Lib.hid (hok.2 ⟨HK.out, fun h => absurd h hsl⟩)
          have HLO := Lib.hid hlo
          have HHI := Lib.hid hhi
          clear hlo hhi hok HK
          generalize loF b y s = lo at *
          generalize hiF b y s = hi at *
          go_wp2
          go_roundw
          case rel => exact ⟨s + 1, by omega, by go_num, (by rw [HLO.out]; try (congr 1 <;> omega)), (by rw [HHI.out]; try (congr 1 <;> omega)), HK2, hbw⟩
          case measure => simp [intOf] <;> omega
      · obtain rfl : s = 1 := by omega
        have HSM := Lib.hid (fun p q r => someN_bool b 2 p q r (by rw [← HY.out]; exact ⟨y0, y1⟩) HK.out)
        rw [← HY.out] at HSM
        simp only [show 2 - 1 = 1 from rfl] at HSM
        clear HK
        generalize loF b y 1 = lo at *
        generalize hiF b y 1 = hi at *
        have hfin : ∀ o1 o2, Below w.heap.size w ((wr.alloc o1).alloc o2) := fun o1 o2 => (hbw.alloc hbw.size o1).alloc (by have := hbw.size; simp; omega) o2
        have HF := Lib.hid hfin
        clear hfin hw0
        rcases mx_cases lo (frN 2) with ⟨m1, m2⟩ | ⟨m1, m2⟩
        all_goals rcases mn_cases hi (toN 2) with ⟨n1, n2⟩ | ⟨n1, n2⟩
        all_goals
          simp only [show frN 2 = 128 from rfl, show toN 2 = 2047 from rfl] at m1 n1 m2 n2 HSM
          rw [m2, n2] at HSM
          clear m2 n2
        · skip
          cases h1 : decide (128 ≤ hi)
          · skip
            first
            | (exfalso; omega)
            | (exfalso; simp only [decide_eq_true_eq, decide_eq_false_iff_not] at h1; omega)
            | (go_wp2
               go_ret
               exact ⟨ret_eq (by rw [HSM.out _ _ _ h1 rfl rfl]; first | rfl | (simp; try omega)), HF.out _ _⟩)
          · skip
            first
            | (exfalso; omega)
            | (exfalso; simp only [decide_eq_true_eq, decide_eq_false_iff_not] at h1; omega)
            | (go_wp2
               go_ret
               exact ⟨ret_eq (by rw [HSM.out _ _ _ h1 rfl rfl]; first | rfl | (simp; try omega)), HF.out _ _⟩)
        · skip
          first
          | (exfalso; omega)
          | (exfalso; simp only [decide_eq_true_eq, decide_eq_false_iff_not] at l5; omega)
          | (go_wp2
             go_ret
             exact ⟨ret_eq (by rw [HSM.out _ _ _ rfl rfl rfl]; first | rfl | (simp; try omega)), HF.out _ _⟩)
        · skip
          cases h1 : decide (lo ≤ hi)
          · skip
            cases h2 : decide (lo < 55296)
            · skip
              first
              | (exfalso; omega)
              | (exfalso; simp only [decide_eq_true_eq, decide_eq_false_iff_not] at h1 h2; omega)
              | (go_wp2
                 go_ret
                 exact ⟨ret_eq (by rw [HSM.out _ _ _ h1 h2 rfl]; first | rfl | (simp; try omega)), HF.out _ _⟩)
            · skip
              first
              | (exfalso; omega)
              | (exfalso; simp only [decide_eq_true_eq, decide_eq_false_iff_not] at h1 h2; omega)
              | (go_wp2
                 go_ret
                 exact ⟨ret_eq (by rw [HSM.out _ _ _ h1 h2 rfl]; first | rfl | (simp; try omega)), HF.out _ _⟩)
          · skip
            cases h2 : decide (lo < 55296)
            · skip
              first
              | (exfalso; omega)
              | (exfalso; simp only [decide_eq_true_eq, decide_eq_false_iff_not] at h1 h2; omega)
              | (go_wp2
                 go_ret
                 exact ⟨ret_eq (by rw [HSM.out _ _ _ h1 h2 rfl]; first | rfl | (simp; try omega)), HF.out _ _⟩)
            · skip
              first
              | (exfalso; omega)
              | (exfalso; simp only [decide_eq_true_eq, decide_eq_false_iff_not] at h1 h2; omega)
              | (go_wp2
                 go_ret
                 exact ⟨ret_eq (by rw [HSM.out _ _ _ h1 h2 rfl]; first | rfl | (simp; try omega)), HF.out _ _⟩)
        · skip
          cases h1 : decide (lo ≤ 2047)
          · skip
            cases h2 : decide (lo < 55296)
            · skip
              first
              | (exfalso; omega)
              | (exfalso; simp only [decide_eq_true_eq, decide_eq_false_iff_not] at h1 h2; omega)
              | (go_wp2
                 go_ret
                 exact ⟨ret_eq (by rw [HSM.out _ _ _ h1 h2 rfl]; first | rfl | (simp; try omega)), HF.out _ _⟩)
            · skip
              first
              | (exfalso; omega)
              | (exfalso; simp only [decide_eq_true_eq, decide_eq_false_iff_not] at h1 h2; omega)
              | (go_wp2
                 go_ret
                 exact ⟨ret_eq (by rw [HSM.out _ _ _ h1 h2 rfl]; first | rfl | (simp; try omega)), HF.out _ _⟩)
          · skip
            cases h2 : decide (lo < 55296)
            · skip
              first
              | (exfalso; omega)
              | (exfalso; simp only [decide_eq_true_eq, decide_eq_false_iff_not] at h1 h2; omega)
              | (go_wp2
                 go_ret
                 exact ⟨ret_eq (by rw [HSM.out _ _ _ h1 h2 rfl]; first | rfl | (simp; try omega)), HF.out _ _⟩)
            · skip
              first
              | (exfalso; omega)
              | (exfalso; simp only [decide_eq_true_eq, decide_eq_false_iff_not] at h1 h2; omega)
              | (go_wp2
                 go_ret
                 exact ⟨ret_eq (by rw [HSM.out _ _ _ h1 h2 rfl]; first | rfl | (simp; try omega)), HF.out _ _⟩)
set_option maxRecDepth 100000 in
set_option maxHeartbeats 1000000 in
theorem some3_any (v : Value) (b : List Int) (w : World) (hb : Held .u8 w v b) (hl : 1 ≤ b.length) (hr : ∀ i, i < b.length → 0 ≤ b.getD i 0 ∧ b.getD i 0 ≤ 255) :
    Calls Try.prog 127 #[v, .int .i64 3] w (Gives w (.bool (decide (someP b 3)))) := by
  obtain ⟨ao, ca, rfl, hc⟩ := hb.view
  have HC := Lib.hid hc
  have HR := Lib.hid hr
  obtain ⟨bb, off, rfl, hbb, hc0⟩ := HC.out 0 (by omega)
  simp only [Nat.add_zero] at hc0
  have hv0 : vF b 3 = b.getD 0 0 - 224 := rfl
  obtain ⟨x0, x1⟩ := HR.out 0 (by omega)
  clear hc hb hr
  have hcs : (decide (vF b 3 < 0) = true ∧ decide (someP b 3) = false) ∨ (decide (vF b 3 < 0) = false ∧ decide (16 ≤ vF b 3) = true ∧ decide (someP b 3) = false) ∨ (0 ≤ vF b 3 ∧ vF b 3 < 16 ∧ decide (vF b 3 < 0) = false ∧ decide (16 ≤ vF b 3) = false) := by
    by_cases h1 : vF b 3 < 0
    · exact .inl ⟨decide_eq_true h1, decide_eq_false (fun h => by have := h.1; omega)⟩
    · by_cases h2 : 16 ≤ vF b 3
      · exact .inr (.inl ⟨decide_eq_false h1, decide_eq_true h2, decide_eq_false (fun h => by have h3 := h.2.1; have h4 : szN 3 = 16 := rfl; omega)⟩)
      · exact .inr (.inr ⟨by omega, by omega, decide_eq_false h1, decide_eq_false h2⟩)
  obtain ⟨y, hy⟩ : ∃ y, y = vF b 3 := ⟨_, rfl⟩
  rw [← hy] at hcs hv0
  have HY := Lib.hid hy
  have hxy : b.getD 0 0 = y + 224 := by omega
  rw [hxy] at hc0 x0 x1
  clear hy hv0 hxy
  have hwy : y + 224 - 224 = y := by omega
  have hbl : ∀ o1 o2 nq, Below w.heap.size w (((w.alloc o1).alloc o2).drewN nq) := fun o1 o2 nq => (((Below.refl _ _).alloc (Nat.le_refl _) o1).alloc (by simp) o2).drewN nq
  have HBL := Lib.hid hbl
  clear hbl
  rcases hcs with ⟨d1, hs⟩ | ⟨d1, d2, hs⟩ | ⟨y0, y1, d1, d2⟩
  · have HS := Lib.hid hs
    clear hs
    go_enter Try.func127, Try.ntmps127
    go_wp2
    go_quiet (fail)
    go_wp2
    go_ret
    exact ⟨ret_eq (by rw [HS.out]; rfl), HBL.out _ _ _⟩
  · have HS := Lib.hid hs
    clear hs
    go_enter Try.func127, Try.ntmps127
    go_wp2
    go_quiet (fail)
    go_wp2
    go_ret
    exact ⟨ret_eq (by rw [HS.out]; rfl), HBL.out _ _ _⟩
  · go_enter Try.func127, Try.ntmps127
    go_wp2
    go_quiet (fail)
    have hw0 := HBL.out (.cells #[.int .i64 0, .int .i64 0, .int .i64 192, .int .i64 224, .int .i64 240] 3) (.cells #[.int .i64 0, .int .i64 128, .int .i64 32, .int .i64 16, .int .i64 8] 3) nq
    go_wp2
    obtain ⟨W, hW⟩ : ∃ W, W = ((w.alloc (.cells #[.int .i64 0, .int .i64 0, .int .i64 192, .int .i64 224, .int .i64 240] 3)).alloc (.cells #[.int .i64 0, .int .i64 128, .int .i64 32, .int .i64 16, .int .i64 8] 3)).drewN nq := ⟨_, rfl⟩
    rw [← hW] at hw0 ⊢
    clear hW hc0
    go_loopw [8, 9, 10] (fun lo hi i wr => ∃ s : Nat, s ≤ 2 ∧ i = .int .i64 ((s : Int) + 1) ∧ lo = .int .i64 (loF b y s) ∧ hi = .int .i64 (hiF b y s) ∧ Go.RowKit.Hid (okF b s) ∧ Below w.heap.size w wr) (fun _ _ i _ => 3 - (intOf i).toNat)
    case atStart => exact ⟨0, Nat.zero_le _, rfl, rfl, rfl, Lib.hid trivial, hw0⟩
    case round =>
      obtain ⟨s, hs, rfl, rfl, rfl, HK, hbw⟩ := hrel
      obtain ⟨l1, l2, l3⟩ := lohi b y y0 (by omega) s HK.out
      have l4 := pow_bd (s := s) (by omega)
      have l5 : hiF b y s < 33554432 := by omega
      clear l3 l4
      by_cases hlt : s < 2
      · have hlo : loF b y (s + 1) = loF b y s * 64 + (if s + 1 < b.length then b.getD (s + 1) 0 - 128 else 0) := rfl
        have hhi : hiF b y (s + 1) = hiF b y s * 64 + 63 + (if s + 1 < b.length then b.getD (s + 1) 0 - 128 - 63 else 0) := rfl
        have hok : okF b (s + 1) ↔ okF b s ∧ (s + 1 < b.length → 0 ≤ b.getD (s + 1) 0 - 128 ∧ b.getD (s + 1) 0 - 128 ≤ 63) := Iff.rfl
        by_cases hsl : s + 1 < b.length
        · obtain ⟨b2, o2, e2, _, hcx⟩ := HC.out (s + 1) hsl
          cases e2
          have hcx := (hbw.cell (p := ⟨bb, off + (s + 1), none⟩) hbb).trans hcx
          obtain ⟨z0, z1⟩ := HR.out (s + 1) hsl
          rw [if_pos hsl] at hlo hhi
          have hok2 : okF b (s + 1) ↔ 0 ≤ b.getD (s + 1) 0 - 128 ∧ b.getD (s + 1) 0 - 128 ≤ 63 := by rw [hok]; exact ⟨fun h => h.2 hsl, fun h => ⟨HK.out, fun _ => h⟩⟩
          have hnok : ¬ okF b (s + 1) → decide (someP b 3) = false := fun h => decide_eq_false (fun hp => h (okF_mono (by omega) hp.2.2.1))
          clear hok
          generalize b.getD (s + 1) 0 = z at *
          by_cases e1 : z - 128 < 0
          · have d3 : decide (z - 128 < 0) = true := decide_eq_true e1
            have HS := Lib.hid (hnok (fun h => by have := hok2.1 h; omega))
            clear hlo hhi hok2 hnok HK
            generalize loF b y s = lo at *
            generalize hiF b y s = hi at *
            go_wp2
            go_ret
            exact ⟨ret_eq (by rw [HS.out]; rfl), hbw⟩
          by_cases e3 : 63 < z - 128
          · have d3 : decide (z - 128 < 0) = false := decide_eq_false e1
            have d4 : decide (63 < z - 128) = true := decide_eq_true e3
            have HS := Lib.hid (hnok (fun h => by have := hok2.1 h; omega))
            clear hlo hhi hok2 hnok HK
            generalize loF b y s = lo at *
            generalize hiF b y s = hi at *
            go_wp2
            go_ret
            exact ⟨ret_eq (by rw [HS.out]; rfl), hbw⟩
          · have d3 : decide (z - 128 < 0) = false := decide_eq_false e1
            have d4 : decide (63 < z - 128) = false := decide_eq_false e3
            have HK2 := Lib.hid (hok2.2 (by omega))
            have HLO := Lib.hid hlo
            have HHI := Lib.hid hhi
            clear hlo hhi hok2 hnok HK
            generalize loF b y s = lo at *
            generalize hiF b y s = hi at *
            go_wp2
            go_roundw
            case rel => exact ⟨s + 1, by omega, by go_num, (by rw [HLO.out]; try (congr 1 <;> omega)), (by rw [HHI.out]; try (congr 1 <;> omega)), HK2, hbw⟩
            case measure => simp [intOf] <;> omega
        · rw [if_neg hsl] at hlo hhi
          have HK2 := Lib.hid (hok.2 ⟨HK.out, fun h => absurd h hsl⟩)
          have HLO := Lib.hid hlo
          have HHI := Lib.hid hhi
          clear hlo hhi hok HK
          generalize loF b y s = lo at *
          generalize hiF b y s = hi at *
          go_wp2
          go_roundw
          case rel => exact ⟨s + 1, by omega, by go_num, (by rw [HLO.out]; try (congr 1 <;> omega)), (by rw [HHI.out]; try (congr 1 <;> omega)), HK2, hbw⟩
          case measure => simp [intOf] <;> omega
      · obtain rfl : s = 2 := by omega
        have HSM := Lib.hid (fun p q r => someN_bool b 3 p q r (by rw [← HY.out]; exact ⟨y0, y1⟩) HK.out)
        rw [← HY.out] at HSM
        simp only [show 3 - 1 = 2 from rfl] at HSM
        clear HK
        generalize loF b y 2 = lo at *
        generalize hiF b y 2 = hi at *
        have hfin : ∀ o1 o2, Below w.heap.size w ((wr.alloc o1).alloc o2) := fun o1 o2 => (hbw.alloc hbw.size o1).alloc (by have := hbw.size; simp; omega) o2
        have HF := Lib.hid hfin
        clear hfin hw0
        rcases mx_cases lo (frN 3) with ⟨m1, m2⟩ | ⟨m1, m2⟩
        all_goals rcases mn_cases hi (toN 3) with ⟨n1, n2⟩ | ⟨n1, n2⟩
        all_goals
          simp only [show frN 3 = 2048 from rfl, show toN 3 = 65535 from rfl] at m1 n1 m2 n2 HSM
          rw [m2, n2] at HSM
          clear m2 n2
        · skip
          cases h1 : decide (2048 ≤ hi)
          · skip
            first
            | (exfalso; omega)
            | (exfalso; simp only [decide_eq_true_eq, decide_eq_false_iff_not] at h1; omega)
            | (go_wp2
               go_ret
               exact ⟨ret_eq (by rw [HSM.out _ _ _ h1 rfl rfl]; first | rfl | (simp; try omega)), HF.out _ _⟩)
          · skip
            first
            | (exfalso; omega)
            | (exfalso; simp only [decide_eq_true_eq, decide_eq_false_iff_not] at h1; omega)
            | (go_wp2
               go_ret
               exact ⟨ret_eq (by rw [HSM.out _ _ _ h1 rfl rfl]; first | rfl | (simp; try omega)), HF.out _ _⟩)
        · skip
          first
          | (exfalso; omega)
          | (exfalso; simp only [decide_eq_true_eq, decide_eq_false_iff_not] at l5; omega)
          | (go_wp2
             go_ret
             exact ⟨ret_eq (by rw [HSM.out _ _ _ rfl rfl rfl]; first | rfl | (simp; try omega)), HF.out _ _⟩)
        · skip
          cases h1 : decide (lo ≤ hi)
          · skip
            cases h2 : decide (lo < 55296)
            · skip
              first
              | (exfalso; omega)
              | (exfalso; simp only [decide_eq_true_eq, decide_eq_false_iff_not] at h1 h2; omega)
              | (go_wp2
                 go_ret
                 exact ⟨ret_eq (by rw [HSM.out _ _ _ h1 h2 rfl]; first | rfl | (simp; try omega)), HF.out _ _⟩)
            · skip
              first
              | (exfalso; omega)
              | (exfalso; simp only [decide_eq_true_eq, decide_eq_false_iff_not] at h1 h2; omega)
              | (go_wp2
                 go_ret
                 exact ⟨ret_eq (by rw [HSM.out _ _ _ h1 h2 rfl]; first | rfl | (simp; try omega)), HF.out _ _⟩)
          · skip
            cases h2 : decide (lo < 55296)
            · skip
              first
              | (exfalso; omega)
              | (exfalso; simp only [decide_eq_true_eq, decide_eq_false_iff_not] at h1 h2; omega)
              | (go_wp2
                 go_ret
                 exact ⟨ret_eq (by rw [HSM.out _ _ _ h1 h2 rfl]; first | rfl | (simp; try omega)), HF.out _ _⟩)
            · skip
              first
              | (exfalso; omega)
              | (exfalso; simp only [decide_eq_true_eq, decide_eq_false_iff_not] at h1 h2; omega)
              | (go_wp2
                 go_ret
                 exact ⟨ret_eq (by rw [HSM.out _ _ _ h1 h2 rfl]; first | rfl | (simp; try omega)), HF.out _ _⟩)
        · skip
          cases h1 : decide (lo ≤ 65535)
          · skip
            cases h2 : decide (lo < 55296)
            · skip
              first
              | (exfalso; omega)
              | (exfalso; simp only [decide_eq_true_eq, decide_eq_false_iff_not] at h1 h2; omega)
              | (go_wp2
                 go_ret
                 exact ⟨ret_eq (by rw [HSM.out _ _ _ h1 h2 rfl]; first | rfl | (simp; try omega)), HF.out _ _⟩)
            · skip
              first
              | (exfalso; omega)
              | (exfalso; simp only [decide_eq_true_eq, decide_eq_false_iff_not] at h1 h2; omega)
              | (go_wp2
                 go_ret
                 exact ⟨ret_eq (by rw [HSM.out _ _ _ h1 h2 rfl]; first | rfl | (simp; try omega)), HF.out _ _⟩)
          · skip
            cases h2 : decide (lo < 55296)
            · skip
              first
              | (exfalso; omega)
              | (exfalso; simp only [decide_eq_true_eq, decide_eq_false_iff_not] at h1 h2; omega)
              | (go_wp2
                 go_ret
                 exact ⟨ret_eq (by rw [HSM.out _ _ _ h1 h2 rfl]; first | rfl | (simp; try omega)), HF.out _ _⟩)
            · skip
              first
              | (exfalso; omega)
              | (exfalso; simp only [decide_eq_true_eq, decide_eq_false_iff_not] at h1 h2; omega)
              | (go_wp2
                 go_ret
                 exact ⟨ret_eq (by rw [HSM.out _ _ _ h1 h2 rfl]; first | rfl | (simp; try omega)), HF.out _ _⟩)
set_option maxRecDepth 100000 in
set_option maxHeartbeats 1000000 in
theorem some4_any (v : Value) (b : List Int) (w : World) (hb : Held .u8 w v b) (hl : 1 ≤ b.length) (hr : ∀ i, i < b.length → 0 ≤ b.getD i 0 ∧ b.getD i 0 ≤ 255) :
    Calls Try.prog 127 #[v, .int .i64 4] w (Gives w (.bool (decide (someP b 4)))) := by
  obtain ⟨ao, ca, rfl, hc⟩ := hb.view
  have HC := Lib.hid hc
  have HR := Lib.hid hr
  obtain ⟨bb, off, rfl, hbb, hc0⟩ := HC.out 0 (by omega)
  simp only [Nat.add_zero] at hc0
  have hv0 : vF b 4 = b.getD 0 0 - 240 := rfl
  obtain ⟨x0, x1⟩ := HR.out 0 (by omega)
  clear hc hb hr
  have hcs : (decide (vF b 4 < 0) = true ∧ decide (someP b 4) = false) ∨ (decide (vF b 4 < 0) = false ∧ decide (8 ≤ vF b 4) = true ∧ decide (someP b 4) = false) ∨ (0 ≤ vF b 4 ∧ vF b 4 < 8 ∧ decide (vF b 4 < 0) = false ∧ decide (8 ≤ vF b 4) = false) := by
    by_cases h1 : vF b 4 < 0
    · exact .inl ⟨decide_eq_true h1, decide_eq_false (fun h => by have := h.1; omega)⟩
    · by_cases h2 : 8 ≤ vF b 4
      · exact .inr (.inl ⟨decide_eq_false h1, decide_eq_true h2, decide_eq_false (fun h => by have h3 := h.2.1; have h4 : szN 4 = 8 := rfl; omega)⟩)
      · exact .inr (.inr ⟨by omega, by omega, decide_eq_false h1, decide_eq_false h2⟩)
  obtain ⟨y, hy⟩ : ∃ y, y = vF b 4 := ⟨_, rfl⟩
  rw [← hy] at hcs hv0
  have HY := Lib.hid hy
  have hxy : b.getD 0 0 = y + 240 := by omega
  rw [hxy] at hc0 x0 x1
  clear hy hv0 hxy
  have hwy : y + 240 - 240 = y := by omega
  have hbl : ∀ o1 o2 nq, Below w.heap.size w (((w.alloc o1).alloc o2).drewN nq) := fun o1 o2 nq => (((Below.refl _ _).alloc (Nat.le_refl _) o1).alloc (by simp) o2).drewN nq
  have HBL := Lib.hid hbl
  clear hbl
  rcases hcs with ⟨d1, hs⟩ | ⟨d1, d2, hs⟩ | ⟨y0, y1, d1, d2⟩
  · have HS := Lib.hid hs
    clear hs
    go_enter Try.func127, Try.ntmps127
    go_wp2
    go_quiet (fail)
    go_wp2
    go_ret
    exact ⟨ret_eq (by rw [HS.out]; rfl), HBL.out _ _ _⟩
  · have HS := Lib.hid hs
    clear hs
    go_enter Try.func127, Try.ntmps127
    go_wp2
    go_quiet (fail)
    go_wp2
    go_ret
    exact ⟨ret_eq (by rw [HS.out]; rfl), HBL.out _ _ _⟩
  · go_enter Try.func127, Try.ntmps127
    go_wp2
    go_quiet (fail)
    have hw0 := HBL.out (.cells #[.int .i64 0, .int .i64 0, .int .i64 192, .int .i64 224, .int .i64 240] 3) (.cells #[.int .i64 0, .int .i64 128, .int .i64 32, .int .i64 16, .int .i64 8] 3) nq
    go_wp2
    obtain ⟨W, hW⟩ : ∃ W, W = ((w.alloc (.cells #[.int .i64 0, .int .i64 0, .int .i64 192, .int .i64 224, .int .i64 240] 3)).alloc (.cells #[.int .i64 0, .int .i64 128, .int .i64 32, .int .i64 16, .int .i64 8] 3)).drewN nq := ⟨_, rfl⟩
    rw [← hW] at hw0 ⊢
    clear hW hc0
    go_loopw [8, 9, 10] (fun lo hi i wr => ∃ s : Nat, s ≤ 3 ∧ i = .int .i64 ((s : Int) + 1) ∧ lo = .int .i64 (loF b y s) ∧ hi = .int .i64 (hiF b y s) ∧ Go.RowKit.Hid (okF b s) ∧ Below w.heap.size w wr) (fun _ _ i _ => 4 - (intOf i).toNat)
    case atStart => exact ⟨0, Nat.zero_le _, rfl, rfl, rfl, Lib.hid trivial, hw0⟩
    case round =>
      obtain ⟨s, hs, rfl, rfl, rfl, HK, hbw⟩ := hrel
      obtain ⟨l1, l2, l3⟩ := lohi b y y0 (by omega) s HK.out
      have l4 := pow_bd (s := s) (by omega)
      have l5 : hiF b y s < 33554432 := by omega
      clear l3 l4
      by_cases hlt : s < 3
      · have hlo : loF b y (s + 1) = loF b y s * 64 + (if s + 1 < b.length then b.getD (s + 1) 0 - 128 else 0) := rfl
        have hhi : hiF b y (s + 1) = hiF b y s * 64 + 63 + (if s + 1 < b.length then b.getD (s + 1) 0 - 128 - 63 else 0) := rfl
        have hok : okF b (s + 1) ↔ okF b s ∧ (s + 1 < b.length → 0 ≤ b.getD (s + 1) 0 - 128 ∧ b.getD (s + 1) 0 - 128 ≤ 63) := Iff.rfl
        by_cases hsl : s + 1 < b.length
        · obtain ⟨b2, o2, e2, _, hcx⟩ := HC.out (s + 1) hsl
          cases e2
          have hcx := (hbw.cell (p := ⟨bb, off + (s + 1), none⟩) hbb).trans hcx
          obtain ⟨z0, z1⟩ := HR.out (s + 1) hsl
          rw [if_pos hsl] at hlo hhi
          have hok2 : okF b (s + 1) ↔ 0 ≤ b.getD (s + 1) 0 - 128 ∧ b.getD (s + 1) 0 - 128 ≤ 63 := by rw [hok]; exact ⟨fun h => h.2 hsl, fun h => ⟨HK.out, fun _ => h⟩⟩
          have hnok : ¬ okF b (s + 1) → decide (someP b 4) = false := fun h => decide_eq_false (fun hp => h (okF_mono (by omega) hp.2.2.1))
          clear hok
          generalize b.getD (s + 1) 0 = z at *
          by_cases e1 : z - 128 < 0
          · have d3 : decide (z - 128 < 0) = true := decide_eq_true e1
            have HS := Lib.hid (hnok (fun h => by have := hok2.1 h; omega))
            clear hlo hhi hok2 hnok HK
            generalize loF b y s = lo at *
            generalize hiF b y s = hi at *
            go_wp2
            go_ret
            exact ⟨ret_eq (by rw [HS.out]; rfl), hbw⟩
          by_cases e3 : 63 < z - 128
          · have d3 : decide (z - 128 < 0) = false := decide_eq_false e1
            have d4 : decide (63 < z - 128) = true := decide_eq_true e3
            have HS := Lib.hid (hnok (fun h => by have := hok2.1 h; omega))
            clear hlo hhi hok2 hnok HK
            generalize loF b y s = lo at *
            generalize hiF b y s = hi at *
            go_wp2
            go_ret
            exact ⟨ret_eq (by rw [HS.out]; rfl), hbw⟩
          · have d3 : decide (z - 128 < 0) = false := decide_eq_false e1
            have d4 : decide (63 < z - 128) = false := decide_eq_false e3
            have HK2 := Lib.hid (hok2.2 (by omega))
            have HLO := Lib.hid hlo
            have HHI := Lib.hid hhi
            clear hlo hhi hok2 hnok HK
            generalize loF b y s = lo at *
            generalize hiF b y s = hi at *
            go_wp2
            go_roundw
            case rel => exact ⟨s + 1, by omega, by go_num, (by rw [HLO.out]; try (congr 1 <;> omega)), (by rw [HHI.out]; try (congr 1 <;> omega)), HK2, hbw⟩
            case measure => simp [intOf] <;> omega
        · rw [if_neg hsl] at hlo hhi
          have HK2 := Lib.hid (hok.2 ⟨HK.out, fun h => absurd h hsl⟩)
          have HLO := Lib.hid hlo
          have HHI := Lib.hid hhi
          clear hlo hhi hok HK
          generalize loF b y s = lo at *
          generalize hiF b y s = hi at *
          go_wp2
          go_roundw
          case rel => exact ⟨s + 1, by omega, by go_num, (by rw [HLO.out]; try (congr 1 <;> omega)), (by rw [HHI.out]; try (congr 1 <;> omega)), HK2, hbw⟩
          case measure => simp [intOf] <;> omega
      · obtain rfl : s = 3 := by omega
        have HSM := Lib.hid (fun p q r => someN_bool b 4 p q r (by rw [← HY.out]; exact ⟨y0, y1⟩) HK.out)
        rw [← HY.out] at HSM
        simp only [show 4 - 1 = 3 from rfl] at HSM
        clear HK
        generalize loF b y 3 = lo at *
        generalize hiF b y 3 = hi at *
        have hfin : ∀ o1 o2, Below w.heap.size w ((wr.alloc o1).alloc o2) := fun o1 o2 => (hbw.alloc hbw.size o1).alloc (by have := hbw.size; simp; omega) o2
        have HF := Lib.hid hfin
        clear hfin hw0
        rcases mx_cases lo (frN 4) with ⟨m1, m2⟩ | ⟨m1, m2⟩
        all_goals rcases mn_cases hi (toN 4) with ⟨n1, n2⟩ | ⟨n1, n2⟩
        all_goals
          simp only [show frN 4 = 65536 from rfl, show toN 4 = 1114111 from rfl] at m1 n1 m2 n2 HSM
          rw [m2, n2] at HSM
          clear m2 n2
        · skip
          cases h1 : decide (65536 ≤ hi)
          · skip
            first
            | (exfalso; omega)
            | (exfalso; simp only [decide_eq_true_eq, decide_eq_false_iff_not] at h1; omega)
            | (go_wp2
               go_ret
               exact ⟨ret_eq (by rw [HSM.out _ _ _ h1 rfl rfl]; first | rfl | (simp; try omega)), HF.out _ _⟩)
          · skip
            first
            | (exfalso; omega)
            | (exfalso; simp only [decide_eq_true_eq, decide_eq_false_iff_not] at h1; omega)
            | (go_wp2
               go_ret
               exact ⟨ret_eq (by rw [HSM.out _ _ _ h1 rfl rfl]; first | rfl | (simp; try omega)), HF.out _ _⟩)
        · skip
          first
          | (exfalso; omega)
          | (exfalso; simp only [decide_eq_true_eq, decide_eq_false_iff_not] at l5; omega)
          | (go_wp2
             go_ret
             exact ⟨ret_eq (by rw [HSM.out _ _ _ rfl rfl rfl]; first | rfl | (simp; try omega)), HF.out _ _⟩)
        · skip
          cases h1 : decide (lo ≤ hi)
          · skip
            cases h2 : decide (lo < 55296)
            · skip
              first
              | (exfalso; omega)
              | (exfalso; simp only [decide_eq_true_eq, decide_eq_false_iff_not] at h1 h2; omega)
              | (go_wp2
                 go_ret
                 exact ⟨ret_eq (by rw [HSM.out _ _ _ h1 h2 rfl]; first | rfl | (simp; try omega)), HF.out _ _⟩)
            · skip
              first
              | (exfalso; omega)
              | (exfalso; simp only [decide_eq_true_eq, decide_eq_false_iff_not] at h1 h2; omega)
              | (go_wp2
                 go_ret
                 exact ⟨ret_eq (by rw [HSM.out _ _ _ h1 h2 rfl]; first | rfl | (simp; try omega)), HF.out _ _⟩)
          · skip
            cases h2 : decide (lo < 55296)
            · skip
              first
              | (exfalso; omega)
              | (exfalso; simp only [decide_eq_true_eq, decide_eq_false_iff_not] at h1 h2; omega)
              | (go_wp2
                 go_ret
                 exact ⟨ret_eq (by rw [HSM.out _ _ _ h1 h2 rfl]; first | rfl | (simp; try omega)), HF.out _ _⟩)
            · skip
              first
              | (exfalso; omega)
              | (exfalso; simp only [decide_eq_true_eq, decide_eq_false_iff_not] at h1 h2; omega)
              | (go_wp2
                 go_ret
                 exact ⟨ret_eq (by rw [HSM.out _ _ _ h1 h2 rfl]; first | rfl | (simp; try omega)), HF.out _ _⟩)
        · skip
          cases h1 : decide (lo ≤ 1114111)
          · skip
            cases h2 : decide (lo < 55296)
            · skip
              first
              | (exfalso; omega)
              | (exfalso; simp only [decide_eq_true_eq, decide_eq_false_iff_not] at h1 h2; omega)
              | (go_wp2
                 go_ret
                 exact ⟨ret_eq (by rw [HSM.out _ _ _ h1 h2 rfl]; first | rfl | (simp; try omega)), HF.out _ _⟩)
            · skip
              first
              | (exfalso; omega)
              | (exfalso; simp only [decide_eq_true_eq, decide_eq_false_iff_not] at h1 h2; omega)
              | (go_wp2
                 go_ret
                 exact ⟨ret_eq (by rw [HSM.out _ _ _ h1 h2 rfl]; first | rfl | (simp; try omega)), HF.out _ _⟩)
          · skip
            cases h2 : decide (lo < 55296)
            · skip
              first
              | (exfalso; omega)
              | (exfalso; simp only [decide_eq_true_eq, decide_eq_false_iff_not] at h1 h2; omega)
              | (go_wp2
                 go_ret
                 exact ⟨ret_eq (by rw [HSM.out _ _ _ h1 h2 rfl]; first | rfl | (simp; try omega)), HF.out _ _⟩)
            · skip
              first
              | (exfalso; omega)
              | (exfalso; simp only [decide_eq_true_eq, decide_eq_false_iff_not] at h1 h2; omega)
              | (go_wp2
                 go_ret
                 exact ⟨ret_eq (by rw [HSM.out _ _ _ h1 h2 rfl]; first | rfl | (simp; try omega)), HF.out _ _⟩)
end Go.Proofs.Ytgoeacmpphmnoaa
