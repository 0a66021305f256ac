/- Contracts of the reference's Begins, whole and Step of layer 3. -/
import Derived.Test.YtgoeacmpphmnoaaDecR
import Derived.Test.YtgoeacmpphmnoaaDecM
namespace Go.Proofs.Ytgoeacmpphmnoaa
open Go.RowKit Go.ChangeShapes Go.WideShapes
theorem someK_any (k : Nat) (k1 : 1 ≤ k) (k4 : k ≤ 4) (v : Value) (b : List Int) (w : World) (hb : Held .u8 w v b) (hl : 1 ≤ b.length) (hr : ∀ i, i < b.length → 0 ≤ b.getD i 0 ∧ b.getD i 0 ≤ 255) :
    Calls Try.prog 127 #[v, .int .i64 k] w (Gives w (.bool (decide (someP b k)))) := by
  match k, k1, k4 with
  | 1, _, _ => exact some1_any v b w hb hl hr
  | 2, _, _ => exact some2_any v b w hb hl hr
  | 3, _, _ => exact some3_any v b w hb hl hr
  | 4, _, _ => exact some4_any v b w hb hl hr
theorem beg_hit {b : List Int} {k : Nat} (k1 : 1 ≤ k) (k4 : k ≤ 4) (hl : b.length ≤ k) (hs : someP b k) (hn : ∀ m, 1 ≤ m → m < k → ¬ (b.length ≤ m ∧ someP b m)) : begB b = k := by
  unfold begB
  match k, k1, k4 with
  | 1, _, _ => rw [if_pos ⟨hl, hs⟩]; rfl
  | 2, _, _ => rw [if_neg (hn 1 (by decide) (by decide)), if_pos ⟨hl, hs⟩]; rfl
  | 3, _, _ => rw [if_neg (hn 1 (by decide) (by decide)), if_neg (hn 2 (by decide) (by decide)), if_pos ⟨hl, hs⟩]; rfl
  | 4, _, _ => rw [if_neg (hn 1 (by decide) (by decide)), if_neg (hn 2 (by decide) (by decide)), if_neg (hn 3 (by decide) (by decide)), if_pos ⟨hl, hs⟩]; rfl
theorem beg_miss {b : List Int} (hn : ∀ m, 1 ≤ m → m < 5 → ¬ (b.length ≤ m ∧ someP b m)) : begB b = 0 := by
  unfold begB
  rw [if_neg (hn 1 (by decide) (by decide)), if_neg (hn 2 (by decide) (by decide)), if_neg (hn 3 (by decide) (by decide)), if_neg (hn 4 (by decide) (by decide))]
set_option maxRecDepth 100000 in
set_option maxHeartbeats 1000000 in
theorem begins_any (v : Value) (b : List Int) (w : World) (hb : Held .u8 w v b) (hl : 1 ≤ b.length) (hm : b.length ≤ 1000000) (hr : ∀ i, i < b.length → 0 ≤ b.getD i 0 ∧ b.getD i 0 ≤ 255) :
    Calls Try.prog 69 #[v] w (Gives w (.int .i64 (begB b))) := by
  obtain ⟨ao, ca, rfl, _⟩ := hb.view
  have HB := Lib.hid hb
  have HR := Lib.hid hr
  clear hb hr
  have dl : decide ((1 : Int) ≤ (b.length : Int)) = true := decide_eq_true (by omega)
  go_enter Try.func69, Try.ntmps69
  go_wp2
  go_loopw [3] (fun i wr => ∃ k : Nat, 1 ≤ k ∧ k ≤ 5 ∧ i = .int .i64 k ∧ Go.RowKit.Hid (∀ m, 1 ≤ m → m < k → ¬ (b.length ≤ m ∧ someP b m)) ∧ Below w.heap.size w wr) (fun i _ => 5 - (intOf i).toNat)
  case atStart => exact ⟨1, Nat.le_refl _, by decide, rfl, Lib.hid (fun m h1 h2 => by omega), Below.refl _ _⟩
  case round =>
    obtain ⟨k, k1, k5, rfl, HN, hbw⟩ := hrel
    by_cases h4 : k ≤ 4
    · have d4 : decide ((k : Int) ≤ 4) = true := decide_eq_true (by omega)
      by_cases hlk : b.length ≤ k
      · have dk : decide ((b.length : Int) ≤ (k : Int)) = true := decide_eq_true (by omega)
        have HS := Lib.hid (someK_any k k1 h4 _ b wr (HB.out.below hbw) hl HR.out)
        go_wp2_with fail
        refine HS.out.mono ?_
        rintro e w2 ⟨rfl, b2⟩
        have hb2 := hbw.trans (b2.mono hbw.size)
        cases hsm : decide (someP b k) with
        | true =>
          have HV := Lib.hid (beg_hit k1 h4 hlk (of_decide_eq_true hsm) HN.out)
          clear hsm HN HS
          go_wp2
          go_ret
          exact ⟨ret_eq (by rw [HV.out]; rfl), hb2⟩
        | false =>
          have HN2 := Lib.hid (show ∀ m, 1 ≤ m → m < k + 1 → ¬ (b.length ≤ m ∧ someP b m) from fun m h1 h2 => by
            by_cases e : m = k
            · subst e; exact fun h => of_decide_eq_false hsm h.2
            · exact HN.out m h1 (by omega))
          clear hsm HN HS
          go_wp2
          go_roundw
          case rel => exact ⟨k + 1, by omega, by omega, by go_num, HN2, hb2⟩
          case measure => simp [intOf] <;> omega
      · have dk : decide ((b.length : Int) ≤ (k : Int)) = false := decide_eq_false (by omega)
        have HN2 := Lib.hid (show ∀ m, 1 ≤ m → m < k + 1 → ¬ (b.length ≤ m ∧ someP b m) from fun m h1 h2 => by
          by_cases e : m = k
          · subst e; exact fun h => hlk h.1
          · exact HN.out m h1 (by omega))
        clear HN
        go_wp2
        go_roundw
        case rel => exact ⟨k + 1, by omega, by omega, by go_num, HN2, hbw⟩
        case measure => simp [intOf] <;> omega
    · obtain rfl : k = 5 := by omega
      have HV := Lib.hid (beg_miss HN.out)
      clear HN
      go_wp2
      go_ret
      exact ⟨ret_eq (by rw [HV.out]; rfl), hbw⟩
theorem wh_bd (b : List Int) (v : Int) (hv0 : -300 ≤ v) (hv1 : v ≤ 300) (hr : ∀ i, i < b.length → 0 ≤ b.getD i 0 ∧ b.getD i 0 ≤ 255) : ∀ s, s < b.length → -(300 * 65 ^ s) ≤ whF b v s ∧ whF b v s ≤ 300 * 65 ^ s
  | 0, _ => by simp only [whF]; omega
  | s + 1, h => by
    obtain ⟨i1, i2⟩ := wh_bd b v hv0 hv1 hr s (by omega)
    have h1 := hr (s + 1) h
    have e : (65 : Int) ^ (s + 1) = 65 ^ s * 65 := Int.pow_succ ..
    have p : (1 : Int) ≤ 65 ^ s := by have := Int.pow_pos (n := 65) (m := s) (by decide); omega
    simp only [whF]
    rw [e]
    generalize (65 : Int) ^ s = q at *
    omega
theorem pow65 {s : Nat} (h : s ≤ 3) : (300 : Int) * 65 ^ s ≤ 82387500 := by
  match s, h with
  | 0, _ => decide
  | 1, _ => decide
  | 2, _ => decide
  | 3, _ => decide
set_option maxRecDepth 100000 in
set_option maxHeartbeats 1000000 in
theorem whole1_any (v : Value) (b : List Int) (w : World) (hb : Held .u8 w v b) (hl : b.length = 1) (hr : ∀ i, i < b.length → 0 ≤ b.getD i 0 ∧ b.getD i 0 ≤ 255) :
    Calls Try.prog 128 #[v] w (Gives w (.int .i32 (wholeV b))) := by
  obtain ⟨ao, ca, rfl, hc⟩ := hb.view
  have HC := Lib.hid hc
  have HR := Lib.hid hr
  obtain ⟨bb, off, rfl, hbb, hc0⟩ := HC.out 0 (by omega)
  simp only [Nat.add_zero] at hc0
  obtain ⟨x0, x1⟩ := HR.out 0 (by omega)
  have hwv : wholeV b = whF b (b.getD 0 0 - 0) 0 := by unfold wholeV; rw [hl]; rfl
  have hbd := fun s hs => wh_bd b (b.getD 0 0 - 0) (by omega) (by omega) hr s hs
  obtain ⟨y, hy⟩ : ∃ y, y = b.getD 0 0 - 0 := ⟨_, rfl⟩
  rw [← hy] at hwv hbd
  have hxy : b.getD 0 0 = y + 0 := by omega
  rw [hxy] at hc0 x0 x1
  have HWV := Lib.hid hwv
  have HBD := Lib.hid hbd
  have HL := Lib.hid hl
  have hwy : y + 0 - 0 = y := by omega
  rw [hl] at *
  clear hc hb hr hy hxy hwv hbd
  have hbl : ∀ o1 nq, Below w.heap.size w ((w.alloc o1).drewN nq) := fun o1 nq => ((Below.refl _ _).alloc (Nat.le_refl _) o1).drewN nq
  have HBL := Lib.hid hbl
  clear hbl
  go_enter Try.func128, Try.ntmps128
  go_wp2
  go_quiet (fail)
  have hw0 := HBL.out (.cells #[.int .i64 0, .int .i64 0, .int .i64 192, .int .i64 224, .int .i64 240] 3) nq
  go_wp2
  obtain ⟨W, hW⟩ : ∃ W, W = (w.alloc (.cells #[.int .i64 0, .int .i64 0, .int .i64 192, .int .i64 224, .int .i64 240] 3)).drewN nq := ⟨_, rfl⟩
  rw [← hW] at hw0 ⊢
  clear hW hc0
  go_loopw [4, 5] (fun vv i wr => ∃ s : Nat, s ≤ 0 ∧ i = .int .i64 ((s : Int) + 1) ∧ vv = .int .i64 (whF b y s) ∧ Below w.heap.size w wr) (fun _ i _ => 1 - (intOf i).toNat)
  case atStart => exact ⟨0, Nat.zero_le _, rfl, rfl, hw0⟩
  case round =>
    obtain ⟨s, hs, rfl, rfl, hbw⟩ := hrel
    obtain ⟨l1, l2⟩ := HBD.out s (by omega)
    have l4 := pow65 (s := s) (by omega)
    have l5 : -82387500 ≤ whF b y s ∧ whF b y s ≤ 82387500 := by omega
    clear l1 l2 l4
    by_cases hlt : s < 0
    · exact absurd hlt (Nat.not_lt_zero _)
    · obtain rfl : s = 0 := by omega
      generalize whF b y 0 = u at *
      go_wp2
      go_ret
      exact ⟨ret_eq (by rw [HWV.out]; simp), hbw⟩
set_option maxRecDepth 100000 in
set_option maxHeartbeats 1000000 in
theorem whole2_any (v : Value) (b : List Int) (w : World) (hb : Held .u8 w v b) (hl : b.length = 2) (hr : ∀ i, i < b.length → 0 ≤ b.getD i 0 ∧ b.getD i 0 ≤ 255) :
    Calls Try.prog 128 #[v] w (Gives w (.int .i32 (wholeV b))) := by
  obtain ⟨ao, ca, rfl, hc⟩ := hb.view
  have HC := Lib.hid hc
  have HR := Lib.hid hr
  obtain ⟨bb, off, rfl, hbb, hc0⟩ := HC.out 0 (by omega)
  simp only [Nat.add_zero] at hc0
  obtain ⟨x0, x1⟩ := HR.out 0 (by omega)
  have hwv : wholeV b = whF b (b.getD 0 0 - 192) 1 := by unfold wholeV; rw [hl]; rfl
  have hbd := fun s hs => wh_bd b (b.getD 0 0 - 192) (by omega) (by omega) hr s hs
  obtain ⟨y, hy⟩ : ∃ y, y = b.getD 0 0 - 192 := ⟨_, rfl⟩
  rw [← hy] at hwv hbd
  have hxy : b.getD 0 0 = y + 192 := by omega
  rw [hxy] at hc0 x0 x1
  have HWV := Lib.hid hwv
  have HBD := Lib.hid hbd
  have HL := Lib.hid hl
  have hwy : y + 192 - 192 = y := by omega
  rw [hl] at *
  clear hc hb hr hy hxy hwv hbd
  have hbl : ∀ o1 nq, Below w.heap.size w ((w.alloc o1).drewN nq) := fun o1 nq => ((Below.refl _ _).alloc (Nat.le_refl _) o1).drewN nq
  have HBL := Lib.hid hbl
  clear hbl
  go_enter Try.func128, Try.ntmps128
  go_wp2
  go_quiet (fail)
  have hw0 := HBL.out (.cells #[.int .i64 0, .int .i64 0, .int .i64 192, .int .i64 224, .int .i64 240] 3) nq
  go_wp2
  obtain ⟨W, hW⟩ : ∃ W, W = (w.alloc (.cells #[.int .i64 0, .int .i64 0, .int .i64 192, .int .i64 224, .int .i64 240] 3)).drewN nq := ⟨_, rfl⟩
  rw [← hW] at hw0 ⊢
  clear hW hc0
  go_loopw [4, 5] (fun vv i wr => ∃ s : Nat, s ≤ 1 ∧ i = .int .i64 ((s : Int) + 1) ∧ vv = .int .i64 (whF b y s) ∧ Below w.heap.size w wr) (fun _ i _ => 2 - (intOf i).toNat)
  case atStart => exact ⟨0, Nat.zero_le _, rfl, rfl, hw0⟩
  case round =>
    obtain ⟨s, hs, rfl, rfl, hbw⟩ := hrel
    obtain ⟨l1, l2⟩ := HBD.out s (by omega)
    have l4 := pow65 (s := s) (by omega)
    have l5 : -82387500 ≤ whF b y s ∧ whF b y s ≤ 82387500 := by omega
    clear l1 l2 l4
    by_cases hlt : s < 1
    · obtain ⟨b2, o2, e2, _, hcx⟩ := HC.out (s + 1) (by omega)
      cases e2
      have hcx := (hbw.cell (p := ⟨bb, off + (s + 1), none⟩) hbb).trans hcx
      obtain ⟨z0, z1⟩ := HR.out (s + 1) (by omega)
      have HST := Lib.hid (show whF b y (s + 1) = whF b y s * 64 + b.getD (s + 1) 0 - 128 from rfl)
      generalize b.getD (s + 1) 0 = z at *
      generalize whF b y s = u at *
      go_wp2
      go_roundw
      case rel => exact ⟨s + 1, by omega, by go_num, by rw [HST.out], hbw⟩
      case measure => simp [intOf] <;> omega
    · obtain rfl : s = 1 := by omega
      generalize whF b y 1 = u at *
      go_wp2
      go_ret
      exact ⟨ret_eq (by rw [HWV.out]; simp), hbw⟩
set_option maxRecDepth 100000 in
set_option maxHeartbeats 1000000 in
theorem whole3_any (v : Value) (b : List Int) (w : World) (hb : Held .u8 w v b) (hl : b.length = 3) (hr : ∀ i, i < b.length → 0 ≤ b.getD i 0 ∧ b.getD i 0 ≤ 255) :
    Calls Try.prog 128 #[v] w (Gives w (.int .i32 (wholeV b))) := by
  obtain ⟨ao, ca, rfl, hc⟩ := hb.view
  have HC := Lib.hid hc
  have HR := Lib.hid hr
  obtain ⟨bb, off, rfl, hbb, hc0⟩ := HC.out 0 (by omega)
  simp only [Nat.add_zero] at hc0
  obtain ⟨x0, x1⟩ := HR.out 0 (by omega)
  have hwv : wholeV b = whF b (b.getD 0 0 - 224) 2 := by unfold wholeV; rw [hl]; rfl
  have hbd := fun s hs => wh_bd b (b.getD 0 0 - 224) (by omega) (by omega) hr s hs
  obtain ⟨y, hy⟩ : ∃ y, y = b.getD 0 0 - 224 := ⟨_, rfl⟩
  rw [← hy] at hwv hbd
  have hxy : b.getD 0 0 = y + 224 := by omega
  rw [hxy] at hc0 x0 x1
  have HWV := Lib.hid hwv
  have HBD := Lib.hid hbd
  have HL := Lib.hid hl
  have hwy : y + 224 - 224 = y := by omega
  rw [hl] at *
  clear hc hb hr hy hxy hwv hbd
  have hbl : ∀ o1 nq, Below w.heap.size w ((w.alloc o1).drewN nq) := fun o1 nq => ((Below.refl _ _).alloc (Nat.le_refl _) o1).drewN nq
  have HBL := Lib.hid hbl
  clear hbl
  go_enter Try.func128, Try.ntmps128
  go_wp2
  go_quiet (fail)
  have hw0 := HBL.out (.cells #[.int .i64 0, .int .i64 0, .int .i64 192, .int .i64 224, .int .i64 240] 3) nq
  go_wp2
  obtain ⟨W, hW⟩ : ∃ W, W = (w.alloc (.cells #[.int .i64 0, .int .i64 0, .int .i64 192, .int .i64 224, .int .i64 240] 3)).drewN nq := ⟨_, rfl⟩
  rw [← hW] at hw0 ⊢
  clear hW hc0
  go_loopw [4, 5] (fun vv i wr => ∃ s : Nat, s ≤ 2 ∧ i = .int .i64 ((s : Int) + 1) ∧ vv = .int .i64 (whF b y s) ∧ Below w.heap.size w wr) (fun _ i _ => 3 - (intOf i).toNat)
  case atStart => exact ⟨0, Nat.zero_le _, rfl, rfl, hw0⟩
  case round =>
    obtain ⟨s, hs, rfl, rfl, hbw⟩ := hrel
    obtain ⟨l1, l2⟩ := HBD.out s (by omega)
    have l4 := pow65 (s := s) (by omega)
    have l5 : -82387500 ≤ whF b y s ∧ whF b y s ≤ 82387500 := by omega
    clear l1 l2 l4
    by_cases hlt : s < 2
    · obtain ⟨b2, o2, e2, _, hcx⟩ := HC.out (s + 1) (by omega)
      cases e2
      have hcx := (hbw.cell (p := ⟨bb, off + (s + 1), none⟩) hbb).trans hcx
      obtain ⟨z0, z1⟩ := HR.out (s + 1) (by omega)
      have HST := Lib.hid (show whF b y (s + 1) = whF b y s * 64 + b.getD (s + 1) 0 - 128 from rfl)
      generalize b.getD (s + 1) 0 = z at *
      generalize whF b y s = u at *
      go_wp2
      go_roundw
      case rel => exact ⟨s + 1, by omega, by go_num, by rw [HST.out], hbw⟩
      case measure => simp [intOf] <;> omega
    · obtain rfl : s = 2 := by omega
      generalize whF b y 2 = u at *
      go_wp2
      go_ret
      exact ⟨ret_eq (by rw [HWV.out]; simp), hbw⟩
set_option maxRecDepth 100000 in
set_option maxHeartbeats 1000000 in
theorem whole4_any (v : Value) (b : List Int) (w : World) (hb : Held .u8 w v b) (hl : b.length = 4) (hr : ∀ i, i < b.length → 0 ≤ b.getD i 0 ∧ b.getD i 0 ≤ 255) :
    Calls Try.prog 128 #[v] w (Gives w (.int .i32 (wholeV b))) := by
  obtain ⟨ao, ca, rfl, hc⟩ := hb.view
  have HC := Lib.hid hc
  have HR := Lib.hid hr
  obtain ⟨bb, off, rfl, hbb, hc0⟩ := HC.out 0 (by omega)
  simp only [Nat.add_zero] at hc0
  obtain ⟨x0, x1⟩ := HR.out 0 (by omega)
  have hwv : wholeV b = whF b (b.getD 0 0 - 240) 3 := by unfold wholeV; rw [hl]; rfl
  have hbd := fun s hs => wh_bd b (b.getD 0 0 - 240) (by omega) (by omega) hr s hs
  obtain ⟨y, hy⟩ : ∃ y, y = b.getD 0 0 - 240 := ⟨_, rfl⟩
  rw [← hy] at hwv hbd
  have hxy : b.getD 0 0 = y + 240 := by omega
  rw [hxy] at hc0 x0 x1
  have HWV := Lib.hid hwv
  have HBD := Lib.hid hbd
  have HL := Lib.hid hl
  have hwy : y + 240 - 240 = y := by omega
  rw [hl] at *
  clear hc hb hr hy hxy hwv hbd
  have hbl : ∀ o1 nq, Below w.heap.size w ((w.alloc o1).drewN nq) := fun o1 nq => ((Below.refl _ _).alloc (Nat.le_refl _) o1).drewN nq
  have HBL := Lib.hid hbl
  clear hbl
  go_enter Try.func128, Try.ntmps128
  go_wp2
  go_quiet (fail)
  have hw0 := HBL.out (.cells #[.int .i64 0, .int .i64 0, .int .i64 192, .int .i64 224, .int .i64 240] 3) nq
  go_wp2
  obtain ⟨W, hW⟩ : ∃ W, W = (w.alloc (.cells #[.int .i64 0, .int .i64 0, .int .i64 192, .int .i64 224, .int .i64 240] 3)).drewN nq := ⟨_, rfl⟩
  rw [← hW] at hw0 ⊢
  clear hW hc0
  go_loopw [4, 5] (fun vv i wr => ∃ s : Nat, s ≤ 3 ∧ i = .int .i64 ((s : Int) + 1) ∧ vv = .int .i64 (whF b y s) ∧ Below w.heap.size w wr) (fun _ i _ => 4 - (intOf i).toNat)
  case atStart => exact ⟨0, Nat.zero_le _, rfl, rfl, hw0⟩
  case round =>
    obtain ⟨s, hs, rfl, rfl, hbw⟩ := hrel
    obtain ⟨l1, l2⟩ := HBD.out s (by omega)
    have l4 := pow65 (s := s) (by omega)
    have l5 : -82387500 ≤ whF b y s ∧ whF b y s ≤ 82387500 := by omega
    clear l1 l2 l4
    by_cases hlt : s < 3
    · obtain ⟨b2, o2, e2, _, hcx⟩ := HC.out (s + 1) (by omega)
      cases e2
      have hcx := (hbw.cell (p := ⟨bb, off + (s + 1), none⟩) hbb).trans hcx
      obtain ⟨z0, z1⟩ := HR.out (s + 1) (by omega)
      have HST := Lib.hid (show whF b y (s + 1) = whF b y s * 64 + b.getD (s + 1) 0 - 128 from rfl)
      generalize b.getD (s + 1) 0 = z at *
      generalize whF b y s = u at *
      go_wp2
      go_roundw
      case rel => exact ⟨s + 1, by omega, by go_num, by rw [HST.out], hbw⟩
      case measure => simp [intOf] <;> omega
    · obtain rfl : s = 3 := by omega
      generalize whF b y 3 = u at *
      go_wp2
      go_ret
      exact ⟨ret_eq (by rw [HWV.out]; simp), hbw⟩
theorem wholeK_any (v : Value) (b : List Int) (w : World) (hb : Held .u8 w v b) (h1 : 1 ≤ b.length) (h4 : b.length ≤ 4) (hr : ∀ i, i < b.length → 0 ≤ b.getD i 0 ∧ b.getD i 0 ≤ 255) :
    Calls Try.prog 128 #[v] w (Gives w (.int .i32 (wholeV b))) := by
  rcases (by omega : b.length = 1 ∨ b.length = 2 ∨ b.length = 3 ∨ b.length = 4) with h | h | h | h
  · exact whole1_any v b w hb h hr
  · exact whole2_any v b w hb h hr
  · exact whole3_any v b w hb h hr
  · exact whole4_any v b w hb h hr
end Go.Proofs.Ytgoeacmpphmnoaa
