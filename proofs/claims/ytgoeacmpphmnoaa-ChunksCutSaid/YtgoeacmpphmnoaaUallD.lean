/- Contracts of utfall: value, part. -/
import Derived.Test.YtgoeacmpphmnoaaUallC
namespace Go.Proofs.Ytgoeacmpphmnoaa
open Go.RowKit Go.ChangeShapes Go.WideShapes
def CapOk (v : Value) : Prop := ∀ ao n c, v = .slice ao n c → n ≤ c
def valF (xs : List Int) : Nat → Int
  | 0 => bitsI (xs.getD 0 0)
  | m + 1 => valF xs m * 64 + xs.getD (m + 1) 0 % 64
theorem bits_bd (x : Int) (x0 : 0 ≤ x) (x1 : x ≤ 255) : 0 ≤ bitsI x ∧ bitsI x ≤ 127 := by
  unfold bitsI leadI; omega
theorem valF_bd (xs : List Int) (h0 : 0 ≤ xs.getD 0 0 ∧ xs.getD 0 0 ≤ 255) (m : Nat) (hm : m ≤ 3) : 0 ≤ valF xs m ∧ valF xs m < 128 * 64 ^ m := by
  have := bits_bd _ h0.1 h0.2
  match m, hm with
  | 0, _ => show 0 ≤ bitsI _ ∧ bitsI _ < 128 * 64 ^ 0; omega
  | 1, _ => show 0 ≤ bitsI _ * 64 + _ % 64 ∧ bitsI _ * 64 + _ % 64 < 128 * 64 ^ 1; omega
  | 2, _ => show 0 ≤ (bitsI _ * 64 + _ % 64) * 64 + _ % 64 ∧ (bitsI _ * 64 + _ % 64) * 64 + _ % 64 < 128 * 64 ^ 2; omega
  | 3, _ => show 0 ≤ ((bitsI _ * 64 + _ % 64) * 64 + _ % 64) * 64 + _ % 64 ∧ ((bitsI _ * 64 + _ % 64) * 64 + _ % 64) * 64 + _ % 64 < 128 * 64 ^ 3; omega
set_option maxRecDepth 100000 in
set_option maxHeartbeats 1000000 in
theorem value_any (v : Value) (xs : List Int) (w : World) (hv : Held .u8 w v xs) (hcp : CapOk v) (h0 : 0 < xs.length) (hl : xs.length ≤ 4) (hr : ∀ i, i < xs.length → 0 ≤ xs.getD i 0 ∧ xs.getD i 0 ≤ 255) :
    Calls Try.prog 126 #[v] w fun e w' => e = .returned (.int .i32 (valF xs (xs.length - 1))) ∧ w = w' := by
  obtain ⟨ao, cap, rfl, hc⟩ := hv.view
  have hcap : xs.length ≤ cap := hcp _ _ _ rfl
  obtain ⟨b, off, rfl, hb, hcx⟩ := hc 0 h0
  obtain ⟨r0, r1⟩ := hr 0 h0
  have HC := Lib.hid hc
  have HR := Lib.hid hr
  obtain ⟨n, hn⟩ : ∃ n, xs.length = n + 1 := ⟨xs.length - 1, by omega⟩
  obtain ⟨x, hx⟩ : ∃ x, x = xs.getD 0 0 := ⟨_, rfl⟩
  rw [← hx] at hcx r0 r1
  rw [Nat.add_zero] at hcx
  have HX := Lib.hid hx
  have HN := Lib.hid hn
  have hn1 : xs.length - 1 = n := by omega
  rw [hn1, hn]
  clear hv hcp hc hr hx hn1
  go_enter Try.func126, Try.ntmps126
  go_wp2_with fail
  refine (bits_any x _ r0 r1).mono ?_
  rintro e w' ⟨rfl, rfl⟩
  have hbd := bits_bd x r0 r1
  have hv0 : bitsI x = valF xs 0 := by rw [HX.out]; rfl
  rw [hv0] at hbd ⊢
  clear hv0
  have hv3 := fun m (hm : m ≤ 3) => valF_bd xs (HX.out ▸ ⟨r0, r1⟩) m hm
  have HV3 := Lib.hid hv3
  clear hv3
  have q1 : ¬ ((cap : Int) < (n : Int) + 1) := by omega
  have q2 : ¬ (cap < n + 1) := by omega
  by_cases hn0 : n = 0
  · subst hn0
    by_cases hc1 : cap = 1
    · subst hc1
      go_wp2
      go_loopw [3, 14] (fun r i wr => r = .int .i32 (valF xs 0) ∧ i = .int .i64 0 ∧ wr = w) (fun _ _ _ => 0)
      case atStart => exact ⟨rfl, rfl, rfl⟩
      case round =>
        obtain ⟨rfl, rfl, rfl⟩ := hrel
        go_wp2
        go_ret
        exact ⟨rfl, rfl⟩
    · go_wp2
      go_loopw [3, 14] (fun r i wr => r = .int .i32 (valF xs 0) ∧ i = .int .i64 0 ∧ wr = w) (fun _ _ _ => 0)
      case atStart => exact ⟨rfl, rfl, rfl⟩
      case round =>
        obtain ⟨rfl, rfl, rfl⟩ := hrel
        go_wp2
        go_ret
        exact ⟨rfl, rfl⟩
  · have hc1 : ¬ (cap = 1) := by omega
    go_wp2
    go_loopw [3, 14] (fun r i wr => ∃ m : Nat, m ≤ n ∧ r = .int .i32 (valF xs m) ∧ i = .int .i64 m ∧ wr = w) (fun _ i _ => n - (intOf i).toNat)
    case atStart => exact ⟨0, Nat.zero_le _, rfl, rfl, rfl⟩
    case round =>
      obtain ⟨m, hm, rfl, rfl, rfl⟩ := hrel
      by_cases hlt : m < n
      · obtain ⟨b', off', hbo, hb', hcm⟩ := HC.out (m + 1) (by have := HN.out; omega)
        cases hbo
        rw [show off + (m + 1) = off + 1 + m by omega] at hcm
        obtain ⟨y0, y1⟩ := HR.out (m + 1) (by have := HN.out; omega)
        have hs : valF xs (m + 1) = valF xs m * 64 + xs.getD (m + 1) 0 % 64 := rfl
        have hvb : 0 ≤ valF xs m ∧ valF xs m < 524288 := by
          obtain ⟨a0, a1⟩ := HV3.out m (by omega)
          refine ⟨a0, Int.lt_of_lt_of_le a1 ?_⟩
          have hm2 : m ≤ 2 := by omega
          match m, hm2 with
          | 0, _ => decide
          | 1, _ => decide
          | 2, _ => decide
        obtain ⟨y, hy⟩ : ∃ y, y = xs.getD (m + 1) 0 := ⟨_, rfl⟩
        rw [← hy] at hcm y0 y1 hs
        obtain ⟨a, ha⟩ : ∃ a, a = valF xs m := ⟨_, rfl⟩
        rw [← ha] at hvb hs ⊢
        have HS := Lib.hid hs
        obtain ⟨a0, a1⟩ := hvb
        have e1 := u8_and63 y y0 y1
        have e2 := i32_join (a * 64) (y % 64) (by omega) (by omega) (by omega) (by omega) (by omega)
        clear hy ha hs
        go_wp2
        go_roundw
        case rel => exact ⟨m + 1, by omega, by rw [HS.out], by go_num, trivial⟩
        case measure => simp [intOf] <;> omega
      · have hmn : m = n := by omega
        subst hmn
        go_wp2
        go_ret
        exact ⟨rfl, rfl⟩
end Go.Proofs.Ytgoeacmpphmnoaa
