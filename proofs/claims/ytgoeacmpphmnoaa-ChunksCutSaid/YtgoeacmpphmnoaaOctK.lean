/- Contracts of octet's functions and of the reference's. -/
import Derived.Test.YtgoeacmpphmnoaaProg
import Derived.Test.YtgoeacmpphmnoaaAid
import Derived.OpenShut
namespace Go.Proofs.Ytgoeacmpphmnoaa
open Go.RowKit Go.ChangeShapes Go.WideShapes
def leadI (b : Int) : Int := if b ≤ 127 then 1 else if b < 194 then 0 else if b ≤ 223 then 2 else if b ≤ 239 then 3 else if b ≤ 244 then 4 else 0
theorem lead_cases (b : Int) : (b ≤ 127 ∧ leadI b = 1) ∨ (127 < b ∧ b < 194 ∧ leadI b = 0) ∨ (194 ≤ b ∧ b ≤ 223 ∧ leadI b = 2) ∨ (224 ≤ b ∧ b ≤ 239 ∧ leadI b = 3) ∨ (240 ≤ b ∧ b ≤ 244 ∧ leadI b = 4) ∨ (244 < b ∧ leadI b = 0) := by
  unfold leadI; omega
theorem lead_any (b : Int) (w : World) (h0 : 0 ≤ b) (h1 : b ≤ 255) : Calls Try.prog 71 #[.int .u8 b] w fun e w' => e = .returned (.int .i64 (leadI b)) ∧ w = w' := by
  rcases lead_cases b with ⟨h2, hs⟩ | ⟨h2, h3, hs⟩ | ⟨h2, h3, hs⟩ | ⟨h2, h3, hs⟩ | ⟨h2, h3, hs⟩ | ⟨h2, hs⟩
  all_goals
    rw [hs]; clear hs
    go_enter Try.func71, Try.ntmps71
    go_wp2
    go_ret
    exact ⟨rfl, rfl⟩
def tailB (b : Int) : Bool := decide (128 ≤ b) && decide (b ≤ 191)
theorem tailB_true {b : Int} : tailB b = true ↔ 128 ≤ b ∧ b ≤ 191 := by unfold tailB; simp
theorem tail_any (b : Int) (w : World) (h0 : 0 ≤ b) (h1 : b ≤ 255) : Calls Try.prog 146 #[.int .u8 b] w fun e w' => e = .returned (.bool (tailB b)) ∧ w = w' := by
  have hv : (b < 128 ∧ tailB b = false) ∨ (128 ≤ b ∧ b ≤ 191 ∧ tailB b = true) ∨ (191 < b ∧ tailB b = false) := by unfold tailB; simp; omega
  rcases hv with ⟨h2, hs⟩ | ⟨h2, h3, hs⟩ | ⟨h2, hs⟩
  all_goals
    rw [hs]; clear hs
    go_enter Try.func146, Try.ntmps146
    go_wp2
    go_ret
    exact ⟨ret_eq (by first | rfl | (simp; omega)), rfl⟩
theorem tail_yes (b : Int) (w : World) (h0 : 128 ≤ b) (h1 : b ≤ 191) : Calls Try.prog 146 #[.int .u8 b] w fun e w' => e = .returned (.bool true) ∧ w = w' := by
  have := tail_any b w (by omega) (by omega)
  rwa [tailB_true.2 ⟨h0, h1⟩] at this
theorem tail_no (b : Int) (w : World) (h0 : 0 ≤ b) (h1 : b ≤ 255) (h : b < 128 ∨ 191 < b) : Calls Try.prog 146 #[.int .u8 b] w fun e w' => e = .returned (.bool false) ∧ w = w' := by
  have := tail_any b w h0 h1
  rwa [show tailB b = false from by unfold tailB; simp; omega] at this
def bitsI (b : Int) : Int := if leadI b = 1 then b else if leadI b = 2 then b % 32 else if leadI b = 3 then b % 16 else if leadI b = 4 then b % 8 else 0
theorem bits_any (b : Int) (w : World) (h0 : 0 ≤ b) (h1 : b ≤ 255) : Calls Try.prog 147 #[.int .u8 b] w fun e w' => e = .returned (.int .i64 (bitsI b)) ∧ w = w' := by
  rcases lead_cases b with ⟨h2, hs⟩ | ⟨h2, h3, hs⟩ | ⟨h2, h3, hs⟩ | ⟨h2, h3, hs⟩ | ⟨h2, h3, hs⟩ | ⟨h2, hs⟩
  all_goals
    have hb : bitsI b = bitsI b := rfl
    conv at hb => rhs; unfold bitsI; rw [hs]
    simp at hb
    rw [hb]; clear hb
    have HS := Lib.hid hs
    clear hs
    go_enter Try.func147, Try.ntmps147
    go_wp2_with fail
    refine (lead_any b _ h0 h1).mono ?_
    rintro e w' ⟨rfl, rfl⟩
    rw [HS.out]
    go_wp2
    go_ret
    exact ⟨rfl, rfl⟩
def lo2 (b : Int) : Int := if leadI b < 2 then 0 else if b = 224 then 160 else if b = 240 then 144 else 128
def hi2 (b : Int) : Int := if leadI b < 2 then 0 else if b = 244 then 143 else if b = 237 then 159 else 191
theorem lowest_any (b : Int) (w : World) (h0 : 0 ≤ b) (h1 : b ≤ 255) (hl : 2 ≤ leadI b) : Calls Try.prog 164 #[.int .u8 b] w fun e w' => e = .returned (.int .u8 (lo2 b)) ∧ w = w' := by
  have hv : (b = 224 ∧ lo2 b = 160) ∨ (b = 240 ∧ lo2 b = 144) ∨ (b ≠ 224 ∧ b ≠ 240 ∧ lo2 b = 128) := by unfold lo2; omega
  clear hl
  rcases hv with ⟨rfl, hs⟩ | ⟨rfl, hs⟩ | ⟨h2, h3, hs⟩
  all_goals
    rw [hs]; clear hs
    go_enter Try.func164, Try.ntmps164
    go_wp2
    go_ret
    exact ⟨rfl, rfl⟩
theorem highest_any (b : Int) (w : World) (h0 : 0 ≤ b) (h1 : b ≤ 255) (hl : 2 ≤ leadI b) : Calls Try.prog 165 #[.int .u8 b] w fun e w' => e = .returned (.int .u8 (hi2 b)) ∧ w = w' := by
  have hv : (b = 244 ∧ hi2 b = 143) ∨ (b = 237 ∧ hi2 b = 159) ∨ (b ≠ 244 ∧ b ≠ 237 ∧ hi2 b = 191) := by unfold hi2; omega
  clear hl
  rcases hv with ⟨rfl, hs⟩ | ⟨rfl, hs⟩ | ⟨h2, h3, hs⟩
  all_goals
    rw [hs]; clear hs
    go_enter Try.func165, Try.ntmps165
    go_wp2
    go_ret
    exact ⟨rfl, rfl⟩
theorem second_any (b : Int) (w : World) (h0 : 0 ≤ b) (h1 : b ≤ 255) : Calls Try.prog 145 #[.int .u8 b] w fun e w' => e = .returned (.tuple #[.int .u8 (lo2 b), .int .u8 (hi2 b)]) ∧ w = w' := by
  by_cases hl : 2 ≤ leadI b
  · have H := Lib.hid hl
    go_enter Try.func145, Try.ntmps145
    go_wp2_with fail
    refine (lead_any b _ h0 h1).mono ?_
    rintro e w' ⟨rfl, rfl⟩
    go_wp2_with fail
    refine (lowest_any b _ h0 h1 H.out).mono ?_
    rintro e w' ⟨rfl, rfl⟩
    go_wp2_with fail
    refine (highest_any b _ h0 h1 H.out).mono ?_
    rintro e w' ⟨rfl, rfl⟩
    go_wp2
    go_ret2
    exact ⟨rfl, rfl⟩
  · have e1 : lo2 b = 0 := by unfold lo2; omega
    have e2 : hi2 b = 0 := by unfold hi2; omega
    rw [e1, e2]; clear e1 e2
    go_enter Try.func145, Try.ntmps145
    go_wp2_with fail
    refine (lead_any b _ h0 h1).mono ?_
    rintro e w' ⟨rfl, rfl⟩
    go_wp2
    go_ret2
    exact ⟨rfl, rfl⟩
end Go.Proofs.Ytgoeacmpphmnoaa
