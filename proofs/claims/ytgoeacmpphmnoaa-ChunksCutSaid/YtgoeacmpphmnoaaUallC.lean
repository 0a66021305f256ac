/- Contracts of utfall's parts. -/
import Derived.Test.YtgoeacmpphmnoaaOctK
import Derived.Test.YtgoeacmpphmnoaaAid
namespace Go.Proofs.Ytgoeacmpphmnoaa
open Go.RowKit Go.ChangeShapes Go.WideShapes
def okB (xs : List Int) (m : Nat) : Bool := (m != 1 || (decide (lo2 (xs.getD 0 0) ≤ xs.getD m 0) && decide (xs.getD m 0 ≤ hi2 (xs.getD 0 0)))) && tailB (xs.getD m 0)
def goF (xs : List Int) (lead : Int) : Nat → Nat → Nat
  | 0, m => m
  | f + 1, m => if (m : Int) < lead ∧ m < xs.length ∧ okB xs m = true then goF xs lead f (m + 1) else m
def begN (xs : List Int) (lead : Int) : Nat := goF xs lead 4 1
theorem goF_stop (xs : List Int) (lead : Int) (f m : Nat) (h : ¬ ((m : Int) < lead ∧ m < xs.length ∧ okB xs m = true)) : goF xs lead f m = m := by
  cases f with
  | zero => rfl
  | succ f => unfold goF; rw [if_neg h]
theorem goF_on (xs : List Int) (lead : Int) (f m : Nat) (hf : 0 < f) (h : (m : Int) < lead ∧ m < xs.length ∧ okB xs m = true) : goF xs lead f m = goF xs lead (f - 1) (m + 1) := by
  cases f with
  | zero => omega
  | succ f => show goF xs lead (f + 1) m = _; rw [goF, if_pos h]; rfl
theorem goF_le (xs : List Int) (lead : Int) (f m : Nat) (h0 : m ≤ xs.length) (h1 : (m : Int) ≤ lead ∨ m ≤ 1) : m ≤ goF xs lead f m ∧ goF xs lead f m ≤ xs.length ∧ ((goF xs lead f m : Int) ≤ lead ∨ goF xs lead f m ≤ 1) := by
  induction f generalizing m with
  | zero => exact ⟨Nat.le_refl _, h0, h1⟩
  | succ f ih =>
    unfold goF
    split
    · rename_i h
      have := ih (m + 1) (by omega) (.inl (by omega))
      omega
    · exact ⟨Nat.le_refl _, h0, h1⟩
theorem begN_le (xs : List Int) (lead : Int) (h : 0 < xs.length) : 1 ≤ begN xs lead ∧ begN xs lead ≤ xs.length ∧ ((begN xs lead : Int) ≤ lead ∨ begN xs lead ≤ 1) := goF_le xs lead 4 1 h (.inr (by omega))
set_option maxRecDepth 100000 in
set_option maxHeartbeats 1000000 in
theorem begun_any (v : Value) (xs : List Int) (lead : Int) (w : World) (hv : Held .u8 w v xs) (h0 : 0 < xs.length) (hl : lead ≤ 4) (hr : ∀ i, i < xs.length → 0 ≤ xs.getD i 0 ∧ xs.getD i 0 ≤ 255) :
    Calls Try.prog 125 #[v, .int .i64 lead] w fun e w' => e = .returned (.int .i64 (begN xs lead)) ∧ w = w' := by
  obtain ⟨ao, cap, rfl, hc⟩ := hv.view
  obtain ⟨b, off, rfl, hb, hcx⟩ := hc 0 h0
  obtain ⟨r0, r1⟩ := hr 0 h0
  have HC := Lib.hid hc
  have HR := Lib.hid hr
  have hk : ∀ m, okB xs m = ((m != 1 || (decide (lo2 (xs.getD 0 0) ≤ xs.getD m 0) && decide (xs.getD m 0 ≤ hi2 (xs.getD 0 0)))) && tailB (xs.getD m 0)) := fun _ => rfl
  obtain ⟨x, hx⟩ : ∃ x, x = xs.getD 0 0 := ⟨_, rfl⟩
  rw [← hx] at hcx r0 r1 hk
  have HK := Lib.hid hk
  clear hv hc hr hx hk
  rw [Nat.add_zero] at hcx
  go_enter Try.func125, Try.ntmps125
  go_wp2_with fail
  refine (second_any x _ r0 r1).mono ?_
  rintro e w' ⟨rfl, rfl⟩
  obtain ⟨lo, hlo⟩ : ∃ y, y = lo2 x := ⟨_, rfl⟩
  obtain ⟨hi, hhi⟩ : ∃ y, y = hi2 x := ⟨_, rfl⟩
  rw [← hlo, ← hhi] at HK ⊢
  clear hlo hhi hcx
  go_wp2
  go_loopw [7] (fun n wr => ∃ m f : Nat, n = .int .i64 m ∧ 1 ≤ m ∧ m ≤ xs.length ∧ lead - m ≤ f ∧ Go.RowKit.Hid (goF xs lead f m = begN xs lead) ∧ wr = w) (fun n _ => xs.length - (intOf n).toNat)
  case atStart => exact ⟨1, 4, rfl, Nat.le_refl _, h0, by omega, Lib.hid rfl, rfl⟩
  case round =>
    obtain ⟨m, f, rfl, h1, hm, hf, HG, rfl⟩ := hrel
    by_cases c1 : (m : Int) < lead
    · have c1' := decide_eq_true c1
      by_cases c2 : m < xs.length
      · have c2' : decide ((m : Int) < (xs.length : Int)) = true := decide_eq_true (by omega)
        obtain ⟨b', off', hbo, hb', hcm⟩ := HC.out m c2
        cases hbo
        obtain ⟨y0, y1⟩ := HR.out m c2
        have hko := HK.out m
        obtain ⟨y, hy⟩ : ∃ y, y = xs.getD m 0 := ⟨_, rfl⟩
        rw [← hy] at hcm y0 y1 hko
        have HKO := Lib.hid hko
        clear hy hko
        have hstop : okB xs m = false → begN xs lead = m := fun h => by rw [← HG.out]; exact goF_stop _ _ _ _ (fun hh => by rw [h] at hh; exact absurd hh.2.2 (by decide))
        have hgo : okB xs m = true → 0 < f ∧ goF xs lead (f - 1) (m + 1) = begN xs lead := fun h => ⟨by omega, by rw [← HG.out]; exact (goF_on xs lead f m (by omega) ⟨c1, c2, h⟩).symm⟩
        have HSTOP := Lib.hid hstop
        have HGO := Lib.hid hgo
        clear hstop hgo
        have hcut : (okB xs m = false ∧ (∃ q : Bool, ((m : Int) == 1) = q ∧ ((q = true ∧ decide (y < lo) = true) ∨ (q = true ∧ decide (y < lo) = false ∧ decide (hi < y) = true) ∨ (q = true ∧ decide (y < lo) = false ∧ decide (hi < y) = false ∧ tailB y = false) ∨ (q = false ∧ tailB y = false))))
            ∨ (okB xs m = true ∧ (∃ q : Bool, ((m : Int) == 1) = q ∧ ((q = true ∧ decide (y < lo) = false ∧ decide (hi < y) = false ∧ tailB y = true) ∨ (q = false ∧ tailB y = true)))) := by
          rw [HKO.out]
          by_cases hm1 : m = 1
          · have t1 : ((m : Int) == 1) = true := by simp; omega
            have t2 : (m != 1) = false := by simp [hm1]
            rw [t1, t2]
            by_cases a1 : y < lo
            · exact .inl ⟨by simp [show ¬ lo ≤ y by omega], true, rfl, .inl ⟨rfl, decide_eq_true a1⟩⟩
            · by_cases a2 : hi < y
              · exact .inl ⟨by simp [show ¬ y ≤ hi by omega], true, rfl, .inr (.inl ⟨rfl, decide_eq_false a1, decide_eq_true a2⟩)⟩
              · cases ht : tailB y with
                | false => exact .inl ⟨by simp, true, rfl, .inr (.inr (.inl ⟨rfl, decide_eq_false a1, decide_eq_false a2, rfl⟩))⟩
                | true => exact .inr ⟨by simp [show lo ≤ y by omega, show y ≤ hi by omega], true, rfl, .inl ⟨rfl, decide_eq_false a1, decide_eq_false a2, rfl⟩⟩
          · have t1 : ((m : Int) == 1) = false := by simp; omega
            have t2 : (m != 1) = true := by simp [hm1]
            rw [t1, t2]
            cases ht : tailB y with
            | false => exact .inl ⟨by simp, false, rfl, .inr (.inr (.inr ⟨rfl, rfl⟩))⟩
            | true => exact .inr ⟨by simp, false, rfl, .inr ⟨rfl, rfl⟩⟩
        clear HKO HK
        rcases hcut with ⟨hok, q, t1, hq⟩ | ⟨hok, q, t1, hq⟩
        · have he := HSTOP.out hok
          have HE := Lib.hid he
          clear hok he HSTOP HGO
          rcases hq with ⟨rfl, d1⟩ | ⟨rfl, d1, d2⟩ | ⟨rfl, d1, d2, d3⟩ | ⟨rfl, d3⟩
          · go_wp2
            go_ret
            exact ⟨by rw [HE.out]; try rfl, rfl⟩
          · go_wp2
            go_ret
            exact ⟨by rw [HE.out]; try rfl, rfl⟩
          · have D3 := Lib.hid d3
            clear d3
            go_wp2_with fail
            refine (tail_any y _ y0 y1).mono ?_
            rintro e w' ⟨rfl, rfl⟩
            rw [D3.out]
            go_wp2
            go_ret
            exact ⟨by rw [HE.out]; try rfl, rfl⟩
          · have D3 := Lib.hid d3
            clear d3
            go_wp2_with fail
            refine (tail_any y _ y0 y1).mono ?_
            rintro e w' ⟨rfl, rfl⟩
            rw [D3.out]
            go_wp2
            go_ret
            exact ⟨by rw [HE.out]; try rfl, rfl⟩
        · obtain ⟨hf0, hg1⟩ := HGO.out hok
          have HG1 := Lib.hid hg1
          clear hok HSTOP HGO hg1
          rcases hq with ⟨rfl, d1, d2, d3⟩ | ⟨rfl, d3⟩
          · have D3 := Lib.hid d3
            clear d3
            go_wp2_with fail
            refine (tail_any y _ y0 y1).mono ?_
            rintro e w' ⟨rfl, rfl⟩
            rw [D3.out]
            go_wp2
            go_roundw
            case rel => exact ⟨m + 1, f - 1, by go_num, by omega, by have := of_decide_eq_true c2'; omega, by omega, HG1, trivial⟩
            case measure => have := of_decide_eq_true c2'; simp [intOf]; omega
          · have D3 := Lib.hid d3
            clear d3
            go_wp2_with fail
            refine (tail_any y _ y0 y1).mono ?_
            rintro e w' ⟨rfl, rfl⟩
            rw [D3.out]
            go_wp2
            go_roundw
            case rel => exact ⟨m + 1, f - 1, by go_num, by omega, by have := of_decide_eq_true c2'; omega, by omega, HG1, trivial⟩
            case measure => have := of_decide_eq_true c2'; simp [intOf]; omega
      · have c2' : decide ((m : Int) < (xs.length : Int)) = false := decide_eq_false (by omega)
        have he : begN xs lead = m := by rw [← HG.out]; exact goF_stop _ _ _ _ (fun hh => c2 hh.2.1)
        have HE := Lib.hid he
        clear he
        go_wp2
        go_ret
        exact ⟨by rw [HE.out]; try rfl, rfl⟩
    · have c1' := decide_eq_false c1
      have he : begN xs lead = m := by rw [← HG.out]; exact goF_stop _ _ _ _ (fun hh => c1 hh.1)
      have HE := Lib.hid he
      clear he
      go_wp2
      go_ret
      exact ⟨by rw [HE.out]; try rfl, rfl⟩
end Go.Proofs.Ytgoeacmpphmnoaa
