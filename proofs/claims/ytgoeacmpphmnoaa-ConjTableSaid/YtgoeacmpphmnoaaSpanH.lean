/- Contracts of spans: Fewest. -/
import Derived.Test.YtgoeacmpphmnoaaSpanG
namespace Go.Proofs.Ytgoeacmpphmnoaa
open Go.RowKit Go.ChangeShapes Go.WideShapes
def fewN (T : List Sp) : Nat → List Sp
  | 0 => []
  | k + 1 => putS (fewN T k) (T.getD k z3)
theorem putS_len (T : List Sp) (s : Sp) : (putS T s).length ≤ T.length + 1 := by
  rcases sp_end T with rfl | ⟨U, l, rfl⟩
  · simp [putS_nil]
  · cases hj : joinB l s with
    | false => rw [putS_no U l s hj]; simp
    | true => rw [putS_yes U l s hj]; simp
theorem fewN_len (T : List Sp) : ∀ k, (fewN T k).length ≤ k
  | 0 => Nat.le_refl _
  | k + 1 => by
    have := putS_len (fewN T k) (T.getD k z3)
    have := fewN_len T k
    show (putS (fewN T k) (T.getD k z3)).length ≤ k + 1
    omega
theorem putS_mem {T : List Sp} {s x : Sp} (h : x ∈ putS T s) : x ∈ T ∨ x.2.1 = s.2.1 := by
  rcases sp_end T with rfl | ⟨U, l, rfl⟩
  · rw [putS_nil] at h; simp at h; subst h; exact .inr rfl
  · cases hj : joinB l s with
    | false =>
      rw [putS_no U l s hj] at h
      simp at h
      rcases h with h | rfl | rfl
      · exact .inl (by simp [h])
      · exact .inl (by simp)
      · exact .inr rfl
    | true =>
      rw [putS_yes U l s hj] at h
      simp at h
      rcases h with h | rfl
      · exact .inl (by simp [h])
      · exact .inr rfl
theorem fewN_hi (T : List Sp) : ∀ k, rightN T k = true → ∀ x ∈ fewN T k, -1 ≤ x.2.1 ∧ x.2.1 ≤ 1114111
  | 0, _, x, hx => by simp [fewN] at hx
  | k + 1, h, x, hx => by
    rcases putS_mem hx with h1 | h1
    · exact fewN_hi T k (right_down (Nat.le_succ k) h) x h1
    · rw [h1]
      exact ⟨hi_ge T (k + 1) h k (Nat.lt_succ_self k), (right_at h (Nat.lt_succ_self k)).2.2.1⟩
def fewestS (T : List Sp) : List Sp := if rightN T T.length = true then fewN T T.length else []
set_option maxRecDepth 100000 in
set_option maxHeartbeats 1000000 in
theorem fewest_any (v : Value) (T : List Sp) (w : World) (hh : HeldS w v T) (hl : T.length ≤ 999999) : Calls Try.prog 137 #[v] w (PutOk w w.heap.size (fewestS T)) := by
  obtain ⟨ao, cap, rfl⟩ := hh.len
  have HH := Lib.hid hh
  have hrr := right_any _ T w hh (by omega)
  clear hh
  cases hr : rightN T T.length with
  | false =>
    rw [hr] at hrr
    have HR := Lib.hid hrr
    have hf : fewestS T = [] := by unfold fewestS; rw [hr]; rfl
    have HF := Lib.hid hf
    clear hr hrr hf
    go_enter Try.func137, Try.ntmps137
    go_wp2_with (go_at_call 82; refine HR.out.mono ?_; rintro e w1 ⟨rfl, hb1⟩)
    go_ret
    rw [HF.out]
    exact ⟨_, 0, rfl, rfl, World.ownsRow_nil _ _ _ _, hb1⟩
  | true =>
    rw [hr] at hrr
    have HR := Lib.hid hrr
    have HQ := Lib.hid hr
    have hf : fewestS T = fewN T T.length := by unfold fewestS; rw [hr]; rfl
    have HF := Lib.hid hf
    clear hr hrr hf
    go_enter Try.func137, Try.ntmps137
    go_wp2_with (go_at_call 82; refine HR.out.mono ?_; rintro e w1 ⟨rfl, hb1⟩)
    have HB1 := Lib.hid hb1
    clear hb1
    go_loopw [3, 11] (fun few i wr => ∃ k n : Nat, k ≤ T.length ∧ i = .int .i64 k ∧ Go.RowKit.Hid (n = (fewN T k).length) ∧ n ≤ k ∧ wr.ownsRow w.heap.size 98 3 few n (spCells (fewN T k)) ∧ Below w.heap.size w wr) (fun _ i _ => T.length - (intOf i).toNat)
    case atStart => exact ⟨0, 0, Nat.zero_le _, rfl, Lib.hid rfl, Nat.le_refl _, World.ownsRow_nil _ _ _ _, HB1.out⟩
    case round =>
      obtain ⟨k, n, hk, rfl, HN, hnk, hown, hbw⟩ := hrel
      by_cases hlt : k < T.length
      · obtain ⟨b, off, rfl, hb, c0, c1, c2⟩ := (HH.out.below hbw).spots k hlt
        have hs : fewN T (k + 1) = putS (fewN T k) (T.getD k z3) := rfl
        have hi' := fewN_hi T k (right_down hk HQ.out)
        have hfl := fewN_len T (k + 1)
        obtain ⟨s, hsq⟩ : ∃ s, s = T.getD k z3 := ⟨_, rfl⟩
        rw [← hsq] at c0 c1 c2 hs
        obtain ⟨lo, hi, val⟩ := s
        have hb2 := hbw.alloc hbw.size (.cells #[.int .i64 lo, .int .i64 hi, .int .i64 val] 98)
        have hown2 := hown.alloc (.cells #[.int .i64 lo, .int .i64 hi, .int .i64 val] 98)
        have HP := Lib.hid (put_any _ (fewN T k) (lo, hi, val) _ w.heap.size n HN.out hown2 hb2.size (by omega) hi')
        have HS := Lib.hid hs
        have HB2 := Lib.hid hb2
        have HFL := Lib.hid hfl
        simp only at c0 c1 c2
        clear hs hsq hi' hb2 hown hown2 hbw hfl HN
        go_wp2_with (go_at_call 161; refine HP.out.mono ?_; rintro e w2 ⟨⟨v', n', rfl, hn', hown', hb'⟩, _⟩)
        have HN' := Lib.hid hn'
        have hn2 : n' ≤ k + 1 := by rw [HN'.out, ← HS.out]; exact HFL.out
        have HOW := Lib.hid hown'
        clear hn' hown'
        go_wp2
        go_roundw
        case rel => exact ⟨k + 1, n', by omega, by go_num, Lib.hid (by rw [HN'.out, HS.out]), hn2, by rw [HS.out]; exact HOW.out, HB2.out.trans hb'⟩
        case measure => simp [intOf] <;> omega
      · obtain rfl : k = T.length := by omega
        go_wp2
        go_ret
        rw [HF.out]
        exact ⟨_, n, rfl, HN.out, hown, hbw⟩
end Go.Proofs.Ytgoeacmpphmnoaa
