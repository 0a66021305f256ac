/- Contracts of the reference's Same and Few. -/
import Derived.Test.YtgoeacmpphmnoaaSpanH
namespace Go.Proofs.Ytgoeacmpphmnoaa
open Go.RowKit Go.ChangeShapes Go.WideShapes
theorem take_one {α : Type} (T : List α) (k : Nat) (z : α) (h : k < T.length) : T.take (k + 1) = T.take k ++ [T.getD k z] := by
  rw [List.take_succ_eq_append_getElem h]; simp [List.getD, List.getElem?_eq_getElem h]
theorem sp_stood : Try.prog.stoodInHeld 98 = false := by kernel_rfl
def spEq (s t : Sp) : Bool := s.1 == t.1 && (s.2.1 == t.2.1 && s.2.2 == t.2.2)
theorem sp_neq (a b c a' b' c' : Int) (w : World) : (binOp .neq 98 (.agg #[.int .i64 a, .int .i64 b, .int .i64 c]) (.agg #[.int .i64 a', .int .i64 b', .int .i64 c'])).run Try.prog w = .ok (.bool (!spEq (a, b, c) (a', b', c'))) w := by
  rw [run_neq_struct, run_equalIn_agg _ _ _ _ _ (by kernel_rfl) sp_stood]
  simp only [Program.fieldsOf, Try.underlying98]
  by_cases h1 : a = a' <;> by_cases h2 : b = b' <;> by_cases h3 : c = c' <;> simp [Op.eqFields, go_sem, part, h1, h2, h3, spEq]
theorem spEq_iff (s t : Sp) : spEq s t = true ↔ s = t := by
  obtain ⟨a, b, c⟩ := s
  obtain ⟨a', b', c'⟩ := t
  simp [spEq]
theorem getD_sp {T : List Sp} {i : Nat} (h : i < T.length) : T.getD i z3 = T[i] := by simp [List.getD, List.getElem?_eq_getElem h]
def fewP (T : List Sp) : Prop := ∀ j, j + 1 < T.length → joinB (T.getD j z3) (T.getD (j + 1) z3) = false
set_option maxRecDepth 100000 in
set_option maxHeartbeats 1000000 in
theorem few_any (v : Value) (T : List Sp) (w : World) (hh : HeldS w v T) (hl : T.length ≤ 1000000) (hr : rightN T T.length = true) (hf : fewP T) :
    Calls Try.prog 34 #[v] w (Gives w (.bool true)) := by
  obtain ⟨ao, cap, rfl⟩ := hh.len
  have HH := Lib.hid hh
  have HR := Lib.hid hr
  have HF := Lib.hid hf
  clear hh hr hf
  go_enter Try.func34, Try.ntmps34
  go_wp2
  go_loopw [3] (fun i wr => ∃ k : Nat, 1 ≤ k ∧ k ≤ T.length + 1 ∧ i = .int .i64 k ∧ Below w.heap.size w wr) (fun i _ => T.length + 1 - (intOf i).toNat)
  case atStart => exact ⟨1, Nat.le_refl _, by omega, rfl, Below.refl _ _⟩
  case round =>
    obtain ⟨k, hk1, hk, rfl, hbw⟩ := hrel
    by_cases hlt : k < T.length
    · obtain ⟨m, hkm⟩ : ∃ m, k = m + 1 := ⟨k - 1, by omega⟩
      have hsp := (HH.out.below hbw).spots
      obtain ⟨b, off, rfl, hb, c0, c1, c2⟩ := hsp k hlt
      obtain ⟨b', off', e', _, p0, p1, p2⟩ := hsp m (by omega)
      cases e'
      have hj := HF.out m (by omega)
      rw [← hkm] at hj
      have hx := right_at HR.out hlt
      have hx2 := right_at HR.out (show m < T.length by omega)
      have hx3 := hi_ge T T.length HR.out m (by omega)
      rw [show lastOf T k = (T.getD m z3).2.1 from by unfold lastOf; rw [if_neg (by omega), hkm]; rfl] at hx
      obtain ⟨s, hs⟩ : ∃ s, s = T.getD k z3 := ⟨_, rfl⟩
      obtain ⟨l, hlq⟩ : ∃ l, l = T.getD m z3 := ⟨_, rfl⟩
      rw [← hs] at c0 c1 c2 hj hx
      rw [← hlq] at p0 p1 p2 hj hx hx2 hx3
      obtain ⟨lo, hi, val⟩ := s
      obtain ⟨a, q, vq⟩ := l
      simp only at c0 c1 c2 p0 p1 p2 hx hx2 hx3
      have r1 : IntKind.i64.wrap (lo - 1) = lo - 1 := by rw [IntKind.wrap_i64]; omega
      have w1 : IntKind.i64.wrap ((k : Int) - 1) = (m : Int) := by rw [IntKind.wrap_i64]; omega
      have w2 : (k : Int) - 1 = (m : Int) := by omega
      have m0 : (0 : Int) ≤ (m : Int) := by omega
      have m1 : (m : Int) < (T.length : Int) := by omega
      have k1 : (k : Int) < (T.length : Int) := by omega
      have hd : (val == vq) = false ∨ ((val == vq) = true ∧ (lo - 1 == q) = false) := by
        unfold joinB at hj
        simp only at hj
        cases h : (val == vq) with
        | false => exact .inl rfl
        | true =>
          have h1 : vq = val := by simp at h; omega
          rw [h1] at hj
          simp at hj
          exact .inr ⟨rfl, by simp; omega⟩
      have HBW := Lib.hid hbw
      have HKM := Lib.hid hkm
      clear hj hx hx2 hx3 hs hlq hsp hkm hbw
      rcases hd with d1 | ⟨d1, d2⟩
      all_goals
        go_wp2
        go_quiet (fail)
        go_wp2
        go_roundw
        case rel => exact ⟨k + 1, by omega, by omega, by go_num, HBW.out.drewN _⟩
        case measure => simp [intOf] <;> omega
    · go_wp2
      go_ret
      exact ⟨(ret_eq (by first | rfl | (simp <;> omega))), hbw⟩
end Go.Proofs.Ytgoeacmpphmnoaa
