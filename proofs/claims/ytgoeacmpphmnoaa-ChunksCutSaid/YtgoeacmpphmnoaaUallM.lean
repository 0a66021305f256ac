/- A part that is not bad is a form. -/
import Derived.Test.YtgoeacmpphmnoaaUallF
import Derived.Test.YtgoeacmpphmnoaaScalM
namespace Go.Proofs.Ytgoeacmpphmnoaa
open Go.RowKit Go.ChangeShapes Go.WideShapes
theorem goF_all (xs : List Int) (lead : Int) (f m : Nat) : ∀ j, m ≤ j → j < goF xs lead f m → okB xs j = true := by
  induction f generalizing m with
  | zero => intro j h1 h2; have : goF xs lead 0 m = m := rfl; omega
  | succ f ih =>
    intro j h1 h2
    unfold goF at h2
    split at h2
    · rename_i h
      rcases Nat.lt_or_ge m j with h3 | h3
      · exact ih (m + 1) j h3 h2
      · have : j = m := by omega
        subst this
        exact h.2.2
    · omega
theorem okB_one {xs : List Int} (h : okB xs 1 = true) : lo2 (xs.getD 0 0) ≤ xs.getD 1 0 ∧ xs.getD 1 0 ≤ hi2 (xs.getD 0 0) ∧ 128 ≤ xs.getD 1 0 ∧ xs.getD 1 0 ≤ 191 := by
  unfold okB at h
  simp only [Bool.and_eq_true, Bool.or_eq_true, decide_eq_true_eq, bne_self_eq_false, Bool.false_eq_true, false_or, tailB_true] at h
  exact ⟨h.1.1, h.1.2, h.2.1, h.2.2⟩
theorem okB_more {xs : List Int} {m : Nat} (h : okB xs m = true) : 128 ≤ xs.getD m 0 ∧ xs.getD m 0 ≤ 191 := by
  unfold okB at h
  simp only [Bool.and_eq_true, tailB_true] at h
  exact h.2
theorem form1 (a : Int) (h0 : 0 ≤ a) (h : leadI a = 1) : formL (bitsI a) = [a] := by
  have h1 : a ≤ 127 := by unfold leadI at h; omega
  have hb : bitsI a = a := by unfold bitsI; rw [h]; simp
  rw [hb]
  have hv : validB a = true := validB_true.2 (by omega)
  unfold formL
  rw [hv, if_neg (by simp), if_pos (by omega)]
theorem form2 (a b : Int) (h : leadI a = 2) (h1 : 128 ≤ b) (h2 : b ≤ 191) : formL (bitsI a * 64 + b % 64) = [a, b] := by
  have ha : 194 ≤ a ∧ a ≤ 223 := by unfold leadI at h; omega
  have hb : bitsI a = a - 192 := by unfold bitsI; rw [h]; simp; omega
  rw [hb]
  have hv : validB ((a - 192) * 64 + b % 64) = true := validB_true.2 (by omega)
  unfold formL
  rw [hv, if_neg (by simp), if_neg (by omega), if_pos (by omega)]
  rw [show 192 + ((a - 192) * 64 + b % 64) / 64 = a by omega, show 128 + ((a - 192) * 64 + b % 64) % 64 = b by omega]
theorem form3 (a b c : Int) (h : leadI a = 3) (l : lo2 a ≤ b) (u : b ≤ hi2 a) (h1 : 128 ≤ b) (h2 : b ≤ 191) (h3 : 128 ≤ c) (h4 : c ≤ 191) : formL ((bitsI a * 64 + b % 64) * 64 + c % 64) = [a, b, c] := by
  have ha : 224 ≤ a ∧ a ≤ 239 := by unfold leadI at h; omega
  have hb : bitsI a = a - 224 := by unfold bitsI; rw [h]; simp; omega
  rw [hb]
  unfold lo2 at l
  unfold hi2 at u
  have hv : validB (((a - 224) * 64 + b % 64) * 64 + c % 64) = true := validB_true.2 (by omega)
  unfold formL
  rw [hv, if_neg (by simp), if_neg (by omega), if_neg (by omega), if_pos (by omega)]
  rw [show 224 + (((a - 224) * 64 + b % 64) * 64 + c % 64) / 4096 = a by omega, show 128 + (((a - 224) * 64 + b % 64) * 64 + c % 64) / 64 % 64 = b by omega, show 128 + (((a - 224) * 64 + b % 64) * 64 + c % 64) % 64 = c by omega]
theorem form4 (a b c d : Int) (h : leadI a = 4) (l : lo2 a ≤ b) (u : b ≤ hi2 a) (h1 : 128 ≤ b) (h2 : b ≤ 191) (h3 : 128 ≤ c) (h4 : c ≤ 191) (h5 : 128 ≤ d) (h6 : d ≤ 191) : formL (((bitsI a * 64 + b % 64) * 64 + c % 64) * 64 + d % 64) = [a, b, c, d] := by
  have ha : 240 ≤ a ∧ a ≤ 244 := by unfold leadI at h; omega
  have hb : bitsI a = a - 240 := by unfold bitsI; rw [h]; simp; omega
  rw [hb]
  unfold lo2 at l
  unfold hi2 at u
  have hv : validB ((((a - 240) * 64 + b % 64) * 64 + c % 64) * 64 + d % 64) = true := validB_true.2 (by omega)
  unfold formL
  rw [hv, if_neg (by simp), if_neg (by omega), if_neg (by omega), if_neg (by omega)]
  rw [show 240 + ((((a - 240) * 64 + b % 64) * 64 + c % 64) * 64 + d % 64) / 262144 = a by omega, show 128 + ((((a - 240) * 64 + b % 64) * 64 + c % 64) * 64 + d % 64) / 4096 % 64 = b by omega, show 128 + ((((a - 240) * 64 + b % 64) * 64 + c % 64) * 64 + d % 64) / 64 % 64 = c by omega, show 128 + ((((a - 240) * 64 + b % 64) * 64 + c % 64) * 64 + d % 64) % 64 = d by omega]
theorem form_of (ys : List Int) (n : Nat) (hn : begN ys (leadI (ys.getD 0 0)) = n) (hl : (n : Int) = leadI (ys.getD 0 0)) (h0 : 0 < ys.length) (hr : 0 ≤ ys.getD 0 0) : formL (valF (ys.take n) (n - 1)) = ys.take n := by
  have hall := goF_all ys (leadI (ys.getD 0 0)) 4 1
  have hle := begN_le ys (leadI (ys.getD 0 0)) h0
  rw [show goF ys (leadI (ys.getD 0 0)) 4 1 = begN ys (leadI (ys.getD 0 0)) from rfl, hn] at hall
  rw [hn] at hle
  have hb4 : leadI (ys.getD 0 0) ≤ 4 := by unfold leadI; omega
  obtain ⟨a, ys, rfl⟩ : ∃ a t, ys = a :: t := by cases ys with | nil => simp at h0 | cons a t => exact ⟨a, t, rfl⟩
  have hl : (n : Int) = leadI a := hl
  have hb4 : leadI a ≤ 4 := hb4
  rcases (by omega : n = 1 ∨ n = 2 ∨ n = 3 ∨ n = 4) with rfl | rfl | rfl | rfl
  · exact form1 a hr hl.symm
  · obtain ⟨b, ys, rfl⟩ : ∃ b t, ys = b :: t := by cases ys with | nil => simp at hle | cons a t => exact ⟨a, t, rfl⟩
    have k1 := okB_one (hall 1 (by omega) (by omega))
    exact form2 a b hl.symm k1.2.2.1 k1.2.2.2
  · obtain ⟨b, c, ys, rfl⟩ : ∃ b c t, ys = b :: c :: t := by
      match ys, hle with
      | [], hle => simp at hle
      | [_], hle => simp at hle
      | b :: c :: t, _ => exact ⟨b, c, t, rfl⟩
    have k1 := okB_one (hall 1 (by omega) (by omega))
    have k2 := okB_more (hall 2 (by omega) (by omega))
    exact form3 a b c hl.symm k1.1 k1.2.1 k1.2.2.1 k1.2.2.2 k2.1 k2.2
  · obtain ⟨b, c, d, ys, rfl⟩ : ∃ b c d t, ys = b :: c :: d :: t := by
      match ys, hle with
      | [], hle => simp at hle
      | [_], hle => simp at hle
      | [_, _], hle => simp at hle
      | b :: c :: d :: t, _ => exact ⟨b, c, d, t, rfl⟩
    have k1 := okB_one (hall 1 (by omega) (by omega))
    have k2 := okB_more (hall 2 (by omega) (by omega))
    have k3 := okB_more (hall 3 (by omega) (by omega))
    exact form4 a b c d hl.symm k1.1 k1.2.1 k1.2.2.1 k1.2.2.2 k2.1 k2.2 k3.1 k3.2
/-- What a part is. -/
theorem part_is (xs : List Int) (p : Nat) (hp : p < xs.length) (hr : ∀ i, i < xs.length → 0 ≤ xs.getD i 0 ∧ xs.getD i 0 ≤ 255) :
    ∃ (r kn : Int) (bd : Bool), partG xs p = (r, (p : Int), (lenG xs p : Int), kn, bd) ∧ (p : Int) + lenG xs p ≤ kn ∧ kn ≤ xs.length ∧ (bd = true → r = 65533) ∧ (bd = false → formL r = (xs.drop p).take (lenG xs p)) := by
  have hd0 : (xs.drop p).getD 0 0 = xs.getD p 0 := by simp [List.getD]
  have hle := lenG_le xs p hp
  unfold partG lenG at *
  by_cases hz : leadI (xs.getD p 0) = 0
  · simp only [if_pos hz] at *
    exact ⟨65533, _, true, rfl, Int.le_refl _, by omega, fun _ => rfl, fun h => by cases h⟩
  · simp only [if_neg hz] at *
    by_cases hq : (begN (xs.drop p) (leadI (xs.getD p 0)) : Int) = leadI (xs.getD p 0)
    · simp only [if_pos hq]
      refine ⟨_, _, false, rfl, Int.le_refl _, by omega, (fun h => by cases h), fun _ => ?_⟩
      exact form_of (xs.drop p) _ (by rw [hd0]) (by rw [hd0]; exact hq) (by simp; omega) (by rw [hd0]; exact (hr p hp).1)
    · simp only [if_neg hq]
      exact ⟨65533, _, true, rfl, by omega, by omega, fun _ => rfl, fun h => by cases h⟩
end Go.Proofs.Ytgoeacmpphmnoaa
