/- What rows of bytes begin forms, by the numbers that the forms with such a beginning have. -/
import Derived.Test.YtgoeacmpphmnoaaOctK
namespace Go.Proofs.Ytgoeacmpphmnoaa
open Go.RowKit Go.ChangeShapes Go.WideShapes
def mkN : Nat → Int | 2 => 192 | 3 => 224 | 4 => 240 | _ => 0
def szN : Nat → Int | 1 => 128 | 2 => 32 | 3 => 16 | 4 => 8 | _ => 0
def frN : Nat → Int | 2 => 128 | 3 => 2048 | 4 => 65536 | _ => 0
def toN : Nat → Int | 1 => 127 | 2 => 2047 | 3 => 65535 | 4 => 1114111 | _ => 0
def mxI (a b : Int) : Int := if a ≤ b then b else a
def mnI (a b : Int) : Int := if a ≤ b then a else b
def loF (b : List Int) (v : Int) : Nat → Int
  | 0 => v
  | s + 1 => loF b v s * 64 + (if s + 1 < b.length then b.getD (s + 1) 0 - 128 else 0)
def hiF (b : List Int) (v : Int) : Nat → Int
  | 0 => v
  | s + 1 => hiF b v s * 64 + 63 + (if s + 1 < b.length then b.getD (s + 1) 0 - 128 - 63 else 0)
/-- The bytes behind the first, up to place s, are in 128 to 191. -/
def okF (b : List Int) : Nat → Prop
  | 0 => True
  | s + 1 => okF b s ∧ (s + 1 < b.length → 0 ≤ b.getD (s + 1) 0 - 128 ∧ b.getD (s + 1) 0 - 128 ≤ 63)
def vF (b : List Int) (n : Nat) : Int := b.getD 0 0 - mkN n
def someP (b : List Int) (n : Nat) : Prop :=
  0 ≤ vF b n ∧ vF b n < szN n ∧ okF b (n - 1) ∧ mxI (loF b (vF b n) (n - 1)) (frN n) ≤ mnI (hiF b (vF b n) (n - 1)) (toN n) ∧
    (mxI (loF b (vF b n) (n - 1)) (frN n) < 55296 ∨ 57343 < mnI (hiF b (vF b n) (n - 1)) (toN n))
instance okDec (b : List Int) : ∀ s, Decidable (okF b s)
  | 0 => isTrue trivial
  | s + 1 => by
    have := okDec b s
    unfold okF
    exact inferInstance
instance (b : List Int) (n : Nat) : Decidable (someP b n) := by unfold someP; exact inferInstance
theorem lohi (b : List Int) (v : Int) (hv0 : 0 ≤ v) (hv1 : v < 128) : ∀ s, okF b s → 0 ≤ loF b v s ∧ loF b v s ≤ hiF b v s ∧ hiF b v s < 128 * 64 ^ s
  | 0, _ => by simp only [loF, hiF]; omega
  | s + 1, h => by
    obtain ⟨h1, h2⟩ := h
    obtain ⟨i1, i2, i3⟩ := lohi b v hv0 hv1 s h1
    simp only [loF, hiF]
    have e : (128 : Int) * 64 ^ (s + 1) = (128 * 64 ^ s) * 64 := by rw [Int.pow_succ]; omega
    rw [e]
    generalize (128 : Int) * 64 ^ s = m at *
    by_cases hl : s + 1 < b.length
    · have := h2 hl
      simp only [hl, if_true]
      omega
    · simp only [hl, if_false]
      omega
/-- Of how many bytes is a form that begins so; 0: of none. -/
def begB (b : List Int) : Int :=
  if b.length ≤ 1 ∧ someP b 1 then 1 else if b.length ≤ 2 ∧ someP b 2 then 2 else if b.length ≤ 3 ∧ someP b 3 then 3 else if b.length ≤ 4 ∧ someP b 4 then 4 else 0
theorem p11 (x : Int) (x0 : 0 ≤ x) : someP [x] 1 ↔ x ≤ 127 := by
  simp [someP, vF, mkN, szN, frN, toN, okF, loF, hiF, mxI, mnI]; omega
theorem p12 (x : Int) : someP [x] 2 ↔ 194 ≤ x ∧ x ≤ 223 := by
  simp [someP, vF, mkN, szN, frN, toN, okF, loF, hiF, mxI, mnI]; omega
theorem p13 (x : Int) : someP [x] 3 ↔ 224 ≤ x ∧ x ≤ 239 := by
  simp [someP, vF, mkN, szN, frN, toN, okF, loF, hiF, mxI, mnI]; omega
theorem p14 (x : Int) : someP [x] 4 ↔ 240 ≤ x ∧ x ≤ 244 := by
  simp [someP, vF, mkN, szN, frN, toN, okF, loF, hiF, mxI, mnI]; omega
theorem p22 (x y : Int) : someP [x, y] 2 ↔ 194 ≤ x ∧ x ≤ 223 ∧ 128 ≤ y ∧ y ≤ 191 := by
  simp [someP, vF, mkN, szN, frN, toN, okF, loF, hiF, mxI, mnI]; omega
theorem p23 (x y : Int) : someP [x, y] 3 ↔ 224 ≤ x ∧ x ≤ 239 ∧ 128 ≤ y ∧ y ≤ 191 ∧ (x = 224 → 160 ≤ y) ∧ (x = 237 → y ≤ 159) := by
  simp [someP, vF, mkN, szN, frN, toN, okF, loF, hiF, mxI, mnI]; omega
theorem p24 (x y : Int) : someP [x, y] 4 ↔ 240 ≤ x ∧ x ≤ 244 ∧ 128 ≤ y ∧ y ≤ 191 ∧ (x = 240 → 144 ≤ y) ∧ (x = 244 → y ≤ 143) := by
  simp [someP, vF, mkN, szN, frN, toN, okF, loF, hiF, mxI, mnI]; omega
theorem p33 (x y z : Int) : someP [x, y, z] 3 ↔ 224 ≤ x ∧ x ≤ 239 ∧ 128 ≤ y ∧ y ≤ 191 ∧ (x = 224 → 160 ≤ y) ∧ (x = 237 → y ≤ 159) ∧ 128 ≤ z ∧ z ≤ 191 := by
  simp [someP, vF, mkN, szN, frN, toN, okF, loF, hiF, mxI, mnI]; omega
theorem p34 (x y z : Int) : someP [x, y, z] 4 ↔ 240 ≤ x ∧ x ≤ 244 ∧ 128 ≤ y ∧ y ≤ 191 ∧ (x = 240 → 144 ≤ y) ∧ (x = 244 → y ≤ 143) ∧ 128 ≤ z ∧ z ≤ 191 := by
  simp [someP, vF, mkN, szN, frN, toN, okF, loF, hiF, mxI, mnI]; omega
theorem p44 (x y z u : Int) : someP [x, y, z, u] 4 ↔ 240 ≤ x ∧ x ≤ 244 ∧ 128 ≤ y ∧ y ≤ 191 ∧ (x = 240 → 144 ≤ y) ∧ (x = 244 → y ≤ 143) ∧ 128 ≤ z ∧ z ≤ 191 ∧ 128 ≤ u ∧ u ≤ 191 := by
  simp [someP, vF, mkN, szN, frN, toN, okF, loF, hiF, mxI, mnI]; omega
end Go.Proofs.Ytgoeacmpphmnoaa
