/- Texts put together: RowM, ScalarR, SegA, PropL, Tab. -/
import Derived.Test.YtgkcobmbdpgceaaMg1
import Derived.Deep.QuietTactic
import Derived.BigQuiet
import Derived.Test.YtgkcobmbdpgceaaProg
import Derived.Lib.SmallJoins
import Derived.Deep.Slices
/- What painting leaves. -/
namespace Go.Proofs.Ytgkcobmbdpgceaa
open Go.RowKit Go.ChangeShapes Go.WideShapes
theorem sound_prop (L : List Cl) : soundB L = true ↔ ∀ i, i < L.length → rightB (L.getD i zc) = true ∧ ((L.getD i zc).1 = 2 → (L.getD (i + 1) zc).1 = 3) ∧ ((L.getD i zc).1 = 3 → 0 < i ∧ (L.getD (i - 1) zc).1 = 2) := by
  have hk1 : ∀ k : Nat, kindAt L ((k : Int) + 1) = (L.getD (k + 1) zc).1 := fun k => by
    unfold kindAt
    rw [if_neg (by omega), show ((k : Int) + 1).toNat = k + 1 by omega]
  have hk2 : ∀ k : Nat, kindAt L ((k : Int) - 1) = if k = 0 then 0 else (L.getD (k - 1) zc).1 := fun k => by
    unfold kindAt
    by_cases h : k = 0
    · subst h; rfl
    · rw [if_neg (by omega), if_neg h, show ((k : Int) - 1).toNat = k - 1 by omega]
  have one : ∀ i, okAt L i = true ↔ rightB (L.getD i zc) = true ∧ ((L.getD i zc).1 = 2 → (L.getD (i + 1) zc).1 = 3) ∧ ((L.getD i zc).1 = 3 → 0 < i ∧ (L.getD (i - 1) zc).1 = 2) := by
    intro i
    unfold okAt
    rw [hk1, hk2]
    simp only [Bool.and_eq_true, Bool.not_eq_true', Bool.and_eq_false_iff, bne_eq_false_iff_eq, beq_eq_false_iff_ne]
    constructor
    · rintro ⟨⟨h1, h2⟩, h3⟩
      refine ⟨h1, fun h => ?_, fun h => ?_⟩
      · rcases h2 with h2 | h2
        · exact absurd h h2
        · exact h2
      · rcases h3 with h3 | h3
        · exact absurd h h3
        · split at h3
          · cases h3
          · exact ⟨by omega, h3⟩
    · rintro ⟨h1, h2, h3⟩
      refine ⟨⟨h1, ?_⟩, ?_⟩
      · by_cases h : (L.getD i zc).1 = 2
        · exact .inr (h2 h)
        · exact .inl h
      · by_cases h : (L.getD i zc).1 = 3
        · obtain ⟨h4, h5⟩ := h3 h
          rw [if_neg (by omega)]
          exact .inr h5
        · exact .inl h
  rw [sound_iff]
  constructor
  · intro h i hi
    exact (one i).1 (okTo_at hi h)
  · intro h
    unfold okTo
    rw [List.all_eq_true]
    intro i hi
    exact (one i).2 (h i (List.mem_range.1 hi))
def inP (a m i : Nat) : Prop := a ≤ i ∧ i < a + m
instance (a m i : Nat) : Decidable (inP a m i) := by unfold inP; infer_instance
def tornP (L : List Cl) (a m i : Nat) : Prop := ((L.getD i zc).1 = 2 ∧ inP a m (i + 1)) ∨ ((L.getD i zc).1 = 3 ∧ 0 < i ∧ inP a m (i - 1))
instance (L : List Cl) (a m i : Nat) : Decidable (tornP L a m i) := by unfold tornP; infer_instance
def paintAt (L p : List Cl) (a i : Nat) : Cl := if inP a p.length i then p.getD (i - a) zc else if tornP L a p.length i then zc else L.getD i zc
def paintL (L p : List Cl) (a : Nat) : List Cl := (List.range L.length).map (paintAt L p a)
/-- Has the last place turned? -/
def lastHit (L p : List Cl) (a : Nat) : Bool := decide (inP a p.length (L.length - 1)) || decide (tornP L a p.length (L.length - 1))
theorem paint_len (L p : List Cl) (a : Nat) : (paintL L p a).length = L.length := by simp [paintL]
theorem paint_get (L p : List Cl) (a i : Nat) (h : i < L.length) : (paintL L p a).getD i zc = paintAt L p a i := by simp [paintL, List.getD, h]
theorem paint_none (L : List Cl) (a : Nat) : paintL L [] a = L := by
  apply List.ext_getElem
  · simp [paintL]
  · intro i h1 h2
    simp only [paintL, List.getElem_map, List.getElem_range]
    unfold paintAt
    have n1 : ¬ inP a ([] : List Cl).length i := by unfold inP; simp only [List.length_nil]; omega
    have n2 : ¬ tornP L a ([] : List Cl).length i := by unfold tornP inP; simp only [List.length_nil]; omega
    rw [if_neg n1, if_neg n2]
    simp [List.getD, List.getElem?_eq_getElem h2]
theorem lastHit_none (L : List Cl) (a : Nat) : lastHit L [] a = false := by
  have n1 : ¬ inP a ([] : List Cl).length (L.length - 1) := by unfold inP; simp only [List.length_nil]; omega
  have n2 : ¬ tornP L a ([] : List Cl).length (L.length - 1) := by unfold tornP inP; simp only [List.length_nil]; omega
  unfold lastHit
  rw [decide_eq_false n1, decide_eq_false n2]
  rfl
theorem paint_sound {L p : List Cl} {a : Nat} (hL : soundB L = true) (hp : soundB p = true) (hle : a + p.length ≤ L.length) : soundB (paintL L p a) = true := by
  rw [sound_prop] at hL hp ⊢
  rw [paint_len]
  intro i hi
  have out : ∀ j, L.length ≤ j → (paintL L p a).getD j zc = zc := fun j hj => getD_ge _ _ _ (by rw [paint_len]; exact hj)
  have outL : ∀ j, L.length ≤ j → L.getD j zc = zc := fun j hj => getD_ge _ _ _ hj
  have outp : ∀ j, p.length ≤ j → p.getD j zc = zc := fun j hj => getD_ge _ _ _ hj
  rw [paint_get L p a i hi]
  unfold paintAt
  by_cases hin : inP a p.length i
  · rw [if_pos hin]
    obtain ⟨h1, h2⟩ := hin
    obtain ⟨r1, r2, r3⟩ := hp (i - a) (by omega)
    refine ⟨r1, fun h => ?_, fun h => ?_⟩
    · have h3 := r2 h
      have h4 : i - a + 1 < p.length := by
        rcases Nat.lt_or_ge (i - a + 1) p.length with h | h
        · exact h
        · rw [outp _ h] at h3; cases h3
      rw [paint_get L p a (i + 1) (by omega)]
      unfold paintAt
      rw [if_pos ⟨by omega, by omega⟩, show i + 1 - a = i - a + 1 by omega]
      exact h3
    · obtain ⟨h3, h4⟩ := r3 h
      refine ⟨by omega, ?_⟩
      rw [paint_get L p a (i - 1) (by omega)]
      unfold paintAt
      rw [if_pos ⟨by omega, by omega⟩, show i - 1 - a = i - a - 1 by omega]
      exact h4
  · rw [if_neg hin]
    by_cases ht : tornP L a p.length i
    · rw [if_pos ht]
      exact ⟨by decide, fun h => absurd h (by decide), fun h => absurd h (by decide)⟩
    · rw [if_neg ht]
      obtain ⟨r1, r2, r3⟩ := hL i hi
      refine ⟨r1, fun h => ?_, fun h => ?_⟩
      · have h3 := r2 h
        have h4 : i + 1 < L.length := by
          rcases Nat.lt_or_ge (i + 1) L.length with h | h
          · exact h
          · rw [outL _ h] at h3; cases h3
        rw [paint_get L p a (i + 1) h4]
        unfold paintAt
        have n1 : ¬ inP a p.length (i + 1) := fun k => ht (.inl ⟨h, k⟩)
        have n2 : ¬ tornP L a p.length (i + 1) := by
          rintro (⟨k, _⟩ | ⟨_, _, k⟩)
          · rw [h3] at k; cases k
          · exact hin (by simpa using k)
        rw [if_neg n1, if_neg n2]
        exact h3
      · obtain ⟨h3, h4⟩ := r3 h
        refine ⟨h3, ?_⟩
        rw [paint_get L p a (i - 1) (by omega)]
        unfold paintAt
        have n1 : ¬ inP a p.length (i - 1) := fun k => ht (.inr ⟨h, h3, k⟩)
        have n2 : ¬ tornP L a p.length (i - 1) := by
          rintro (⟨_, k⟩ | ⟨k, _, _⟩)
          · exact hin (by rwa [show i - 1 + 1 = i by omega] at k)
          · rw [h4] at k; cases k
        rw [if_neg n1, if_neg n2]
        exact h4
/- Step by step. -/
def leadB (L : List Cl) (a : Nat) : Bool := decide (0 < a) && (L.getD (a - 1) zc).1 == 2
def tailB (L : List Cl) (e : Nat) : Bool := decide (e < L.length) && (L.getD e zc).1 == 3
def step1 (L : List Cl) (a : Nat) : List Cl := if leadB L a = true then L.set (a - 1) zc else L
def step2 (L : List Cl) (a m : Nat) : List Cl := if tailB L (a + m) = true then (step1 L a).set (a + m) zc else step1 L a
def step3 (L p : List Cl) (a k : Nat) : List Cl := (List.range L.length).map fun i => if inP a k i then p.getD (i - a) zc else (step2 L a p.length).getD i zc
theorem step1_len (L : List Cl) (a : Nat) : (step1 L a).length = L.length := by unfold step1; split <;> simp
theorem step2_len (L : List Cl) (a m : Nat) : (step2 L a m).length = L.length := by unfold step2; split <;> simp [step1_len]
theorem step3_len (L p : List Cl) (a k : Nat) : (step3 L p a k).length = L.length := by simp [step3]
theorem getD_set {α : Type} (l : List α) (d x : α) (i j : Nat) : (l.set i x).getD j d = if i = j ∧ j < l.length then x else l.getD j d := by
  simp only [List.getD, List.getElem?_set]
  split
  · rename_i h
    subst h
    by_cases h2 : i < l.length
    · simp [h2]
    · simp [h2]
  · rename_i h
    rw [if_neg (fun k => h k.1)]
theorem step1_at (L : List Cl) (a i : Nat) : (step1 L a).getD i zc = if leadB L a = true ∧ i = a - 1 then zc else L.getD i zc := by
  unfold step1
  split
  · rename_i h
    rw [getD_set]
    by_cases e : a - 1 = i
    · by_cases hl : i < L.length
      · rw [if_pos ⟨e, hl⟩, if_pos ⟨h, e.symm⟩]
      · rw [if_neg (fun k => hl k.2), getD_ge _ _ _ (by omega)]
        split <;> rfl
    · rw [if_neg (fun k => e k.1), if_neg (fun k => e k.2.symm)]
  · rename_i h
    rw [if_neg (fun k => h k.1)]
theorem step2_at (L : List Cl) (a m i : Nat) : (step2 L a m).getD i zc = if tailB L (a + m) = true ∧ i = a + m then zc else (step1 L a).getD i zc := by
  unfold step2
  split
  · rename_i h
    rw [getD_set, step1_len]
    by_cases e : a + m = i
    · by_cases hl : i < L.length
      · rw [if_pos ⟨e, hl⟩, if_pos ⟨h, e.symm⟩]
      · rw [if_neg (fun k => hl k.2), getD_ge (step1 L a) _ _ (by rw [step1_len]; omega)]
        split <;> rfl
    · rw [if_neg (fun k => e k.1), if_neg (fun k => e k.2.symm)]
  · rename_i h
    rw [if_neg (fun k => h k.1)]
theorem step3_zero (L p : List Cl) (a : Nat) : step3 L p a 0 = step2 L a p.length := by
  apply List.ext_getElem
  · simp [step3, step2_len]
  · intro i h1 h2
    simp only [step3, List.getElem_map, List.getElem_range]
    rw [if_neg (by unfold inP; omega)]
    simp [List.getD, List.getElem?_eq_getElem h2]
theorem step3_succ (L p : List Cl) (a k : Nat) : step3 L p a (k + 1) = (step3 L p a k).set (a + k) (p.getD k zc) := by
  apply List.ext_getElem
  · simp [step3]
  · intro i h1 h2
    rw [List.getElem_set]
    simp only [step3, List.getElem_map, List.getElem_range]
    by_cases e : a + k = i
    · subst e
      rw [if_pos rfl, if_pos ⟨by omega, by omega⟩, show a + k - a = k by omega]
    · rw [if_neg e]
      by_cases h : inP a k i
      · rw [if_pos h, if_pos ⟨h.1, by have := h.2; omega⟩]
      · rw [if_neg h, if_neg (fun k2 => h ⟨k2.1, by have := k2.2; omega⟩)]
theorem step3_all {L p : List Cl} {a : Nat} (hm : 0 < p.length) (hle : a + p.length ≤ L.length) : step3 L p a p.length = paintL L p a := by
  unfold step3 paintL
  apply List.map_congr_left
  intro i hi
  have hi : i < L.length := List.mem_range.1 hi
  unfold paintAt
  by_cases h : inP a p.length i
  · rw [if_pos h, if_pos h]
  · rw [if_neg h, if_neg h, step2_at, step1_at]
    by_cases ht : tornP L a p.length i
    · rw [if_pos ht]
      rcases ht with ⟨h1, h2, h3⟩ | ⟨h1, h2, h3, h4⟩
      · have e : i + 1 = a := by
          have : ¬ (a ≤ i ∧ i < a + p.length) := h
          omega
        have hl : leadB L a = true := by
          unfold leadB
          rw [show a - 1 = i by omega, h1, decide_eq_true (show 0 < a by omega)]
          rfl
        split
        · rfl
        · rw [if_pos ⟨hl, by omega⟩]
      · have e : i = a + p.length := by
          have : ¬ (a ≤ i ∧ i < a + p.length) := h
          omega
        have hl : tailB L (a + p.length) = true := by
          unfold tailB
          rw [← e, h1, decide_eq_true hi]
          rfl
        rw [if_pos ⟨hl, e⟩]
    · rw [if_neg ht]
      rw [if_neg, if_neg]
      · rintro ⟨h1, rfl⟩
        unfold leadB at h1
        simp only [Bool.and_eq_true, decide_eq_true_eq, beq_iff_eq] at h1
        exact ht (.inl ⟨h1.2, by unfold inP; omega⟩)
      · rintro ⟨h1, rfl⟩
        unfold tailB at h1
        simp only [Bool.and_eq_true, decide_eq_true_eq, beq_iff_eq] at h1
        exact ht (.inr ⟨h1.2, by omega, by unfold inP; omega⟩)
/-- The kinds that the second test reads. -/
theorem tail_kind {L : List Cl} {a m : Nat} (hm : 0 < m) : ((step1 L a).getD (a + m) zc).1 = (L.getD (a + m) zc).1 := by
  rw [step1_at, if_neg]
  rintro ⟨_, h⟩
  omega
def endN (L : List Cl) (a m : Nat) : Nat := if tailB L (a + m) = true then a + m + 1 else a + m
theorem end_last {L p : List Cl} {a : Nat} (hm : 0 < p.length) (hle : a + p.length ≤ L.length) : (decide (endN L a p.length = L.length)) = lastHit L p a := by
  unfold endN lastHit
  rw [Bool.eq_iff_iff]
  simp only [Bool.or_eq_true, decide_eq_true_eq]
  constructor
  · intro h
    split at h
    · rename_i ht
      unfold tailB at ht
      simp only [Bool.and_eq_true, decide_eq_true_eq, beq_iff_eq] at ht
      right
      refine .inr ⟨by rw [show L.length - 1 = a + p.length by omega]; exact ht.2, by omega, by unfold inP; omega⟩
    · exact .inl ⟨by omega, by omega⟩
  · rintro (⟨h1, h2⟩ | h)
    · rw [if_neg (by unfold tailB; simp; omega)]
      omega
    · by_cases hin : inP a p.length (L.length - 1)
      · obtain ⟨h1, h2⟩ := hin
        rw [if_neg (by unfold tailB; simp; omega)]
        omega
      · have hin' : ¬ (a ≤ L.length - 1 ∧ L.length - 1 < a + p.length) := hin
        rcases h with ⟨h1, h2, h3⟩ | ⟨h1, h2, h3, h4⟩
        · omega
        · have e : L.length - 1 = a + p.length := by omega
          rw [if_pos (by unfold tailB; rw [← e, h1, decide_eq_true (show L.length - 1 < L.length by omega)]; rfl)]
          omega
end Go.Proofs.Ytgkcobmbdpgceaa
/- Contracts of the functions of linotyperef01 that others lean on. -/
namespace Go.Proofs.Ytgkcobmbdpgceaa
open Go.RowKit Go.ChangeShapes Go.WideShapes

def sameB (xs ys : List Int) : Bool := decide (xs = ys)
theorem sameB_of {xs ys : List Int} (hl : ys.length = xs.length) (h : ∀ j, j < xs.length → xs.getD j 0 = ys.getD j 0) : sameB xs ys = true := by
  unfold sameB
  rw [decide_eq_true_eq]
  apply List.ext_getElem hl.symm
  intro i h1 h2
  have := h i h1
  simpa [List.getD, List.getElem?_eq_getElem h1, List.getElem?_eq_getElem h2] using this
theorem sameB_not {xs ys : List Int} (j : Nat) (h : xs.getD j 0 ≠ ys.getD j 0) : sameB xs ys = false := by
  unfold sameB
  rw [decide_eq_false_iff_not]
  rintro rfl
  exact h rfl
theorem sameB_len {xs ys : List Int} (h : ¬ ys.length = xs.length) : sameB xs ys = false := by
  unfold sameB
  rw [decide_eq_false_iff_not]
  rintro rfl
  exact h rfl
theorem sameB_self (xs : List Int) : sameB xs xs = true := by simp [sameB]
/-- What has been found alike so far. -/
def Alike0 (xs ys : List Int) (k : Nat) : Prop := ∀ j, j < k → xs.getD j 0 = ys.getD j 0
set_option maxRecDepth 100000 in
theorem same_any (v u : Value) (xs ys : List Int) (w : World) (hx : Held .i32 w v xs) (hy : Held .i32 w u ys) (hlen : xs.length ≤ 9223372036854775807) :
    Calls Try.prog 27 #[v, u] w (Gives w (.bool (sameB xs ys))) := by
  obtain ⟨ao, ca, rfl, hc⟩ := hx.view
  obtain ⟨bo, cb, rfl, hd⟩ := hy.view
  have HC := Lib.hid hc
  have HD := Lib.hid hd
  clear hc hd hx hy
  by_cases hl : ys.length = xs.length
  · have HL := Lib.hid hl
    rw [hl]
    clear hl
    go_enter Try.func27, Try.ntmps27
    go_wp2
    go_loopw [5] (fun i wr => ∃ k : Nat, k ≤ xs.length ∧ i = .int .i64 k ∧ Alike0 xs ys k ∧ Below w.heap.size w wr) (fun i _ => xs.length - (intOf i).toNat)
    case atStart => exact ⟨0, Nat.zero_le _, rfl, (fun j hj => by omega), Below.refl _ _⟩
    case round =>
      obtain ⟨k, hk, rfl, hal, hbw⟩ := hrel
      have HA := Lib.hid hal
      clear hal
      by_cases hlt : k < xs.length
      · obtain ⟨b1, o1, rfl, hb1, hcx⟩ := HC.out k hlt
        obtain ⟨b2, o2, rfl, hb2, hcy⟩ := HD.out k (by rw [HL.out]; exact hlt)
        have hcx := (hbw.cell (p := ⟨b1, o1 + k, none⟩) hb1).trans hcx
        have hcy := (hbw.cell (p := ⟨b2, o2 + k, none⟩) hb2).trans hcy
        by_cases he : xs.getD k 0 = ys.getD k 0
        · have HE : Alike0 xs ys (k + 1) := by
            intro j hj
            by_cases h : j = k
            · subst h; exact he
            · exact HA.out j (by omega)
          rw [← he] at hcy
          clear he
          generalize xs.getD k 0 = x at hcx hcy
          go_wp2
          go_quiet (fail)
          have hbw := hbw.drewN nq
          go_wp2
          go_roundw
          case rel => exact ⟨k + 1, by omega, by go_num, HE, hbw⟩
          case measure => simp [intOf]; omega
        · have E := Lib.hid (sameB_not k he)
          generalize xs.getD k 0 = x at hcx he
          generalize ys.getD k 0 = y at hcy he
          go_wp2
          go_quiet (fail)
          have hbw := hbw.drewN nq
          go_wp2
          go_ret
          exact ⟨ret_eq (by rw [E.out]; rfl), hbw⟩
      · have e : sameB xs ys = true := sameB_of HL.out (fun j hj => HA.out j (by omega))
        have E := Lib.hid e
        clear e
        go_wp2
        go_ret
        exact ⟨ret_eq (by rw [E.out]; rfl), hbw⟩
  · rw [sameB_len hl]
    go_enter Try.func27, Try.ntmps27
    go_wp2
    go_ret
    exact ⟨rfl, Below.refl _ _⟩
end Go.Proofs.Ytgkcobmbdpgceaa
/- A slice of properties that came in. -/
namespace Go.Proofs.Ytgkcobmbdpgceaa
open Go.RowKit Go.ChangeShapes Go.WideShapes
open Go.Joins Go.Deep
/-- A property: class, picture, conjunct, east. -/
structure Pr where
  br : Int
  pc : Bool
  cv : Int
  ea : Int
/-- In the world w the slice value v holds the properties xs. -/
def HeldP (w : World) (v : Value) (xs : List Pr) : Prop :=
  ∃ ao cap, v = .slice ao xs.length cap ∧ ∀ i (h : i < xs.length), ∃ b off, ao = some ⟨b, off, none⟩ ∧ b < w.heap.size ∧ w.cell? ⟨b, off + i * 4, none⟩ = some (.int .i64 xs[i].br) ∧ w.cell? ⟨b, off + i * 4 + 1, none⟩ = some (.bool xs[i].pc) ∧
    w.cell? ⟨b, off + i * 4 + 2, none⟩ = some (.int .i64 xs[i].cv) ∧ w.cell? ⟨b, off + i * 4 + 3, none⟩ = some (.int .i64 xs[i].ea)
theorem cells_prop : Try.prog.cellsOf 86 = 4 := by kernel_rfl
theorem cells_int : Try.prog.cellsOf 3 = 1 := by kernel_rfl
theorem cells_bool : Try.prog.cellsOf 4 = 1 := by kernel_rfl
theorem four_cells {w : World} {base : Nat} {a : Addr} {cs : List Value} (h : w.cells? base a 4 = some cs) : ∃ c0 c1 c2 c3, cs = [c0, c1, c2, c3] ∧ w.cell? (a.add 0) = some c0 ∧ w.cell? (a.add 1) = some c1 ∧ w.cell? (a.add 2) = some c2 ∧ w.cell? (a.add 3) = some c3 := by
  unfold World.cells? at h
  split at h
  · rw [show List.range 4 = [0, 1, 2, 3] from rfl] at h
    simp only [List.mapM_cons, List.mapM_nil, Option.bind_eq_bind, Option.bind_eq_some_iff, Option.pure_def, Option.some.injEq] at h
    obtain ⟨c0, h0, l1, ⟨c1, h1, l2, ⟨c2, h2, l3, ⟨c3, h3, l4, rfl, rfl⟩, rfl⟩, rfl⟩, rfl⟩ := h
    exact ⟨c0, c1, c2, c3, rfl, h0, h1, h2, h3⟩
  · cases h
set_option maxRecDepth 100000 in
theorem open_props {H : Type} {enc : TypeId × Value → H} {W : World} {base : Nat} {v : Value} {d : DataW H} {p : List MemPlace} (hv : Value.okWide Try.prog W .any base 93 v) (h : DataW.Trod enc Try.prog W 0 (fun _ => true) true 93 v d p) :
    ∃ xs, HeldP W v xs := by
  obtain ⟨a0, len, cap, rfl⟩ := okWide_slice Try.underlying93 hv
  obtain ⟨fuel, hf⟩ := h
  rcases open_slice Try.underlying93 hf with ⟨hcs, _⟩ | ⟨a, len', cap', m, n, D, Pl, hcs, _, hl, hm, hmm, _, hx⟩
  · simp [Value.cells] at hcs
    obtain ⟨rfl, rfl, rfl⟩ := hcs
    exact ⟨[], none, 0, rfl, fun i hi => by simp at hi⟩
  · simp [Value.cells] at hcs
    obtain ⟨rfl, rfl, rfl⟩ := hcs
    simp at hmm
    have hsp : 0 < len → a.spot = none := by
      intro h0
      obtain ⟨cs', h1, _⟩ := hx 0 (by omega)
      rw [cells_prop] at h1
      obtain ⟨c0, _, _, _, _, k0, _⟩ := four_cells h1
      have := World.cell?_spot k0
      simpa [Addr.add] using this
    have each : ∀ i, i < len → ∃ q : Pr, ∃ b off, a = ⟨b, off, none⟩ ∧ b < W.heap.size ∧ W.cell? ⟨b, off + i * 4, none⟩ = some (.int .i64 q.br) ∧ W.cell? ⟨b, off + i * 4 + 1, none⟩ = some (.bool q.pc) ∧
        W.cell? ⟨b, off + i * 4 + 2, none⟩ = some (.int .i64 q.cv) ∧ W.cell? ⟨b, off + i * 4 + 3, none⟩ = some (.int .i64 q.ea) := by
      intro i hi
      obtain ⟨cs', h1, h2⟩ := hx i (by omega)
      rw [cells_prop] at h1
      obtain ⟨c0, c1, c2, c3, rfl, k0, k1, k2, k3⟩ := four_cells h1
      obtain ⟨y0, y1, y2, y3, n', _, _, t0, t1, t2, t3⟩ := trod_struct4 Try.underlying86 h2
      obtain ⟨z0, e0, _, _⟩ := DataW.trod_int Try.underlying3 t0
      obtain ⟨z1, e1, _⟩ := DataW.trod_bool Try.underlying4 t1
      obtain ⟨z2, e2, _, _⟩ := DataW.trod_int Try.underlying3 t2
      obtain ⟨z3, e3, _, _⟩ := DataW.trod_int Try.underlying3 t3
      simp [cells_int, cells_bool] at e0 e1 e2 e3
      subst e0 e1 e2 e3
      obtain ⟨b, off, sp⟩ := a
      have hs : sp = none := hsp (by omega)
      subst hs
      rw [Addr.add_lit, Addr.add_lit] at k0 k1 k2 k3
      exact ⟨⟨z0, z1, z2, z3⟩, b, off, rfl, World.block_lt_of_cell? W ⟨b, off + i * 4 + 0, none⟩ k0, k0, k1, k2, k3⟩
    refine ⟨List.ofFn (n := len) fun i => Classical.choose (each i.val i.isLt), some a, cap, by simp, fun i hi => ?_⟩
    have hi' : i < len := by simpa using hi
    obtain ⟨b, off, rfl, h1, h2, h3, h4, h5⟩ := Classical.choose_spec (each i hi')
    refine ⟨b, off, rfl, h1, ?_, ?_, ?_, ?_⟩
    · simpa using h2
    · simpa using h3
    · simpa using h4
    · simpa using h5
theorem HeldP.below {w w' : World} {v : Value} {xs : List Pr} (h : HeldP w v xs) (hb : Below w.heap.size w w') : HeldP w' v xs := by
  obtain ⟨ao, cap, rfl, hc⟩ := h
  refine ⟨ao, cap, rfl, fun i hi => ?_⟩
  obtain ⟨b, off, rfl, hlt, h1, h2, h3, h4⟩ := hc i hi
  exact ⟨b, off, rfl, by have := hb.size; omega, (hb.cell (p := ⟨b, _, none⟩) hlt).trans h1, (hb.cell (p := ⟨b, _, none⟩) hlt).trans h2, (hb.cell (p := ⟨b, _, none⟩) hlt).trans h3, (hb.cell (p := ⟨b, _, none⟩) hlt).trans h4⟩
theorem HeldP.view {w : World} {v : Value} {xs : List Pr} (h : HeldP w v xs) : ∃ ao cap, v = .slice ao xs.length cap ∧ ∀ i (h : i < xs.length), ∃ b off, ao = some ⟨b, off, none⟩ ∧ b < w.heap.size ∧ w.cell? ⟨b, off + i * 4, none⟩ = some (.int .i64 xs[i].br) ∧ w.cell? ⟨b, off + i * 4 + 1, none⟩ = some (.bool xs[i].pc) ∧
    w.cell? ⟨b, off + i * 4 + 2, none⟩ = some (.int .i64 xs[i].cv) ∧ w.cell? ⟨b, off + i * 4 + 3, none⟩ = some (.int .i64 xs[i].ea) := h
def Pr.none : Pr := ⟨0, false, 0, 0⟩
theorem HeldP.at {w : World} {ao : Option Addr} {n cap : Nat} {xs : List Pr} (h : HeldP w (.slice ao n cap) xs) : n = xs.length ∧ ∀ i, i < xs.length → ∃ b off, ao = some ⟨b, off, none⟩ ∧ b < w.heap.size ∧ w.cell? ⟨b, off + i * 4, none⟩ = some (.int .i64 (xs.getD i Pr.none).br) ∧ w.cell? ⟨b, off + i * 4 + 1, none⟩ = some (.bool (xs.getD i Pr.none).pc) ∧
    w.cell? ⟨b, off + i * 4 + 2, none⟩ = some (.int .i64 (xs.getD i Pr.none).cv) ∧ w.cell? ⟨b, off + i * 4 + 3, none⟩ = some (.int .i64 (xs.getD i Pr.none).ea) := by
  obtain ⟨ao', cap', e, hc⟩ := h
  cases e
  refine ⟨rfl, fun i hi => ?_⟩
  have := hc i hi
  rw [show xs[i] = xs.getD i Pr.none by simp [List.getD, List.getElem?_eq_getElem hi]] at this
  exact this
end Go.Proofs.Ytgkcobmbdpgceaa
/- Lists of properties that the call itself makes: appended one by one; rows of structs. -/
namespace Go.Proofs.Ytgkcobmbdpgceaa
open Go.RowKit Go.ChangeShapes Go.WideShapes
theorem wpList_append_newS {P : Program} (w0 : World) {ops : Array Oper} {rest : List Oper} {o : Oper} {a : Act} {Q : Exit → Act → World → Prop} (hgd : o.guard = none) (s x : Operand) (t : TypeId)
    (ho : o.op = .call { callee := .builtin .append, args := #[s, x], argTypes := #[t, t] })
    (base : Nat) (e : TypeId) (z : Value) (size bytes : Nat) (ht : P.underlying t = some (.slice e)) (hinfo : (P.info? e).map (fun i => (i.zero, i.size, i.bytes)) = some (some z, size, bytes)) (hzs : z.cells.size = size) (hsz : 0 < size)
    (v : Value) (n : Nat) (xs : List Value) (hs : a.eval s = v) (hown : w0.ownsRow base e size v n xs)
    (C : List Value) (m c : Nat) (hx : a.eval x = .slice (some ⟨w0.heap.size, 0, none⟩) m c) (hl : C.length = m * size) (h1 : ∀ u ∈ C, u.oneCell' = true)
    (hbytes : (n + m) * bytes ≤ 140737488355328) (hb0 : n + m ≤ 140737488355328) (hbase : base ≤ w0.heap.size)
    (h : ∀ v' w', w'.ownsRow base e size v' (n + m) (xs ++ C) → Below base w0 w' → wpList P ops Q rest (a.put o.dst v') w') :
    wpList P ops Q (o :: rest) a (w0.alloc (.cells C.toArray e)) := by
  obtain ⟨i0, hi, hz0, hz1, hz2⟩ := info_parts hinfo
  refine wpList_append_own _ hgd s x t ho base e i0 z size bytes ht hi hz0 hz1 hz2 hzs hsz v n xs hs (hown.alloc _) ⟨w0.heap.size, 0, none⟩ m c C hx (by omega) (new_cells w0 C e) h1 (by unfold maxLen; omega) hbytes (by simp; omega) ?_
  intro v' w' hown' hgrow _
  refine h v' w' hown' (((Below.refl base w0).alloc hbase _).grown hgrow (by simp; omega) fun k hk => ((hown.alloc (.cells C.toArray e)).lt k hk).1)
def prCells (q : Pr) : List Value := [.int .i64 q.br, .bool q.pc, .int .i64 q.cv, .int .i64 q.ea]
def prsCells (l : List Pr) : List Value := l.flatMap prCells
theorem prsCells_at : ∀ (l : List Pr) (i : Nat) (h : i < l.length), (prsCells l)[i * 4]? = some (.int .i64 l[i].br) ∧ (prsCells l)[i * 4 + 1]? = some (.bool l[i].pc) ∧ (prsCells l)[i * 4 + 2]? = some (.int .i64 l[i].cv) ∧ (prsCells l)[i * 4 + 3]? = some (.int .i64 l[i].ea)
  | [], i, h => absurd h (Nat.not_lt_zero _)
  | q :: l, 0, _ => ⟨rfl, rfl, rfl, rfl⟩
  | q :: l, i + 1, h => by
    have := prsCells_at l i (by simpa using h)
    rw [show (i + 1) * 4 = i * 4 + 4 by omega, show i * 4 + 4 + 1 = i * 4 + 1 + 4 by omega, show i * 4 + 4 + 2 = i * 4 + 2 + 4 by omega, show i * 4 + 4 + 3 = i * 4 + 3 + 4 by omega]
    simpa [prsCells, prCells] using this
theorem prsCells_len (l : List Pr) : (prsCells l).length = 4 * l.length := by
  induction l with
  | nil => rfl
  | cons q l ih => simp only [prsCells, List.flatMap_cons, List.length_append, prCells, List.length_cons, List.length_nil] at *; omega
theorem heldP_of_owns {w : World} {B e : Nat} {v : Value} {n : Nat} {l : List Pr} (h : w.ownsRow B e 4 v n (prsCells l)) : HeldP w v l := by
  have hl : l.length = n := by have := h.1; rw [prsCells_len] at this; omega
  subst hl
  rcases h.2 with ⟨rfl, hn⟩ | ⟨g, cap, cur, rfl, hb, hg, h1, h2, h3, h4⟩
  · have : l = [] := List.eq_nil_of_length_eq_zero hn
    subst this
    exact ⟨none, 0, rfl, fun i hi => by simp at hi⟩
  · refine ⟨some ⟨g, 0, none⟩, cap, rfl, fun i hi => ⟨g, 0, rfl, (Array.getElem?_eq_some_iff.1 hg).1, ?_⟩⟩
    obtain ⟨k0, k1, k2, k3⟩ := prsCells_at l i hi
    have c0 := h.cells (g := g) rfl _ _ k0
    have c1 := h.cells (g := g) rfl _ _ k1
    have c2 := h.cells (g := g) rfl _ _ k2
    have c3 := h.cells (g := g) rfl _ _ k3
    rw [Addr.add_lit] at c0 c1 c2 c3
    simp only [Nat.zero_add] at *
    exact ⟨c0, c1, c2, c3⟩
theorem prs_snoc (l : List Pr) (k : Nat) (h : k < l.length) : prsCells (l.take (k + 1)) = prsCells (l.take k) ++ prCells (l.getD k Pr.none) := by
  unfold prsCells
  rw [List.take_succ_eq_append_getElem h, List.flatMap_append, List.flatMap_cons, List.flatMap_nil, List.append_nil, show l.getD k Pr.none = l[k] by simp [List.getD, List.getElem?_eq_getElem h]]
end Go.Proofs.Ytgkcobmbdpgceaa
/- Tables of stretches of numbers: which number lies in one; the tables that chapters 9 to 12 give, and what is known of them. Of no program. -/
namespace Go.Proofs.Ytgkcobmbdpgceaa
/-- Does r lie in a stretch? -/
def inTab (T : List (Int × Int)) (r : Int) : Bool := T.any fun p => decide (p.1 ≤ r) && decide (r ≤ p.2)
/-- Stretches that rise and don't meet. -/
def upTab : List (Int × Int) → Bool
  | [] => true
  | [p] => decide (p.1 ≤ p.2)
  | p :: q :: l => decide (p.1 ≤ p.2) && decide (p.2 < q.1) && upTab (q :: l)
theorem upTab_cons {p : Int × Int} {l : List (Int × Int)} (h : upTab (p :: l) = true) : p.1 ≤ p.2 ∧ upTab l = true ∧ ∀ q ∈ l, p.2 < q.1 := by
  induction l generalizing p with
  | nil => exact ⟨by simpa [upTab] using h, rfl, fun q hq => by cases hq⟩
  | cons q l ih =>
    simp only [upTab, Bool.and_eq_true, decide_eq_true_eq] at h
    obtain ⟨i1, _, i3⟩ := ih h.2
    refine ⟨h.1.1, h.2, fun x hx => ?_⟩
    rcases List.mem_cons.1 hx with rfl | hx
    · exact h.1.2
    · have := i3 x hx; omega
theorem up_le : ∀ {T : List (Int × Int)}, upTab T = true → ∀ i (h : i < T.length), T[i].1 ≤ T[i].2
  | [], _, i, h => absurd h (Nat.not_lt_zero _)
  | p :: l, hu, 0, _ => (upTab_cons hu).1
  | p :: l, hu, i + 1, h => up_le (T := l) (upTab_cons hu).2.1 i (by simpa using h)
theorem up_lt : ∀ {T : List (Int × Int)}, upTab T = true → ∀ i j (hi : i < j) (hj : j < T.length), (T[i]'(by omega)).2 < T[j].1
  | [], _, i, j, _, hj => absurd hj (Nat.not_lt_zero _)
  | p :: l, hu, 0, j + 1, _, hj => (upTab_cons hu).2.2 _ (List.getElem_mem (by simpa using hj))
  | p :: l, hu, i + 1, j + 1, hi, hj => up_lt (T := l) (upTab_cons hu).2.1 i j (by omega) (by simpa using hj)
theorem inTab_of {T : List (Int × Int)} {r : Int} (i : Nat) (h : i < T.length) (h1 : T[i].1 ≤ r) (h2 : r ≤ T[i].2) : inTab T r = true :=
  List.any_eq_true.2 ⟨T[i], List.getElem_mem h, by simp [h1, h2]⟩
theorem inTab_at {T : List (Int × Int)} {r : Int} (h : inTab T r = true) : ∃ i, ∃ h : i < T.length, T[i].1 ≤ r ∧ r ≤ T[i].2 := by
  obtain ⟨p, hp, hh⟩ := List.any_eq_true.1 h
  obtain ⟨i, hi, rfl⟩ := List.getElem_of_mem hp
  simp at hh
  exact ⟨i, hi, hh.1, hh.2⟩
theorem inTab_none {T : List (Int × Int)} {r : Int} (h : ∀ i (h : i < T.length), ¬ (T[i].1 ≤ r ∧ r ≤ T[i].2)) : inTab T r = false := by
  cases ht : inTab T r with
  | false => rfl
  | true =>
    obtain ⟨i, hi, hh⟩ := inTab_at ht
    exact absurd hh (h i hi)
/-- The first stretch that doesn't end below r holds r, or none does. -/
theorem inTab_search {T : List (Int × Int)} {r : Int} (hu : upTab T = true) (i : Nat) (hi : i < T.length) (hlo : ∀ j (hj : j < i), (T[j]'(by omega)).2 < r) (hhi : r ≤ T[i].2) : inTab T r = decide (T[i].1 ≤ r) := by
  by_cases h1 : T[i].1 ≤ r
  · rw [decide_eq_true h1]; exact inTab_of i hi h1 hhi
  · rw [decide_eq_false h1]
    refine inTab_none fun k hk hh => ?_
    rcases Nat.lt_trichotomy k i with h | h | h
    · have := hlo k h; omega
    · subst h; omega
    · have := up_lt hu i k h hk; have := up_le hu i hi; omega
theorem inTab_past {T : List (Int × Int)} {r : Int} (hlo : ∀ j (hj : j < T.length), (T[j]'(by omega)).2 < r) : inTab T r = false :=
  inTab_none fun k hk hh => by have := hlo k hk; omega
/-- Tables that don't meet. -/
def apart (T U : List (Int × Int)) : Bool := T.all fun p => U.all fun q => decide (p.2 < q.1) || decide (q.2 < p.1)
theorem apart_not {T U : List (Int × Int)} {r : Int} (h : apart T U = true) (ht : inTab T r = true) : inTab U r = false := by
  refine inTab_none fun k hk hh => ?_
  obtain ⟨i, hi, h1, h2⟩ := inTab_at ht
  have := List.all_eq_true.1 (List.all_eq_true.1 h _ (List.getElem_mem hi)) _ (List.getElem_mem hk)
  simp at this
  omega
/-- Each stretch of T lies in one of U. -/
def within (T U : List (Int × Int)) : Bool := T.all fun p => U.any fun q => decide (q.1 ≤ p.1) && decide (p.2 ≤ q.2)
theorem within_in {T U : List (Int × Int)} {r : Int} (h : within T U = true) (ht : inTab T r = true) : inTab U r = true := by
  obtain ⟨i, hi, h1, h2⟩ := inTab_at ht
  have := List.all_eq_true.1 h _ (List.getElem_mem hi)
  obtain ⟨q, hq, hh⟩ := List.any_eq_true.1 this
  simp at hh
  exact List.any_eq_true.2 ⟨q, hq, by simp; omega⟩
theorem inTab_one (a b r : Int) : inTab [(a, b)] r = (decide (a ≤ r) && decide (r ≤ b)) := by simp [inTab]
def tControl : List (Int × Int) := [
  (0, 9), (11, 12), (14, 31), (127, 159), (173, 173), (1564, 1564), (6158, 6158), (8203, 8203), (8206, 8207), (8232, 8238), (8288, 8303), 
  (65279, 65279), (65520, 65531), (917504, 917535), (917632, 917759), (918000, 921599)]
theorem tControl_up : upTab tControl = true := by decide +kernel
theorem tControl_len : tControl.length = 16 := by decide +kernel
def tExtend : List (Int × Int) := [
  (768, 879), (1155, 1161), (1425, 1469), (1471, 1471), (1473, 1474), (1476, 1477), (1479, 1479), (1552, 1562), (1611, 1631), (1648, 1648), 
  (1750, 1756), (1759, 1764), (1767, 1768), (1770, 1773), (1809, 1809), (1840, 1866), (1958, 1968), (2027, 2035), (2070, 2073), (2075, 2083), 
  (2259, 2273), (2275, 2306), (2362, 2362), (2364, 2364), (2369, 2376), (2381, 2381), (2385, 2391), (2402, 2403), (2433, 2433), (2492, 2492), 
  (2494, 2494), (2497, 2500), (2509, 2509), (2519, 2519), (2530, 2531), (2561, 2562), (2620, 2620), (2625, 2626), (2631, 2632), (2635, 2637), 
  (2748, 2748), (2753, 2757), (2765, 2765), (2876, 2876), (2878, 2879), (2881, 2884), (2893, 2893), (2902, 2903), (3132, 3132), (3134, 3136), 
  (3142, 3144), (3146, 3149), (3276, 3277), (3390, 3390), (3393, 3396), (3405, 3405), (3633, 3633), (3636, 3642), (3655, 3662), (3761, 3761), 
  (3764, 3772), (3864, 3865), (3953, 3966), (4957, 4959), (6832, 6862), (7616, 7679), (8204, 8204), (8400, 8432), (12330, 12335), (12441, 12442), 
  (42607, 42610), (64286, 64286), (65024, 65039), (65056, 65071), (127995, 127999), (917536, 917631), (917760, 917999)]
theorem tExtend_up : upTab tExtend = true := by decide +kernel
theorem tExtend_len : tExtend.length = 77 := by decide +kernel
def tPrepend : List (Int × Int) := [
  (1536, 1541), (1757, 1757), (1807, 1807), (2192, 2193), (2274, 2274), (3406, 3406), (69821, 69821), (69837, 69837)]
theorem tPrepend_up : upTab tPrepend = true := by decide +kernel
theorem tPrepend_len : tPrepend.length = 8 := by decide +kernel
def tSpacing : List (Int × Int) := [
  (2307, 2307), (2363, 2363), (2366, 2368), (2377, 2380), (2382, 2383), (2434, 2435), (2495, 2496), (2503, 2504), (2507, 2508), (2563, 2563), 
  (2622, 2624), (2691, 2691), (2750, 2752), (2761, 2761), (2818, 2819), (2880, 2880), (2887, 2888), (3073, 3075), (3137, 3140), (3330, 3331), 
  (3391, 3392), (3398, 3400), (3635, 3635), (3763, 3763), (3902, 3903), (4155, 4156)]
theorem tSpacing_up : upTab tSpacing = true := by decide +kernel
theorem tSpacing_len : tSpacing.length = 26 := by decide +kernel
def tPict : List (Int × Int) := [
  (169, 169), (174, 174), (8252, 8252), (8265, 8265), (8482, 8482), (8505, 8505), (8596, 8601), (8617, 8618), (8986, 8987), (9000, 9000), (9096, 9096), 
  (9167, 9167), (9193, 9203), (9208, 9210), (9410, 9410), (9642, 9643), (9654, 9654), (9664, 9664), (9723, 9726), (9728, 9733), (9735, 9746), 
  (9748, 9861), (9872, 9989), (9992, 10002), (10004, 10004), (10006, 10006), (10013, 10013), (10017, 10017), (10024, 10024), (10035, 10036), 
  (10052, 10052), (10055, 10055), (10060, 10060), (10062, 10062), (10067, 10069), (10071, 10071), (10083, 10087), (10133, 10135), (10145, 10145), 
  (10160, 10160), (10175, 10175), (10548, 10549), (11013, 11015), (11035, 11036), (11088, 11088), (11093, 11093), (12336, 12336), (12349, 12349), 
  (12951, 12951), (12953, 12953), (126976, 127231), (127245, 127247), (127279, 127279), (127340, 127345), (127358, 127359), (127374, 127374), 
  (127377, 127386), (127405, 127461), (127489, 127503), (127514, 127514), (127535, 127535), (127538, 127546), (127548, 127551), (127561, 127994), 
  (128000, 128317), (128326, 128591), (128640, 128767), (128884, 128895), (128981, 129023), (129036, 129039), (129096, 129103), (129114, 129119), 
  (129160, 129167), (129198, 129279), (129292, 129338), (129340, 129349), (129351, 129791), (130048, 131069)]
theorem tPict_up : upTab tPict = true := by decide +kernel
theorem tPict_len : tPict.length = 78 := by decide +kernel
def tCons : List (Int × Int) := [
  (2325, 2361), (2392, 2399), (2424, 2431), (2453, 2472), (2474, 2480), (2482, 2482), (2486, 2489), (2524, 2525), (2527, 2527), (2544, 2545), 
  (2709, 2728), (2730, 2736), (2738, 2739), (2741, 2745), (2809, 2809), (2837, 2856), (2858, 2864), (2866, 2867), (2869, 2873), (2908, 2909), 
  (2911, 2911), (2929, 2929), (3093, 3112), (3114, 3129), (3160, 3162), (3349, 3386)]
theorem tCons_up : upTab tCons = true := by decide +kernel
theorem tCons_len : tCons.length = 26 := by decide +kernel
def tLink : List (Int × Int) := [
  (2381, 2381), (2509, 2509), (2765, 2765), (2893, 2893), (3149, 3149), (3405, 3405)]
theorem tLink_up : upTab tLink = true := by decide +kernel
theorem tLink_len : tLink.length = 6 := by decide +kernel
def tJoin : List (Int × Int) := [
  (768, 879), (1155, 1159), (1425, 1469), (1552, 1562), (1611, 1631), (2364, 2364), (2385, 2388), (2492, 2492), (2748, 2748), (2876, 2876), 
  (3132, 3132), (6832, 6845), (7616, 7679), (8205, 8205), (8400, 8412), (12330, 12335), (12441, 12442), (65056, 65071)]
theorem tJoin_up : upTab tJoin = true := by decide +kernel
theorem tJoin_len : tJoin.length = 18 := by decide +kernel
def tWide : List (Int × Int) := [
  (4352, 4447), (8986, 8987), (9001, 9002), (9193, 9196), (9200, 9200), (9203, 9203), (9725, 9726), (9748, 9749), (9800, 9811), (9855, 9855), 
  (9875, 9875), (9889, 9889), (9898, 9899), (9917, 9918), (9924, 9925), (9934, 9934), (9940, 9940), (9962, 9962), (9970, 9971), (9973, 9973), 
  (9978, 9978), (9981, 9981), (9989, 9989), (9994, 9995), (10024, 10024), (10060, 10060), (10062, 10062), (10067, 10069), (10071, 10071), 
  (10133, 10135), (10160, 10160), (10175, 10175), (11035, 11036), (11088, 11088), (11093, 11093), (11904, 11929), (11931, 12019), (12032, 12245), 
  (12272, 12287), (12289, 12350), (12353, 12438), (12441, 12543), (12549, 12591), (12593, 12686), (12688, 12771), (12784, 12830), (12832, 12871), 
  (12880, 19903), (19968, 42124), (42128, 42182), (43360, 43388), (44032, 55203), (63744, 64255), (65040, 65049), (65072, 65106), (65108, 65126), 
  (65128, 65131), (94176, 94180), (94208, 100343), (100352, 101589), (110592, 110882), (126980, 126980), (127183, 127183), (127374, 127374), 
  (127377, 127386), (127488, 127490), (127504, 127547), (127552, 127560), (127568, 127569), (127584, 127589), (127744, 127776), (127789, 127797), 
  (127799, 127868), (127870, 127891), (127904, 127946), (127951, 127955), (127968, 127984), (127988, 127988), (127992, 128062), (128064, 128064), 
  (128066, 128252), (128255, 128317), (128331, 128334), (128336, 128359), (128378, 128378), (128405, 128406), (128420, 128420), (128507, 128591), 
  (128640, 128709), (128716, 128716), (128720, 128722), (128725, 128727), (128732, 128735), (128747, 128748), (128756, 128764), (128992, 129003), 
  (129008, 129008), (129292, 129338), (129340, 129349), (129351, 129535), (129648, 129660), (129664, 129672), (129680, 129725), (129727, 129733), 
  (129742, 129755), (129760, 129768), (129776, 129784), (131072, 196605), (196608, 262141)]
theorem tWide_up : upTab tWide = true := by decide +kernel
theorem tWide_len : tWide.length = 109 := by decide +kernel
def tFull : List (Int × Int) := [
  (12288, 12288), (65281, 65376), (65504, 65510)]
theorem tFull_up : upTab tFull = true := by decide +kernel
theorem tFull_len : tFull.length = 3 := by decide +kernel
def tHalf : List (Int × Int) := [
  (8361, 8361), (65377, 65470), (65474, 65479), (65482, 65487), (65490, 65495), (65498, 65500), (65512, 65518)]
theorem tHalf_up : upTab tHalf = true := by decide +kernel
theorem tHalf_len : tHalf.length = 7 := by decide +kernel

theorem a1 : apart tSpacing tPrepend = true := by decide +kernel
theorem a2 : apart tControl [(13, 13), (10, 10), (8205, 8205), (127462, 127487)] = true := by decide +kernel
theorem a3 : apart tExtend [(13, 13), (10, 10), (8205, 8205), (127462, 127487)] = true := by decide +kernel
end Go.Proofs.Ytgkcobmbdpgceaa
