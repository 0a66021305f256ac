/- Contracts of border's functions. -/
import Derived.Test.YtbchdpgcjiepfaaGraC
import Derived.Test.YtbchdpgcjiepfaaSearch
namespace Go.Proofs.Ytbchdpgcjiepfaa
open Go.RowKit Go.ChangeShapes Go.WideShapes
def GivesHeld (w : World) (l : List Int) (en : Ending) (w' : World) : Prop := ∃ v, en = .returned v ∧ Held .i64 w' v l ∧ Below w.heap.size w w'
def bJ (xs : List Int) : Nat → Bool := jR (knownL xs)
def bB (xs : List Int) : Nat → Bool := isB (bJ xs) xs.length
def bAll (xs : List Int) : List Nat := allB (bB xs) xs.length
theorem bB_last (xs : List Int) : bB xs xs.length = true := isB_last _ _
theorem bAll_eq (xs : List Int) : bAll xs = startB (bJ xs) xs.length ++ [xs.length] := allB_starts _ _
theorem bAll_len (xs : List Int) : (bAll xs).length ≤ xs.length + 1 := by
  rw [bAll_eq]
  have := startB_len (bJ xs) xs.length
  simp; omega
theorem held_none {k : IntKind} {w : World} {v : Value} {xs : List Int} (h : Held k w v xs) (hn : xs = []) : ∃ ao cap, v = .slice ao 0 cap := by
  subst hn
  exact h.len
set_option maxRecDepth 100000 in
theorem borders_any (v : Value) (xs : List Int) (w : World) (hx : Held .i32 w v xs) (hn : xs.length ≤ 1000000) :
    Calls Try.prog 15 #[v] w (GivesHeld w (toI (bAll xs))) := by
  have HE := Lib.hid (bAll_eq xs)
  rcases Nat.eq_zero_or_pos xs.length with h0 | hpos
  · obtain rfl : xs = [] := List.eq_nil_of_length_eq_zero h0
    obtain ⟨ao, ca, rfl⟩ := hx.len
    clear hx
    go_enter Try.func15, Try.ntmps15
    go_wp2
    go_ret
    exact ⟨_, rfl, by rw [HE.out]; exact held_new .i64 w [.int .i64 0] 3 1 1 [0] rfl rfl, (Below.refl _ _).alloc (Nat.le_refl _) _⟩
  · obtain ⟨ao, ca, rfl, _⟩ := hx.view
    have HX := Lib.hid hx
    have hsl := startB_len (bJ xs) xs.length
    clear hx
    go_enter Try.func15, Try.ntmps15
    go_wp2_with fail
    refine (gstarts_any _ xs _ HX.out hn).mono ?_
    rintro e w1 ⟨v1, m, rfl, hown, b1⟩
    have hm : m = (startB (bJ xs) xs.length).length := by have := hown.1; simp [toI_len] at this; exact this.symm
    have hm2 : m ≤ 1000000 := by omega
    have HM := Lib.hid hm
    clear hm
    go_wp2_with (at_builtin; refine wpList_append_new w1 rfl (.tmp 8) (.tmp 11) 28 rfl w.heap.size 3 (.int .i64 0) 8 Try.underlying28 info_int rfl v1 m ((toI (startB (bJ xs) xs.length)).map (Value.int .i64)) rfl hown [.int .i64 (xs.length : Int)] 1 1 rfl rfl (by intro u hu; simp at hu; rcases hu with rfl <;> rfl) (by omega) (by omega) b1.size ?_)
    intro v' w' hown' hb'
    have HH := Lib.hid (show Held .i64 w' v' (toI (bAll xs)) from held_of_owns (by rw [HE.out, toI_snoc]; exact hown'))
    have hfin := b1.trans hb'
    clear hown hown'
    go_wp2
    go_ret
    exact ⟨_, rfl, HH.out, hfin⟩
theorem sort_all (xs : List Int) {i j : Nat} (hij : i ≤ j) (hj : j < (bAll xs).length) : (toI (bAll xs)).getD i 0 ≤ (toI (bAll xs)).getD j 0 := by
  rw [toI_at (show i < (bAll xs).length by omega), toI_at hj]
  rcases Nat.lt_or_ge i j with h | h
  · have := allB_lt (B := bB xs) (n := xs.length) i j h hj
    exact_mod_cast Nat.le_of_lt this
  · obtain rfl : i = j := by omega
    exact Int.le_refl _
theorem bbox (w : World) (v : Value) (t : Int) : ∃ W, W = (w.alloc (.cells #[v] 28)).alloc (.cells #[.int .i64 t] 3) ∧ Has W w.heap.size [v] 28 ∧ Has W (w.heap.size + 1) [.int .i64 t] 3 ∧ Below w.heap.size w W := by
  refine ⟨_, rfl, (Has.new w _ _).alloc _, ?_, ((Below.refl _ _).alloc (Nat.le_refl _) _).alloc (by simp) _⟩
  have := Has.new (w.alloc (.cells #[v] 28)) [.int .i64 t] 3
  rw [World.size_alloc] at this
  exact this
set_option maxRecDepth 100000 in
theorem clo_above (w : World) (b1 b2 : Nat) (v : Value) (l : List Int) (t : Int) (hb1 : w.cell? ⟨b1, 0, none⟩ = some v) (hb2 : w.cell? ⟨b2, 0, none⟩ = some (.int .i64 t)) (hh : Held .i64 w v l) (i : Nat) (hi : i < l.length) (hl : l.length ≤ 10000000) :
    Calls Try.prog 23 (#[.int .i64 i] ++ #[.pointer (some ⟨b1, 0, none⟩), .pointer (some ⟨b2, 0, none⟩)]) w (Gives w (.bool (decide (t < l.getD i 0)))) := by
  obtain ⟨ao, ca, rfl, hc⟩ := hh.view
  obtain ⟨b, off, rfl, hb, hcx⟩ := hc i hi
  generalize l.getD i 0 = y at *
  clear hc hh
  go_enter Try.func23, Try.ntmps23
  go_wp2
  go_quiet (fail)
  go_wp2
  go_ret
  exact ⟨(ret_eq (by first | rfl | (simp <;> omega))), (Below.refl _ _).drewN _⟩
set_option maxRecDepth 100000 in
theorem clo_upto (w : World) (b1 b2 : Nat) (v : Value) (l : List Int) (t : Int) (hb1 : w.cell? ⟨b1, 0, none⟩ = some v) (hb2 : w.cell? ⟨b2, 0, none⟩ = some (.int .i64 t)) (hh : Held .i64 w v l) (i : Nat) (hi : i < l.length) (hl : l.length ≤ 10000000) :
    Calls Try.prog 22 (#[.int .i64 i] ++ #[.pointer (some ⟨b1, 0, none⟩), .pointer (some ⟨b2, 0, none⟩)]) w (Gives w (.bool (decide (t < l.getD i 0)))) := by
  obtain ⟨ao, ca, rfl, hc⟩ := hh.view
  obtain ⟨b, off, rfl, hb, hcx⟩ := hc i hi
  generalize l.getD i 0 = y at *
  clear hc hh
  go_enter Try.func22, Try.ntmps22
  go_wp2
  go_quiet (fail)
  go_wp2
  go_ret
  exact ⟨(ret_eq (by first | rfl | (simp <;> omega))), (Below.refl _ _).drewN _⟩
set_option maxRecDepth 100000 in
theorem clo_ints (w : World) (b1 b2 : Nat) (v : Value) (l : List Int) (t : Int) (hb1 : w.cell? ⟨b1, 0, none⟩ = some v) (hb2 : w.cell? ⟨b2, 0, none⟩ = some (.int .i64 t)) (hh : Held .i64 w v l) (i : Nat) (hi : i < l.length) (hl : l.length ≤ 10000000) :
    Calls Try.prog 24 (#[.int .i64 i] ++ #[.pointer (some ⟨b1, 0, none⟩), .pointer (some ⟨b2, 0, none⟩)]) w (Gives w (.bool (decide (t ≤ l.getD i 0)))) := by
  obtain ⟨ao, ca, rfl, hc⟩ := hh.view
  obtain ⟨b, off, rfl, hb, hcx⟩ := hc i hi
  generalize l.getD i 0 = y at *
  clear hc hh
  go_enter Try.func24, Try.ntmps24
  go_wp2
  go_quiet (fail)
  go_wp2
  go_ret
  exact ⟨(ret_eq (by first | rfl | (simp <;> omega))), (Below.refl _ _).drewN _⟩
theorem above_s (xs : List Int) (v : Value) (t : Int) (w : World) (hh : Held .i64 w v (toI (bAll xs))) (hn : xs.length ≤ 1000000) (W : World) (hb1 : Has W w.heap.size [v] 28) (hb2 : Has W (w.heap.size + 1) [.int .i64 t] 3) (hl : Below w.heap.size w W) :
    Calls Try.prog 21 #[.int .i64 ((bAll xs).length : Nat), .func (.func 23) #[] #[.pointer (some ⟨w.heap.size, 0, none⟩), .pointer (some ⟨w.heap.size + 1, 0, none⟩)]] W (Found W (bAll xs).length (fun i => decide (t < (toI (bAll xs)).getD i 0))) := by
  have hlen := bAll_len xs
  refine search_any 23 _ (bAll xs).length _ W (enters_of Try.func23 (by kernel_rfl) rfl) (by omega) ?_ ?_
  · intro w' hb i hi
    exact clo_above w' _ _ v _ t ((hb1.below hb hb1.lt).cell 0 _ rfl) ((hb2.below hb hb2.lt).cell 0 _ rfl) ((hh.below hl).below hb) i (by rw [toI_len]; exact hi) (by rw [toI_len]; omega)
  · intro a b hab hb h
    have := sort_all xs hab hb
    simp at h ⊢
    simp at this
    omega
theorem upto_s (xs : List Int) (v : Value) (t : Int) (w : World) (hh : Held .i64 w v (toI (bAll xs))) (hn : xs.length ≤ 1000000) (W : World) (hb1 : Has W w.heap.size [v] 28) (hb2 : Has W (w.heap.size + 1) [.int .i64 t] 3) (hl : Below w.heap.size w W) :
    Calls Try.prog 21 #[.int .i64 ((bAll xs).length : Nat), .func (.func 22) #[] #[.pointer (some ⟨w.heap.size, 0, none⟩), .pointer (some ⟨w.heap.size + 1, 0, none⟩)]] W (Found W (bAll xs).length (fun i => decide (t < (toI (bAll xs)).getD i 0))) := by
  have hlen := bAll_len xs
  refine search_any 22 _ (bAll xs).length _ W (enters_of Try.func22 (by kernel_rfl) rfl) (by omega) ?_ ?_
  · intro w' hb i hi
    exact clo_upto w' _ _ v _ t ((hb1.below hb hb1.lt).cell 0 _ rfl) ((hb2.below hb hb2.lt).cell 0 _ rfl) ((hh.below hl).below hb) i (by rw [toI_len]; exact hi) (by rw [toI_len]; omega)
  · intro a b hab hb h
    have := sort_all xs hab hb
    simp at h ⊢
    simp at this
    omega
theorem ints_s (xs : List Int) (v : Value) (t : Int) (w : World) (hh : Held .i64 w v (toI (bAll xs))) (hn : xs.length ≤ 1000000) (W : World) (hb1 : Has W w.heap.size [v] 28) (hb2 : Has W (w.heap.size + 1) [.int .i64 t] 3) (hl : Below w.heap.size w W) :
    Calls Try.prog 21 #[.int .i64 ((bAll xs).length : Nat), .func (.func 24) #[] #[.pointer (some ⟨w.heap.size, 0, none⟩), .pointer (some ⟨w.heap.size + 1, 0, none⟩)]] W (Found W (bAll xs).length (fun i => decide (t ≤ (toI (bAll xs)).getD i 0))) := by
  have hlen := bAll_len xs
  refine search_any 24 _ (bAll xs).length _ W (enters_of Try.func24 (by kernel_rfl) rfl) (by omega) ?_ ?_
  · intro w' hb i hi
    exact clo_ints w' _ _ v _ t ((hb1.below hb hb1.lt).cell 0 _ rfl) ((hb2.below hb hb2.lt).cell 0 _ rfl) ((hh.below hl).below hb) i (by rw [toI_len]; exact hi) (by rw [toI_len]; omega)
  · intro a b hab hb h
    have := sort_all xs hab hb
    simp at h ⊢
    simp at this
    omega
def upTo' (xs : List Int) (t : Int) : Nat := downB (bB xs) (fun k => decide ((k : Int) ≤ t)) xs.length
def prevTo (xs : List Int) (t : Int) : Nat := downB (bB xs) (fun k => decide ((k : Int) < t)) xs.length
def nextTo (xs : List Int) (t : Int) : Nat := upB (bB xs) (fun k => decide (t < (k : Int))) xs.length xs.length
theorem next_hit {xs : List Int} {t : Int} {i : Nat} (hi : i < (bAll xs).length) (hlo : ∀ j, j < i → decide (t < (toI (bAll xs)).getD j 0) = false) (hhi : ∀ j, i ≤ j → j < (bAll xs).length → decide (t < (toI (bAll xs)).getD j 0) = true) : nextTo xs t = (bAll xs)[i] := by
  have h := search_up (B := bB xs) (p := fun k => decide (t < (k : Int))) (n := xs.length) (bB_last xs) i (Nat.le_of_lt hi) (fun j h hj => by have := hlo j hj; rw [toI_at (l := bAll xs) h] at this; exact this) (fun j h hj => by have := hhi j hj h; rw [toI_at (l := bAll xs) h] at this; exact this)
  have e : min i ((allB (bB xs) xs.length).length - 1) = i := by have : i < (allB (bB xs) xs.length).length := hi; omega
  simp only [e] at h
  exact h
theorem next_end {xs : List Int} {t : Int} {m : Nat} (hm : (bAll xs).length = m + 1) (hlo : ∀ j, j < m + 1 → decide (t < (toI (bAll xs)).getD j 0) = false) : nextTo xs t = (bAll xs)[m] := by
  have hm' : (allB (bB xs) xs.length).length = m + 1 := hm
  have h := search_up (B := bB xs) (p := fun k => decide (t < (k : Int))) (n := xs.length) (bB_last xs) (m + 1) (by omega) (fun j h hj => by have := hlo j hj; rw [toI_at (l := bAll xs) h] at this; exact this) (fun j h hj => by omega)
  have e : min (m + 1) ((allB (bB xs) xs.length).length - 1) = m := by omega
  simp only [e] at h
  exact h
theorem up_hit {xs : List Int} {t : Int} {i : Nat} (hi : i ≤ (bAll xs).length) (h0 : 0 < i) (hlo : ∀ j, j < i → decide (t < (toI (bAll xs)).getD j 0) = false) (hhi : ∀ j, i ≤ j → j < (bAll xs).length → decide (t < (toI (bAll xs)).getD j 0) = true) : upTo' xs t = (bAll xs)[i - 1] := by
  have h := (search_down (B := bB xs) (p := fun k => decide ((k : Int) ≤ t)) (n := xs.length) i hi (fun j h hj => by have := hlo j hj; rw [toI_at (l := bAll xs) h] at this; simp at this ⊢; exact this) (fun j h hj => by have := hhi j hj h; rw [toI_at (l := bAll xs) h] at this; simp at this ⊢; exact this)).1 h0
  exact h
theorem up_zero {xs : List Int} {t : Int} (hhi : ∀ j, 0 ≤ j → j < (bAll xs).length → decide (t < (toI (bAll xs)).getD j 0) = true) : upTo' xs t = 0 :=
  (search_down (B := bB xs) (p := fun k => decide ((k : Int) ≤ t)) (n := xs.length) 0 (Nat.zero_le _) (fun j h hj => by omega) (fun j h hj => by have := hhi j hj h; rw [toI_at (l := bAll xs) h] at this; simp at this ⊢; exact this)).2 rfl
theorem prev_hit {xs : List Int} {t : Int} {i : Nat} (hi : i ≤ (bAll xs).length) (h0 : 0 < i) (hlo : ∀ j, j < i → decide (t ≤ (toI (bAll xs)).getD j 0) = false) (hhi : ∀ j, i ≤ j → j < (bAll xs).length → decide (t ≤ (toI (bAll xs)).getD j 0) = true) : prevTo xs t = (bAll xs)[i - 1] := by
  have h := (search_down (B := bB xs) (p := fun k => decide ((k : Int) < t)) (n := xs.length) i hi (fun j h hj => by have := hlo j hj; rw [toI_at (l := bAll xs) h] at this; simp at this ⊢; exact this) (fun j h hj => by have := hhi j hj h; rw [toI_at (l := bAll xs) h] at this; simp at this ⊢; exact this)).1 h0
  exact h
theorem prev_zero {xs : List Int} {t : Int} (hhi : ∀ j, 0 ≤ j → j < (bAll xs).length → decide (t ≤ (toI (bAll xs)).getD j 0) = true) : prevTo xs t = 0 :=
  (search_down (B := bB xs) (p := fun k => decide ((k : Int) < t)) (n := xs.length) 0 (Nat.zero_le _) (fun j h hj => by omega) (fun j h hj => by have := hhi j hj h; rw [toI_at (l := bAll xs) h] at this; simp at this ⊢; exact this)).2 rfl
/-- Is t a border? -/
def isAt (xs : List Int) (t : Int) : Bool := decide (t ∈ toI (bAll xs))
theorem is_hit {xs : List Int} {t : Int} {i : Nat} (hi : i < (bAll xs).length) (hlo : ∀ j, j < i → decide (t ≤ (toI (bAll xs)).getD j 0) = false) (hhi : ∀ j, i ≤ j → j < (bAll xs).length → decide (t ≤ (toI (bAll xs)).getD j 0) = true) : isAt xs t = ((toI (bAll xs)).getD i 0 == t) := by
  unfold isAt
  by_cases h : (toI (bAll xs)).getD i 0 = t
  · rw [decide_eq_true, h]; simp
    rw [← h]
    have hi' : i < (toI (bAll xs)).length := by rw [toI_len]; exact hi
    simp only [List.getD, List.getElem?_eq_getElem hi', Option.getD_some]
    exact List.getElem_mem hi'
  · rw [decide_eq_false, show ((toI (bAll xs)).getD i 0 == t) = false by simpa using h]
    intro hm
    obtain ⟨j, hj, e⟩ := List.getElem_of_mem hm
    have hj' : j < (bAll xs).length := by rw [toI_len] at hj; exact hj
    have e' : (toI (bAll xs)).getD j 0 = t := by simp only [List.getD, List.getElem?_eq_getElem hj, Option.getD_some]; exact e
    have h1 := hhi i (Nat.le_refl _) hi
    by_cases hji : j < i
    · have := hlo j hji; rw [e'] at this; simp at this
    · by_cases hjj : j = i
      · subst hjj; exact h e'
      · have h2 := sort_all xs (i := i) (j := j) (by omega) hj'
        rw [e'] at h2
        simp at h1
        simp at h2 h
        omega
theorem is_past {xs : List Int} {t : Int} (hlo : ∀ j, j < (bAll xs).length → decide (t ≤ (toI (bAll xs)).getD j 0) = false) : isAt xs t = false := by
  unfold isAt
  rw [decide_eq_false]
  intro hm
  obtain ⟨j, hj, e⟩ := List.getElem_of_mem hm
  have hj' : j < (bAll xs).length := by rw [toI_len] at hj; exact hj
  have e' : (toI (bAll xs)).getD j 0 = t := by simp only [List.getD, List.getElem?_eq_getElem hj, Option.getD_some]; exact e
  have := hlo j hj'
  rw [e'] at this
  simp at this
set_option maxRecDepth 100000 in
theorem above_any (xs : List Int) (v : Value) (t : Int) (w : World) (hh : Held .i64 w v (toI (bAll xs))) (hn : xs.length ≤ 1000000) :
    Calls Try.prog 17 #[v, .int .i64 t] w (Gives w (.int .i64 (nextTo xs t : Nat))) := by
  obtain ⟨ao, ca, rfl, hc⟩ := hh.view
  rw [toI_len] at hc
  obtain ⟨W, hW, hb1, hb2, hl⟩ := bbox w (.slice ao (bAll xs).length ca) t
  have hh' : Held .i64 w (.slice ao (bAll xs).length ca) (toI (bAll xs)) := by rw [toI_len] at hh; exact hh
  have HS := Lib.hid (above_s xs _ t w hh' hn W hb1 hb2 hl)
  have hlen := bAll_len xs
  have hpos : 0 < (bAll xs).length := allB_pos (bB_last xs)
  have HC := Lib.hid hc
  have HB := Lib.hid hb1
  have HL := Lib.hid hl
  have b10 := hb1.cell 0 _ rfl
  clear hc hh hh' hb1 hb2 hl
  rw [toI_len]
  go_enter Try.func17, Try.ntmps17
  go_wp2_with fail
  rw [← hW]
  refine HS.out.mono ?_
  rintro e w1 ⟨i, hi, rfl, hlo, hhi, b1⟩
  have hfin := HL.out.trans (b1.mono HL.out.size)
  have b11 := (HB.out.below b1 HB.out.lt).cell 0 _ rfl
  clear hW b1
  by_cases hil : i < (bAll xs).length
  · obtain ⟨b, off, rfl, hb, hcx⟩ := HC.out i hil
    have hcx := (hfin.cell (p := ⟨b, off + i, none⟩) hb).trans hcx
    rw [toI_at hil] at hcx
    have HV := Lib.hid (next_hit hil hlo hhi)
    clear hlo hhi
    generalize (bAll xs)[i] = y at *
    have hmin : (i : Int) ≤ ((bAll xs).length : Int) - 1 := by omega
    go_wp2
    go_ret
    exact ⟨ret_eq (by rw [HV.out]; rfl), hfin⟩
  · obtain rfl : i = (bAll xs).length := by omega
    obtain ⟨m, hm⟩ : ∃ m, (bAll xs).length = m + 1 := ⟨(bAll xs).length - 1, by omega⟩
    obtain ⟨b, off, rfl, hb, hcx⟩ := HC.out m (by omega)
    have hcx := (hfin.cell (p := ⟨b, off + m, none⟩) hb).trans hcx
    rw [toI_at (show m < (bAll xs).length by omega)] at hcx
    have HV := Lib.hid (next_end hm (fun j hj => hlo j (by omega)))
    clear hlo hhi
    generalize (bAll xs)[m] = y at *
    have hmin : ((bAll xs).length : Int) - 1 = (m : Int) := by omega
    have hmin2 : ¬ ((bAll xs).length : Int) ≤ (m : Int) := by omega
    go_wp2
    go_ret
    exact ⟨ret_eq (by rw [HV.out]; rfl), hfin⟩
end Go.Proofs.Ytbchdpgcjiepfaa
