/- Texts put together: ScrG, ScrM, ScrN. -/
import Derived.Test.YteinppjklhomnaaDoorScrF
import Derived.Lib.MinMax
/- scroll: where nothing is moved; the law's do (33). -/
namespace Go.Proofs.YteinppjklhomnaaDoor
open Go.RowKit Go.ChangeShapes Go.WideShapes
set_option maxRecDepth 100000 in
theorem scup_raw (p : Value) (n : Nat) (hn : n ≤ 1024) (a b k : Int) (w : World) (hh : Calls Tryd.prog 21 #[p] w fun e w' => e = .returned (.int .i64 n) ∧ w = w') (hk : heldK n a b k < 1) : Calls Tryd.prog 97 #[p, .int .i64 a, .int .i64 b, .int .i64 k] w fun e w' => e = .returned (.tuple #[]) ∧ w = w' := by
  have HHE := Lib.hid (scheld_raw p n hn a b k w hh)
  obtain ⟨K, hK⟩ : ∃ K, K = heldK n a b k := ⟨_, rfl⟩
  rw [← hK] at HHE hk
  have hd : decide (K < 1) = true := by rw [decide_eq_true_eq]; exact hk
  clear hK hh hk
  go_enter Tryd.func97, Tryd.ntmps97
  go_wp2_with fail
  refine HHE.out.mono ?_
  rintro e w1 ⟨rfl, rfl⟩
  go_wp2
  first
    | exact bodyPost_ret (v := .tuple #[]) (by simp [results, Tryd.results97, go_sem]) rfl ⟨rfl, rfl⟩
    | exact bodyPost_end (by kernel_rfl) rfl ⟨rfl, rfl⟩
theorem scup_nil (a b k : Int) (w : World) : Calls Tryd.prog 97 #[.pointer none, .int .i64 a, .int .i64 b, .int .i64 k] w fun e w' => e = .returned (.tuple #[]) ∧ w = w' :=
  scup_raw _ 0 (by omega) a b k w (ghigh_nil w) (by have := heldF_le 0 a; have := heldF_le 0 b; unfold heldK; omega)
set_option maxRecDepth 100000 in
theorem scdown_raw (p : Value) (n : Nat) (hn : n ≤ 1024) (a b k : Int) (w : World) (hh : Calls Tryd.prog 21 #[p] w fun e w' => e = .returned (.int .i64 n) ∧ w = w') (hk : heldK n a b k < 1) : Calls Tryd.prog 108 #[p, .int .i64 a, .int .i64 b, .int .i64 k] w fun e w' => e = .returned (.tuple #[]) ∧ w = w' := by
  have HHE := Lib.hid (scheld_raw p n hn a b k w hh)
  obtain ⟨K, hK⟩ : ∃ K, K = heldK n a b k := ⟨_, rfl⟩
  rw [← hK] at HHE hk
  have hd : decide (K < 1) = true := by rw [decide_eq_true_eq]; exact hk
  clear hK hh hk
  go_enter Tryd.func108, Tryd.ntmps108
  go_wp2_with fail
  refine HHE.out.mono ?_
  rintro e w1 ⟨rfl, rfl⟩
  go_wp2
  first
    | exact bodyPost_ret (v := .tuple #[]) (by simp [results, Tryd.results108, go_sem]) rfl ⟨rfl, rfl⟩
    | exact bodyPost_end (by kernel_rfl) rfl ⟨rfl, rfl⟩
theorem scdown_nil (a b k : Int) (w : World) : Calls Tryd.prog 108 #[.pointer none, .int .i64 a, .int .i64 b, .int .i64 k] w fun e w' => e = .returned (.tuple #[]) ∧ w = w' :=
  scdown_raw _ 0 (by omega) a b k w (ghigh_nil w) (by have := heldF_le 0 a; have := heldF_le 0 b; unfold heldK; omega)
end Go.Proofs.YteinppjklhomnaaDoor
/- What moved rows' lines are (33). -/
namespace Go.Proofs.YteinppjklhomnaaDoor
open Go.RowKit Go.ChangeShapes Go.WideShapes
def srcM (Ls : List Ln) (f t q : Nat) (up : Bool) (i : Nat) : Ln :=
  if f ≤ i ∧ i < t then (if up = true then (if i + q < t then Ls.getD (i + q) zl else (List.replicate (Ls.getD i zl).1.length zc, false)) else (if f + q ≤ i then Ls.getD (i - q) zl else (List.replicate (Ls.getD i zl).1.length zc, false))) else Ls.getD i zl
def entM (Ls : List Ln) (f t q : Nat) (up : Bool) (i : Nat) : Ln := ((srcM Ls f t q up i).1, if i + 1 = f ∨ (up = false ∧ i + 1 = t) then false else (srcM Ls f t q up i).2)
def moveL (Ls : List Ln) (f t q : Nat) (up : Bool) : List Ln := (List.range Ls.length).map (entM Ls f t q up)
theorem lines_at_i {Rs : List Rw} {Ls : List Ln} (h : Rs.map lineOf = Ls) (i : Nat) (hi : i < Rs.length) : lineOf (Rs.getD i r0) = Ls.getD i zl := by
  rw [← h]
  simp [List.getD, List.getElem?_eq_getElem hi]
theorem lines_ext {Rs : List Rw} {g : Nat → Ln} {n : Nat} (hl : Rs.length = n) (h : ∀ i, i < n → lineOf (Rs.getD i r0) = g i) : Rs.map lineOf = (List.range n).map g := by
  apply List.ext_getElem (by simp [hl])
  intro i h1 h2
  have hi : i < Rs.length := by simpa using h1
  have := h i (by omega)
  simp only [List.getElem_map, List.getElem_range]
  rw [← this]
  simp [List.getD, List.getElem?_eq_getElem hi]
theorem off_at (R : List Rw) (j i : Nat) (hj : j < R.length) : lineOf ((offAt R j).getD i r0) = if i = j then ((lineOf (R.getD i r0)).1, false) else lineOf (R.getD i r0) := by
  unfold offAt
  rw [getD_setI _ _ _ _ _ hj]
  by_cases e : i = j
  · subst e; rw [if_pos rfl, if_pos rfl]; rfl
  · rw [if_neg e, if_neg e]
theorem up_lines {Rs Ns : List Rw} {Ls : List Ln} {f t q wd : Nat} (h : Rs.map lineOf = Ls) (hf : f < t) (ht : t ≤ Rs.length) (hq : q ≤ t - f) (hm : Ns.map lineOf = List.replicate q (List.replicate wd zc, false)) (hw : ∀ i, i < Rs.length → (Rs.getD i r0).L.length = wd) :
    (if f = 0 then Rs.take f ++ upMid Rs Ns f t q ++ Rs.drop (f + (upMid Rs Ns f t q).length) else offAt (Rs.take f ++ upMid Rs Ns f t q ++ Rs.drop (f + (upMid Rs Ns f t q).length)) (f - 1)).map lineOf = moveL Ls f t q true := by
  have hnl := (lines_wide hm).1
  have hml := upMid_len (Rs := Rs) (Ns := Ns) (f := f) (t := t) (q := q) (by omega) ht hq hnl
  have hLl : Ls.length = Rs.length := by rw [← h]; simp
  obtain ⟨R', hR'⟩ : ∃ R', R' = Rs.take f ++ upMid Rs Ns f t q ++ Rs.drop (f + (upMid Rs Ns f t q).length) := ⟨_, rfl⟩
  have hrl : R'.length = Rs.length := by rw [hR', List.length_append, List.length_append, List.length_take, List.length_drop, hml]; omega
  have hat : ∀ i, i < Rs.length → lineOf (R'.getD i r0) = srcM Ls f t q true i := fun i hi => by
    rw [hR', mid_at _ hml (by omega) ht]
    unfold srcM
    by_cases c1 : i < f
    · rw [if_pos c1, if_neg (by omega)]; exact lines_at_i h i hi
    · rw [if_neg c1]
      by_cases c2 : i < t
      · rw [if_pos c2, if_pos ⟨by omega, c2⟩, if_pos rfl, up_at (by omega) ht hq hnl _ (by omega)]
        by_cases c3 : i + q < t
        · rw [if_pos (by omega), if_pos c3, show f + q + (i - f) = i + q by omega]
          exact lines_at_i h _ (by omega)
        · rw [if_neg (by omega), if_neg c3, ← lines_at_i h i hi, lines_at_i hm _ (by omega)]
          have e : (List.replicate q ((List.replicate wd zc, false) : Ln)).getD (i - f + q - (t - f)) zl = (List.replicate wd zc, false) := by simp [List.getD, List.getElem?_replicate, show i - f + q - (t - f) < q by omega]
          rw [e, show (lineOf (Rs.getD i r0)).1.length = wd from hw i hi]
      · rw [if_neg c2, if_neg (by omega)]; exact lines_at_i h i hi
  rw [← hR']
  unfold moveL
  rw [hLl]
  by_cases h0 : f = 0
  · rw [if_pos h0]
    refine lines_ext hrl fun i hi => ?_
    rw [hat i hi]
    unfold entM
    rw [if_neg (by rintro (e | ⟨e, _⟩); omega; exact absurd e (by decide))]
  · rw [if_neg h0]
    refine lines_ext (by unfold offAt; rw [List.length_set]; exact hrl) fun i hi => ?_
    rw [off_at _ _ _ (by rw [hrl]; omega), hat i hi]
    unfold entM
    by_cases c : i = f - 1
    · rw [if_pos c, if_pos (.inl (by omega))]
    · rw [if_neg c, if_neg (by rintro (e | ⟨e, _⟩); omega; exact absurd e (by decide))]
theorem down_lines {Rs Ns : List Rw} {Ls : List Ln} {f t q wd : Nat} (h : Rs.map lineOf = Ls) (hf : f < t) (ht : t ≤ Rs.length) (hq : q ≤ t - f) (hm : Ns.map lineOf = List.replicate q (List.replicate wd zc, false)) (hw : ∀ i, i < Rs.length → (Rs.getD i r0).L.length = wd) :
    (offAt (if f = 0 then Rs.take f ++ downMid Rs Ns f t q ++ Rs.drop (f + (downMid Rs Ns f t q).length) else offAt (Rs.take f ++ downMid Rs Ns f t q ++ Rs.drop (f + (downMid Rs Ns f t q).length)) (f - 1)) (t - 1)).map lineOf = moveL Ls f t q false := by
  have hnl := (lines_wide hm).1
  have hml := downMid_len (Rs := Rs) (Ns := Ns) (f := f) (t := t) (q := q) (by omega) ht hq hnl
  have hLl : Ls.length = Rs.length := by rw [← h]; simp
  obtain ⟨R', hR'⟩ : ∃ R', R' = Rs.take f ++ downMid Rs Ns f t q ++ Rs.drop (f + (downMid Rs Ns f t q).length) := ⟨_, rfl⟩
  have hrl : R'.length = Rs.length := by rw [hR', List.length_append, List.length_append, List.length_take, List.length_drop, hml]; omega
  have hat : ∀ i, i < Rs.length → lineOf (R'.getD i r0) = srcM Ls f t q false i := fun i hi => by
    rw [hR', mid_at _ hml (by omega) ht]
    unfold srcM
    by_cases c1 : i < f
    · rw [if_pos c1, if_neg (by omega)]; exact lines_at_i h i hi
    · rw [if_neg c1]
      by_cases c2 : i < t
      · rw [if_pos c2, if_pos ⟨by omega, c2⟩, if_neg (by decide), down_at (by omega) ht hq hnl _ (by omega)]
        by_cases c3 : f + q ≤ i
        · rw [if_neg (by omega), if_pos c3, show f + (i - f) - q = i - q by omega]
          exact lines_at_i h _ (by omega)
        · rw [if_pos (by omega), if_neg c3, ← lines_at_i h i hi, lines_at_i hm _ (by omega)]
          have e : (List.replicate q ((List.replicate wd zc, false) : Ln)).getD (i - f) zl = (List.replicate wd zc, false) := by simp [List.getD, List.getElem?_replicate, show i - f < q by omega]
          rw [e, show (lineOf (Rs.getD i r0)).1.length = wd from hw i hi]
      · rw [if_neg c2, if_neg (by omega)]; exact lines_at_i h i hi
  rw [← hR']
  unfold moveL
  rw [hLl]
  by_cases h0 : f = 0
  · rw [if_pos h0]
    refine lines_ext (by unfold offAt; rw [List.length_set]; exact hrl) fun i hi => ?_
    rw [off_at _ _ _ (by rw [hrl]; omega), hat i hi]
    unfold entM
    by_cases c : i = t - 1
    · rw [if_pos c, if_pos (.inr ⟨rfl, by omega⟩)]
    · rw [if_neg c, if_neg (by rintro (e | ⟨_, e⟩) <;> omega)]
  · rw [if_neg h0]
    refine lines_ext (by unfold offAt; rw [List.length_set, List.length_set]; exact hrl) fun i hi => ?_
    rw [off_at _ _ _ (by unfold offAt; rw [List.length_set, hrl]; omega), off_at _ _ _ (by rw [hrl]; omega), hat i hi]
    unfold entM
    by_cases c : i = t - 1
    · rw [if_pos c, if_neg (by omega), if_pos (.inr ⟨rfl, by omega⟩)]
    · rw [if_neg c]
      by_cases c2 : i = f - 1
      · rw [if_pos c2, if_pos (.inl (by omega))]
      · rw [if_neg c2, if_neg (by rintro (e | ⟨_, e⟩) <;> omega)]
end Go.Proofs.YteinppjklhomnaaDoor
/- The reference's Move (33). -/
namespace Go.Proofs.YteinppjklhomnaaDoor
open Go.RowKit Go.ChangeShapes Go.WideShapes
set_option maxRecDepth 100000 in
set_option maxHeartbeats 6000000 in
theorem rmove_none (v : Value) (Z : Zone) (Ls : List Ln) (a b k : Int) (up : Bool) (w : World) (hv : HeldE lineE Z w v Ls) (hl : Ls.length ≤ 1000) (hk : heldK Ls.length a b k < 1) : Calls Tryd.prog 58 #[v, .int .i64 a, .int .i64 b, .int .i64 k, .bool up] w (Gives w v) := by
  obtain ⟨ao, ca, rfl⟩ := hv.len
  obtain ⟨n, hn⟩ : ∃ n, n = Ls.length := ⟨_, rfl⟩
  rw [← hn] at hl hk ⊢
  have h1 : max 0 (min a (n : Int)) = (heldF n a : Int) := by unfold heldF; omega
  have h2 : max 0 (min b (n : Int)) = (heldF n b : Int) := by unfold heldF; omega
  unfold heldK at hk
  obtain ⟨f, hf⟩ : ∃ f, f = heldF n a := ⟨_, rfl⟩
  obtain ⟨t, ht⟩ : ∃ t, t = heldF n b := ⟨_, rfl⟩
  rw [← hf] at h1 hk
  rw [← ht] at h2 hk
  clear hf ht hv hn
  by_cases hft : t ≤ f
  · have hd : decide ((t : Int) ≤ f) = true := by rw [decide_eq_true_eq]; omega
    have hdn : decide (t ≤ f) = true := by rw [decide_eq_true_eq]; omega
    clear hk hft
    go_enter Tryd.func58, Tryd.ntmps58
    go_wp2
    go_ret
    exact ⟨(ret_eq (by first | rfl | (simp <;> omega))), Below.refl _ _⟩
  · have hd : decide ((t : Int) ≤ f) = false := by rw [decide_eq_false_iff_not]; omega
    have hdn : decide (t ≤ f) = false := by rw [decide_eq_false_iff_not]; omega
    have hd1 : decide (k < 1) = true := by rw [decide_eq_true_eq]; omega
    clear hk hft
    go_enter Tryd.func58, Tryd.ntmps58
    go_wp2
    go_ret
    exact ⟨(ret_eq (by first | rfl | (simp <;> omega))), Below.refl _ _⟩
end Go.Proofs.YteinppjklhomnaaDoor
