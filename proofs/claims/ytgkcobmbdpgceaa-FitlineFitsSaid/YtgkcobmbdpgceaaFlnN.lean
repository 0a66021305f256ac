/- Lines have room, and none could take the first piece of the next one: numbers alone (22). -/
import Derived.Test.YtgkcobmbdpgceaaMg7
import Derived.Test.YtgkcobmbdpgceaaMeaJ
namespace Go.Proofs.Ytgkcobmbdpgceaa
open Go.RowKit Go.ChangeShapes Go.WideShapes
/-- How much pieces take of a line. -/
def mw (w : Int) (g : List (List Int)) : Int := (g.map fun T => min (wdC T) w).sum
theorem mw_snoc (w : Int) (g : List (List Int)) (T : List Int) : mw w (g ++ [T]) = mw w g + min (wdC T) w := by unfold mw; simp
def okP (w : Int) : List (List (List Int)) → Prop
  | x :: y :: r => w < mw w x + min (wdC (y.getD 0 [])) w ∧ okP w (y :: r)
  | _ => True
theorem okP_snoc (w : Int) : ∀ (G : List (List (List Int))) (g z : List (List Int)), okP w (G ++ [g]) → w < mw w g + min (wdC (z.getD 0 [])) w → okP w (G ++ [g] ++ [z])
  | [], _, _, _, h => ⟨h, trivial⟩
  | [_], _, _, h1, h => ⟨h1.1, h, trivial⟩
  | _ :: y :: r, g, z, h1, h => ⟨h1.1, okP_snoc w (y :: r) g z h1.2 h⟩
theorem okP_more (w : Int) : ∀ (G : List (List (List Int))) (g : List (List Int)) (T : List Int), g ≠ [] → okP w (G ++ [g]) → okP w (G ++ [g ++ [T]])
  | [], _, _, _, _ => trivial
  | [_], g, T, hg, h => ⟨by
      rw [show (g ++ [T]).getD 0 [] = g.getD 0 [] from by
        cases g with
        | nil => exact absurd rfl hg
        | cons a r => rfl]
      exact h.1, trivial⟩
  | _ :: y :: r, g, T, hg, h => ⟨h.1, okP_more w (y :: r) g T hg h.2⟩
theorem okP_at (w : Int) : ∀ (G : List (List (List Int))) (i : Nat), okP w G → i + 1 < G.length → w < mw w (G.getD i []) + min (wdC ((G.getD (i + 1) []).getD 0 [])) w
  | [], i, _, h => absurd h (by simp)
  | [_], i, _, h => absurd h (by simp)
  | _ :: _ :: _, 0, h1, _ => h1.1
  | _ :: y :: r, i + 1, h1, h => okP_at w (y :: r) i h1.2 (by simpa using h)
structure Grp (w : Int) (C : List (List Int)) (s : List (List Int × Bool) × Int) (G : List (List (List Int))) (g : List (List Int)) : Prop where
  rows : (rowsT s.1).1 = G.map List.flatten
  last : (rowsT s.1).2 = g.flatten
  all : G.flatten ++ g = C
  used : s.2 = mw w g
  some : C ≠ [] → g ≠ []
  full : ∀ x ∈ G, x ≠ []
  room : ∀ x ∈ G, mw w x ≤ w
  pairs : okP w (G ++ [g])
theorem grp_step {w : Int} (hw : 1 ≤ w) {C : List (List Int)} {s : List (List Int × Bool) × Int} {G : List (List (List Int))} {g : List (List Int)} (h : Grp w C s G g) (h0 : s.2 ≤ w) (T : List Int) (hs : silB (T.getD 0 0) = false) : ∃ G' g', Grp w (C ++ [T]) (tst w s T) G' g' := by
  have hb := wdC_bd T
  have hw1 : 1 ≤ wdC T := by
    rcases hb with ⟨h1, _⟩ | ⟨_, h1, _⟩
    · rw [hs] at h1; cases h1
    · exact h1
  have hn : 1 ≤ min (wdC T) w ∧ min (wdC T) w ≤ w := by omega
  have hu := h.used
  unfold tst
  rw [if_neg (by rw [hs]; decide)]
  have hsn := rowsT_snoc s.1 (T, decide (w - s.2 < min (wdC T) w))
  by_cases hg : w - s.2 < min (wdC T) w
  · rw [if_pos hg]
    rw [decide_eq_true hg] at hsn ⊢
    have hne : g ≠ [] := fun e => by
      rw [e] at hu
      rw [hu] at hg
      simp [mw] at hg
      omega
    refine ⟨G ++ [g], [T], ⟨?_, ?_, ?_, ?_, fun _ => by simp, ?_, ?_, ?_⟩⟩
    · rw [hsn]; unfold rst; rw [if_pos rfl, h.rows, h.last]; simp
    · rw [hsn]; unfold rst; rw [if_pos rfl]; simp
    · rw [List.flatten_append, ← h.all]; simp
    · simp [mw]
    · intro x hx
      rcases List.mem_append.1 hx with hx | hx
      · exact h.full x hx
      · rw [List.mem_singleton.1 hx]; exact hne
    · intro x hx
      rcases List.mem_append.1 hx with hx | hx
      · exact h.room x hx
      · rw [List.mem_singleton.1 hx, ← hu]; exact h0
    · exact okP_snoc w G g [T] h.pairs (by rw [← hu]; show w < s.2 + min (wdC T) w; omega)
  · rw [if_neg hg]
    rw [decide_eq_false hg] at hsn ⊢
    refine ⟨G, g ++ [T], ⟨?_, ?_, ?_, ?_, fun _ => by simp, h.full, h.room, ?_⟩⟩
    · rw [hsn]; unfold rst; rw [if_neg (by simp), h.rows]
    · rw [hsn]; unfold rst; rw [if_neg (by simp), h.last]; simp
    · rw [← h.all, List.append_assoc]
    · rw [mw_snoc, ← hu]
    · cases hC : C with
      | nil =>
        have ha := h.all
        rw [hC] at ha
        have hG : G = [] := by
          cases G with
          | nil => rfl
          | cons x r =>
            have := h.full x (by simp)
            have h2 : x = [] := by
              have h3 := List.append_eq_nil_iff.1 ha
              rw [List.flatten_cons] at h3
              exact (List.append_eq_nil_iff.1 h3.1).1
            exact absurd h2 this
        rw [hG]
        trivial
      | cons x r => exact okP_more w G g T (h.some (by rw [hC]; simp)) h.pairs
theorem grp_all {w : Int} (hw : 1 ≤ w) : ∀ (C C0 : List (List Int)) (s : List (List Int × Bool) × Int) (G : List (List (List Int))) (g : List (List Int)), Grp w C0 s G g → 0 ≤ s.2 → s.2 ≤ w → (∀ T ∈ C, silB (T.getD 0 0) = false) → ∃ G' g', Grp w (C0 ++ C) (C.foldl (tst w) s) G' g'
  | [], C0, s, G, g, h, _, _, _ => ⟨G, g, by rw [List.append_nil]; exact h⟩
  | T :: C, C0, s, G, g, h, h1, h2, hs => by
    obtain ⟨G', g', h'⟩ := grp_step hw h h2 T (hs T (by simp))
    have hb := tolds_from w hw [T] s h1 h2
    have h3 := grp_all hw C (C0 ++ [T]) (tst w s T) G' g' h' hb.1 hb.2.1 (fun U hU => hs U (by simp [hU]))
    rw [List.append_assoc] at h3
    exact h3
theorem clu_nil : cluA [] = [] := by unfold cluA clS spansB; rfl
/-- Clusters that stand side by side are the clusters of their text. -/
theorem clu_mid {xs : List Int} {P g S : List (List Int)} (h : cluA xs = P ++ g ++ S) : cluA g.flatten = g := by
  cases hg : g with
  | nil => exact clu_nil
  | cons a r =>
    have hl := congrArg List.length h
    rw [clA_len, List.length_append, List.length_append, hg, List.length_cons] at hl
    have hk : P.length < (clS xs).length := by omega
    have hd := cluA_dropE xs P.length hk
    rw [h, List.append_assoc, List.drop_left] at hd
    obtain ⟨D, hD⟩ : ∃ D, D = xs.drop (endC xs P.length) := ⟨_, rfl⟩
    rw [← hD] at hd
    have hdl : (clS D).length = g.length + S.length := by rw [← clA_len, hd, List.length_append]
    have ht := cluA_takeE D g.length (by omega)
    have hf := flat_take D g.length (by omega)
    rw [List.map_take] at hf
    have he : (cluA D).take g.length = g := by rw [hd, List.take_left]
    rw [show ((clS D).map (sliceL D)).take g.length = (cluA D).take g.length from rfl, he] at hf
    rw [← hf, he] at ht
    rw [← hg]
    exact ht
theorem clu_flat (xs : List Int) : (cluA xs).flatten = xs := by
  have h := flat_take xs (clS xs).length (Nat.le_refl _)
  rw [endC_last, List.take_length, List.take_length] at h
  exact h
theorem sumW_mw (w : Int) (hw : 1 < w) : ∀ g : List (List Int), mw w g = sumW g
  | [] => rfl
  | T :: g => by
    have := sumW_mw w hw g
    have hb := wdC_bd T
    unfold mw sumW at this ⊢
    simp only [List.map_cons, List.sum_cons]
    rw [this]
    omega
theorem sumW_pos {g : List (List Int)} (hg : g ≠ []) (hs : ∀ T ∈ g, silB (T.getD 0 0) = false) : 1 ≤ sumW g := by
  cases g with
  | nil => exact absurd rfl hg
  | cons T r =>
    have h1 := sumW_bd r
    have hb := wdC_bd T
    have hsT := hs T (by simp)
    have : sumW (T :: r) = wdC T + sumW r := by unfold sumW; simp
    rcases hb with ⟨h, _⟩ | ⟨_, h, _⟩
    · rw [hsT] at h; cases h
    · omega
theorem items_head {T : List Int} {r : List (List Int)} (h : silB (T.getD 0 0) = false) : itemsL (T :: r) = (wdC T, T.take 16) :: itemsL r := by
  unfold itemsL
  rw [List.filter_cons, if_pos (by simp only [h, Bool.not_false]), List.map_cons]
/-- What is known of the lines of a text without what is silent. -/
structure LinesOK (w : Int) (xs : List Int) (L : List (List Int)) : Prop where
  flat : L.flatten = xs
  few : L.length ≤ xs.length + 1
  short : ∀ i, (L.getD i []).length ≤ xs.length
  room : ∀ i, i < L.length → 1 < w → colsC (L.getD i []) ≤ w
  next : ∀ i, i + 1 < L.length → 0 < (itemsC (L.getD (i + 1) [])).length ∧ w - min (colsC (L.getD i [])) w < min ((itemsC (L.getD (i + 1) [])).getD 0 (0, [])).1 w
theorem lines_ok (Wr : Int) (xs : List Int) (hs : ∀ r ∈ xs, silB r = false) : LinesOK (clampW Wr) xs (linesC Wr xs) := by
  obtain ⟨w, hwe⟩ : ∃ w, w = clampW Wr := ⟨_, rfl⟩
  have hw : 1 ≤ w := by rw [hwe]; exact (clampW_bd Wr).1
  have hsil : ∀ T ∈ cluA xs, silB (T.getD 0 0) = false := by
    intro T hT
    obtain ⟨i, hi, rfl⟩ := List.getElem_of_mem hT
    rw [clA_len] at hi
    have ha := cluA_at xs i hi
    rw [show (cluA xs).getD i [] = (cluA xs)[i] from by simp [List.getD, List.getElem?_eq_getElem (show i < (cluA xs).length by rw [clA_len]; exact hi)]] at ha
    refine hs _ ?_
    have hm : ((cluA xs)[i]).getD 0 0 ∈ (cluA xs)[i] := by
      rw [show ((cluA xs)[i]).getD 0 0 = ((cluA xs)[i])[0]'ha.2.1 from by simp [List.getD, List.getElem?_eq_getElem ha.2.1]]
      exact List.getElem_mem _
    have h2 : ((cluA xs)[i]).getD 0 0 ∈ (cluA xs).flatten := List.mem_flatten.2 ⟨_, hT, hm⟩
    rw [clu_flat] at h2
    exact h2
  obtain ⟨G, g, h⟩ := grp_all hw (cluA xs) [] ([], 0) [] [] ⟨rfl, rfl, rfl, rfl, fun h => absurd rfl h, by simp, by simp, trivial⟩ (Int.le_refl _) (by show (0 : Int) ≤ w; omega) hsil
  rw [List.nil_append] at h
  have hbd := tolds_bd w hw (cluA xs)
  have hL : linesC Wr xs = (G ++ [g]).map List.flatten := by
    unfold linesC linesOf tolds
    rw [← hwe, h.rows, h.last]
    simp
  obtain ⟨Q, hQ⟩ : ∃ Q, Q = G ++ [g] := ⟨_, rfl⟩
  have hall : Q.flatten = cluA xs := by rw [hQ, ← h.all]; simp
  have hpairs := h.pairs
  have hroom : ∀ x ∈ Q, mw w x ≤ w := by
    intro x hx
    rw [hQ] at hx
    rcases List.mem_append.1 hx with hx | hx
    · exact h.room x hx
    · rw [List.mem_singleton.1 hx, ← h.used]; exact hbd.2.1
  have hfull : 1 < Q.length → ∀ x ∈ Q, x ≠ [] := by
    intro h1 x hx
    rw [hQ] at hx h1
    rcases List.mem_append.1 hx with hx | hx
    · exact h.full x hx
    · rw [List.mem_singleton.1 hx]
      refine h.some fun e => ?_
      have ha := h.all
      rw [e] at ha
      cases hG : G with
      | nil => rw [hG] at h1; simp at h1
      | cons y r =>
        rw [hG, List.flatten_cons] at ha
        have h2 := (List.append_eq_nil_iff.1 (List.append_eq_nil_iff.1 ha).1).1
        exact h.full y (by rw [hG]; simp) h2
  rw [← hQ] at hpairs hL
  have hat : ∀ i, i < Q.length → (linesC Wr xs).getD i [] = (Q.getD i []).flatten ∧ cluA ((Q.getD i []).flatten) = Q.getD i [] ∧ Q.getD i [] ∈ Q ∧ (∀ T ∈ Q.getD i [], silB (T.getD 0 0) = false) := by
    intro i hi
    have hm : Q.getD i [] ∈ Q := by
      rw [show Q.getD i [] = Q[i] from by simp [List.getD, List.getElem?_eq_getElem hi]]
      exact List.getElem_mem _
    refine ⟨?_, ?_, hm, fun T hT => hsil T (by rw [← hall]; exact List.mem_flatten.2 ⟨_, hm, hT⟩)⟩
    · rw [hL]
      simp [List.getD, List.getElem?_map, List.getElem?_eq_getElem hi]
    · refine clu_mid (xs := xs) (P := (Q.take i).flatten) (S := (Q.drop (i + 1)).flatten) ?_
      rw [← hall]
      have e : Q = Q.take i ++ [Q.getD i []] ++ Q.drop (i + 1) := by
        rw [show Q.getD i [] = Q[i] from by simp [List.getD, List.getElem?_eq_getElem hi], ← List.take_succ_eq_append_getElem hi, List.take_append_drop]
      have e2 := congrArg List.flatten e
      rw [List.flatten_append, List.flatten_append] at e2
      simpa using e2
  have hflat : (linesC Wr xs).flatten = xs := by
    rw [hL, ← List.flatten_flatten, hall, clu_flat]
  rw [← hwe]
  refine ⟨hflat, ?_, ?_, ?_, ?_⟩
  · have h1 := lines_len (tolds (clampW Wr) (cluA xs)).1
    have h2 := nextN_le (tolds (clampW Wr) (cluA xs)).1
    have h3 : (cluA xs).length ≤ xs.length := by rw [clA_len]; exact clS_len xs
    rw [← hwe] at h1 h2
    show (linesOf (tolds (clampW Wr) (cluA xs)).1).length ≤ _
    rw [← hwe]
    omega
  · intro i
    have e := congrArg List.length hflat
    by_cases hi : i < (linesC Wr xs).length
    · have hm : (linesC Wr xs).getD i [] ∈ linesC Wr xs := by
        rw [show (linesC Wr xs).getD i [] = (linesC Wr xs)[i] from by simp [List.getD, List.getElem?_eq_getElem hi]]
        exact List.getElem_mem _
      have := (List.sublist_flatten_of_mem hm).length_le
      omega
    · simp [List.getD, List.getElem?_eq_none (show (linesC Wr xs).length ≤ i by omega)]
  · intro i hi h1
    have hi : i < Q.length := by rw [hL, List.length_map] at hi; exact hi
    obtain ⟨a1, a2, a3, a4⟩ := hat i hi
    rw [a1]
    unfold colsC
    rw [a2, ← sumW_mw w h1]
    exact hroom _ a3
  · intro i hi
    have hi : i + 1 < Q.length := by rw [hL, List.length_map] at hi; exact hi
    obtain ⟨a1, a2, a3, a4⟩ := hat i (by omega)
    obtain ⟨c1, c2, c3, c4⟩ := hat (i + 1) hi
    have hp := okP_at w Q i hpairs hi
    have hn1 := hfull (by omega) _ a3
    have hn2 := hfull (by omega) _ c3
    rw [a1, c1]
    unfold colsC itemsC
    rw [a2, c2]
    obtain ⟨T, r, hTr⟩ : ∃ T r, Q.getD (i + 1) [] = T :: r := by
      cases hq : Q.getD (i + 1) [] with
      | nil => exact absurd hq hn2
      | cons T r => exact ⟨T, r, rfl⟩
    rw [hTr] at hp c4 ⊢
    have hsT := c4 T (by simp)
    rw [items_head hsT]
    refine ⟨by simp, ?_⟩
    have hb := wdC_bd T
    have hsp := sumW_pos hn1 a4
    have hw1 : 1 ≤ wdC T := by
      rcases hb with ⟨h, _⟩ | ⟨_, h, _⟩
      · rw [hsT] at h; cases h
      · exact h
    show w - min (sumW (Q.getD i [])) w < min (wdC T) w
    have hp : w < mw w (Q.getD i []) + min (wdC T) w := hp
    by_cases h1 : 1 < w
    · rw [sumW_mw w h1] at hp
      omega
    · omega
end Go.Proofs.Ytgkcobmbdpgceaa
