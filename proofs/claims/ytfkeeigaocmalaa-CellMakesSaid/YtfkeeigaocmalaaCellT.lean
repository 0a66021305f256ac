/- cell.Same, and what it leans on. -/
import Derived.Test.YtfkeeigaocmalaaCellA
import Derived.Test.YtfkeeigaocmalaaScalarR
namespace Go.Proofs.Ytfkeeigaocmalaa
open Go.RowKit Go.ChangeShapes Go.WideShapes
theorem sameC_of {a b : List Cl} (hl : b.length = a.length) (h : ∀ j, j < a.length → a.getD j zc = b.getD j zc) : sameC a b = true := by
  unfold sameC
  rw [decide_eq_true_eq]
  apply List.ext_getElem hl.symm
  intro i h1 h2
  have := h i h1
  simpa [List.getD, List.getElem?_eq_getElem h1, List.getElem?_eq_getElem h2] using this
theorem sameC_not {a b : List Cl} (j : Nat) (h : a.getD j zc ≠ b.getD j zc) : sameC a b = false := by
  unfold sameC
  rw [decide_eq_false_iff_not]
  rintro rfl
  exact h rfl
theorem sameC_len {a b : List Cl} (h : ¬ b.length = a.length) : sameC a b = false := by
  unfold sameC
  rw [decide_eq_false_iff_not]
  rintro rfl
  exact h rfl
theorem sameC_self (a : List Cl) : sameC a a = true := by simp [sameC]
def AlikeC (a b : List Cl) (k : Nat) : Prop := ∀ j, j < k → a.getD j zc = b.getD j zc
theorem AlikeC.next {a b : List Cl} {k : Nat} (h : AlikeC a b k) (e : a.getD k zc = b.getD k zc) : AlikeC a b (k + 1) := by
  intro j hj
  by_cases h2 : j = k
  · subst h2; exact e
  · exact h j (by omega)
set_option maxRecDepth 100000 in
theorem requal_any (v u : Value) (xs ys : List Int) (w : World) (hx : Held .i32 w v xs) (hy : Held .i32 w u ys) (hlen : xs.length ≤ 9223372036854775807) :
    Calls Try.prog 47 #[v, u] w (Gives w (.bool (sameB xs ys))) := by
  obtain ⟨ao, ca, rfl, hc⟩ := hx.view
  obtain ⟨bo, cb, rfl, hd⟩ := hy.view
  have HC := Lib.hid hc
  have HD := Lib.hid hd
  clear hc hd hx hy
  by_cases hl : ys.length = xs.length
  · have HL := Lib.hid hl
    rw [hl]
    clear hl
    go_enter Try.func47, Try.ntmps47
    go_wp2
    go_loopw [13] (fun i wr => ∃ k : Nat, k ≤ xs.length ∧ i = .int .i64 k ∧ Alike0 xs ys k ∧ Below w.heap.size w wr) (fun i _ => xs.length - (intOf i).toNat)
    case atStart => exact ⟨0, Nat.zero_le _, rfl, (fun j hj => by omega), Below.refl _ _⟩
    case round =>
      obtain ⟨k, hk, rfl, hal, hbw⟩ := hrel
      have HA := Lib.hid hal
      clear hal
      by_cases hlt : k < xs.length
      · obtain ⟨b1, o1, rfl, hb1, hcx⟩ := HC.out k hlt
        obtain ⟨b2, o2, rfl, hb2, hcy⟩ := HD.out k (by rw [HL.out]; exact hlt)
        have hcx := (hbw.cell (p := ⟨b1, o1 + k, none⟩) hb1).trans hcx
        have hcy := (hbw.cell (p := ⟨b2, o2 + k, none⟩) hb2).trans hcy
        by_cases he : xs.getD k 0 = ys.getD k 0
        · have HE : Alike0 xs ys (k + 1) := by
            intro j hj
            by_cases h : j = k
            · subst h; exact he
            · exact HA.out j (by omega)
          rw [← he] at hcy
          clear he
          generalize xs.getD k 0 = x at hcx hcy
          go_wp2
          go_quiet (fail)
          have hbw := hbw.drewN nq
          go_wp2
          go_roundw
          case rel => exact ⟨k + 1, by omega, by go_num, HE, hbw⟩
          case measure => simp [intOf]; omega
        · have E := Lib.hid (sameB_not k he)
          generalize xs.getD k 0 = x at hcx he
          generalize ys.getD k 0 = y at hcy he
          go_wp2
          go_quiet (fail)
          have hbw := hbw.drewN nq
          go_wp2
          go_ret
          exact ⟨ret_eq (by rw [E.out]; try rfl), hbw⟩
      · obtain rfl : k = xs.length := by omega
        have E := Lib.hid (sameB_of HL.out HA.out)
        go_wp2
        go_ret
        exact ⟨ret_eq (by rw [E.out]; try rfl), hbw⟩
  · have E := Lib.hid (sameB_len hl)
    have hl2 : ¬ xs.length = ys.length := fun h => hl h.symm
    go_enter Try.func47, Try.ntmps47
    go_wp2
    go_ret
    exact ⟨ret_eq (by rw [E.out]; try rfl), Below.refl _ _⟩
theorem cell_eq {K K' : Int} {T T' : List Int} : (decide ((K, T) = (K', T'))) = ((K == K') && sameB T T') := by
  unfold sameB
  rw [Bool.eq_iff_iff]
  simp
set_option maxRecDepth 100000 in
theorem samecell_any (K K' : Int) (tv tv' : Value) (T T' : List Int) (w : World) (hx : Held .i32 w tv T) (hy : Held .i32 w tv' T') (hlen : T.length ≤ 9223372036854775807) :
    Calls Try.prog 46 #[.agg #[.int .i64 K, tv], .agg #[.int .i64 K', tv']] w (Gives w (.bool (decide ((K, T) = (K', T'))))) := by
  have HX := Lib.hid hx
  have HY := Lib.hid hy
  obtain ⟨ao, ca, rfl, _⟩ := hx.view
  obtain ⟨bo, cb, rfl, _⟩ := hy.view
  clear hx hy
  have HE := Lib.hid (cell_eq (K := K) (K' := K') (T := T) (T' := T'))
  have HB := Lib.hid (((Below.refl w.heap.size w).alloc (Nat.le_refl _) (.cells #[.int .i64 K, .slice ao T.length ca] 37)).alloc (by simp) (.cells #[.int .i64 K', .slice bo T'.length cb] 37))
  have HQ := Lib.hid (requal_any _ _ T T' _ (HX.out.below HB.out) (HY.out.below HB.out) hlen)
  by_cases hk : K = K'
  · subst hk
    have hkk : (K == K) = true := by simp
    rw [hkk] at HE
    go_enter Try.func46, Try.ntmps46
    go_wp2_with fail
    refine HQ.out.mono ?_
    rintro e w' ⟨rfl, hb⟩
    have hb2 := HB.out.trans (hb.mono HB.out.size)
    go_wp2
    go_ret
    exact ⟨ret_eq (by rw [HE.out]; simp), hb2⟩
  · have hkk : (K == K') = false := by simpa using hk
    rw [hkk] at HE
    clear hk
    go_enter Try.func46, Try.ntmps46
    go_wp2
    go_ret
    exact ⟨ret_eq (by rw [HE.out]; rfl), HB.out⟩
set_option maxRecDepth 100000 in
set_option maxHeartbeats 1000000 in
theorem equalc_any (Z Y : Zone) (v u : Value) (a b : List Cl) (w : World) (hx : HeldE cellE Z w v a) (hy : HeldE cellE Y w u b) :
    Calls Try.prog 45 #[v, u, .func (.func 46) #[] #[]] w (Gives w (.bool (sameC a b))) := by
  have hla := hx.max
  obtain ⟨ao, ca, rfl⟩ := hx.len
  obtain ⟨bo, cb, rfl⟩ := hy.len
  obtain ⟨_, _, hc⟩ := cells_at hx
  obtain ⟨_, _, hd⟩ := cells_at hy
  have HC := Lib.hid hc
  have HD := Lib.hid hd
  clear hc hd hx hy
  by_cases hl : b.length = a.length
  · have HL := Lib.hid hl
    rw [hl]
    clear hl
    go_enter Try.func45, Try.ntmps45
    go_wp2
    go_loopw [17] (fun i wr => ∃ k : Nat, k ≤ a.length ∧ i = .int .i64 k ∧ AlikeC a b k ∧ Below w.heap.size w wr) (fun i _ => a.length - (intOf i).toNat)
    case atStart => exact ⟨0, Nat.zero_le _, rfl, (fun j hj => by omega), Below.refl _ _⟩
    case round =>
      obtain ⟨k, hk, rfl, hal, hbw⟩ := hrel
      have HA := Lib.hid hal
      have HBW := Lib.hid hbw
      clear hal hbw
      by_cases hlt : k < a.length
      · obtain ⟨b1, o1, tv, rfl, hb1, _, c0, c1, hh⟩ := HC.out k hlt
        obtain ⟨b2, o2, tu, rfl, hb2, _, d0, d1, hi⟩ := HD.out k (by rw [HL.out]; exact hlt)
        have hlen := hh.max
        have hh := hh.ints
        have hi := hi.ints
        have c0 := (HBW.out.cell (p := ⟨b1, o1 + k * 2, none⟩) hb1).trans c0
        have c1 := (HBW.out.cell (p := ⟨b1, o1 + k * 2 + 1, none⟩) hb1).trans c1
        have d0 := (HBW.out.cell (p := ⟨b2, o2 + k * 2, none⟩) hb2).trans d0
        have d1 := (HBW.out.cell (p := ⟨b2, o2 + k * 2 + 1, none⟩) hb2).trans d1
        have hb2 : b2 < wr.heap.size := Nat.lt_of_lt_of_le hb2 HBW.out.size
        have hnx := HA.out.next
        have hno := sameC_not (a := a) (b := b) k
        obtain ⟨⟨K, T⟩, hKT⟩ : ∃ y, y = a.getD k zc := ⟨_, rfl⟩
        obtain ⟨⟨K', T'⟩, hKT'⟩ : ∃ y, y = b.getD k zc := ⟨_, rfl⟩
        rw [← hKT] at c0 hh hlen hnx hno
        rw [← hKT'] at d0 hi hnx hno
        simp only at c0 hh hlen d0 hi
        have HH := Lib.hid (hh.below HBW.out)
        have HI := Lib.hid (hi.below HBW.out)
        have HNX := Lib.hid hnx
        have HNO := Lib.hid hno
        clear hKT hKT' hh hi hnx hno
        obtain ⟨to, tc, rfl, _⟩ := HH.out.view
        obtain ⟨uo, uc, rfl, _⟩ := HI.out.view
        have HB := Lib.hid (((Below.refl wr.heap.size wr).alloc (Nat.le_refl _) (.cells #[.int .i64 K, .slice to T.length tc] 37)).alloc (by simp) (.cells #[.int .i64 K', .slice uo T'.length uc] 37))
        have HQ := Lib.hid (samecell_any K K' _ _ T T' _ (HH.out.below HB.out) (HI.out.below HB.out) hlen)
        have hbs : ∀ w2, Below ((wr.alloc (.cells #[.int .i64 K, .slice to T.length tc] 37)).alloc (.cells #[.int .i64 K', .slice uo T'.length uc] 37)).heap.size ((wr.alloc (.cells #[.int .i64 K, .slice to T.length tc] 37)).alloc (.cells #[.int .i64 K', .slice uo T'.length uc] 37)) w2 → Below w.heap.size w w2 :=
          fun w2 h => HBW.out.trans ((HB.out.trans (h.mono HB.out.size)).mono HBW.out.size)
        have HBS := Lib.hid hbs
        clear hbs
        cases he : decide ((K, T) = (K', T')) with
        | true =>
          rw [he] at HQ
          have HEQ := Lib.hid he
          clear he
          go_wp2_with fail
          refine HQ.out.mono ?_
          rintro e w2 ⟨rfl, hb⟩
          have hb := HBS.out w2 hb
          go_wp2
          go_roundw
          case rel => exact ⟨k + 1, by omega, by go_num, HNX.out (of_decide_eq_true HEQ.out), hb⟩
          case measure => simp [intOf]; omega
        | false =>
          rw [he] at HQ
          have HEQ := Lib.hid he
          clear he
          go_wp2_with fail
          refine HQ.out.mono ?_
          rintro e w2 ⟨rfl, hb⟩
          have hb := HBS.out w2 hb
          go_wp2
          go_ret
          exact ⟨ret_eq (by rw [HNO.out (of_decide_eq_false HEQ.out)]; try rfl), hb⟩
      · obtain rfl : k = a.length := by omega
        have E := Lib.hid (sameC_of HL.out HA.out)
        go_wp2
        go_ret
        exact ⟨ret_eq (by rw [E.out]; try rfl), HBW.out⟩
  · have E := Lib.hid (sameC_len hl)
    have hl2 : ¬ a.length = b.length := fun h => hl h.symm
    go_enter Try.func45, Try.ntmps45
    go_wp2
    go_ret
    exact ⟨ret_eq (by rw [E.out]; try rfl), Below.refl _ _⟩
theorem csame_any (Z Y : Zone) (v u : Value) (a b : List Cl) (w : World) (hx : HeldE cellE Z w v a) (hy : HeldE cellE Y w u b) : Calls Try.prog 19 #[v, u] w (Gives w (.bool (sameC a b))) := by
  have HQ := Lib.hid (equalc_any Z Y v u a b w hx hy)
  clear hx hy
  go_enter Try.func19, Try.ntmps19
  go_wp2_with fail
  refine (HQ.out).mono ?_
  rintro e w' ⟨rfl, hb⟩
  go_wp2
  go_ret
  exact ⟨(ret_eq (by first | rfl | (simp <;> omega))), hb⟩
end Go.Proofs.Ytfkeeigaocmalaa
