/- The reference's lines (32): Same, New, Wrong; Side (31). -/
import Derived.Test.YteinppjklhomnaaDoorMg4
import Derived.Test.YteinppjklhomnaaDoorMg1
namespace Go.Proofs.YteinppjklhomnaaDoor
open Go.RowKit Go.ChangeShapes Go.WideShapes
/-- Blanks that were just made lie in their own block. -/
theorem blank_held {w : World} {B g n c : Nat} (h : w.ownsRow B 85 2 (.slice (some ⟨g, 0, none⟩) n c) n (madeCells (Value.agg #[.int .i64 0, .slice none 0 0]).cells (n * 2)).toList) : HeldE cellE (fun b => b = g) w (.slice (some ⟨g, 0, none⟩) n c) (List.replicate n zc) := by
  have h2 := (blank_own (Z := fun _ => True) h).held (Z := fun _ => True) (fun _ _ _ => trivial)
  obtain ⟨ao, cap, e, h3, h4, h5, h6⟩ := h2
  refine ⟨ao, cap, e, h3, h4, h5, fun i hi => ?_⟩
  obtain ⟨b, off, e1, hb, _, C, hC, hr⟩ := h6 i hi
  subst e1
  simp only [Value.slice.injEq, Option.some.injEq, Addr.mk.injEq] at e
  obtain ⟨⟨rfl, rfl, _⟩, _⟩ := e
  rw [List.length_replicate] at hi
  rw [show (List.replicate n zc).getD i cellE.zero = zc from by simp [List.getD, List.getElem?_replicate, hi]] at hr ⊢
  obtain ⟨tv, rfl, ht⟩ := cell_rep.1 hr
  refine ⟨g, 0, rfl, hb, rfl, _, hC, cell_rep.2 ⟨tv, rfl, ?_⟩⟩
  obtain ⟨a, c2, rfl, k1, k2, k3, _⟩ := ht
  exact ⟨a, c2, rfl, k1, k2, k3, fun j hj => absurd hj (Nat.not_lt_zero _)⟩
def sameL (a b : List Ln) : Bool := decide (a = b)
theorem sameL_self (a : List Ln) : sameL a a = true := by simp [sameL]
theorem sameL_of {a b : List Ln} (hl : b.length = a.length) (h : ∀ j, j < a.length → a.getD j zl = b.getD j zl) : sameL a b = true := by
  unfold sameL
  rw [decide_eq_true_eq]
  apply List.ext_getElem hl.symm
  intro i h1 h2
  have := h i h1
  simpa [List.getD, List.getElem?_eq_getElem h1, List.getElem?_eq_getElem h2] using this
theorem sameL_not {a b : List Ln} (j : Nat) (h : a.getD j zl ≠ b.getD j zl) : sameL a b = false := by
  unfold sameL
  rw [decide_eq_false_iff_not]
  rintro rfl
  exact h rfl
theorem sameL_len {a b : List Ln} (h : ¬ b.length = a.length) : sameL a b = false := by
  unfold sameL
  rw [decide_eq_false_iff_not]
  rintro rfl
  exact h rfl
def AlikeL (a b : List Ln) (k : Nat) : Prop := ∀ j, j < k → a.getD j zl = b.getD j zl
theorem AlikeL.next {a b : List Ln} {k : Nat} (h : AlikeL a b k) (e : a.getD k zl = b.getD k zl) : AlikeL a b (k + 1) := by
  intro j hj
  by_cases e' : j = k
  · subst e'; exact e
  · exact h j (by omega)
set_option maxRecDepth 100000 in
set_option maxHeartbeats 1600000 in
theorem rlsame_any (Z Y : Zone) (v u : Value) (a b : List Ln) (w : World) (hx : HeldE lineE Z w v a) (hy : HeldE lineE Y w u b) : Calls Tryd.prog 59 #[v, u] w (Gives w (.bool (sameL a b))) := by
  have hla := hx.max
  obtain ⟨ao, ca, rfl⟩ := hx.len
  obtain ⟨bo, cb, rfl⟩ := hy.len
  obtain ⟨_, _, hc⟩ := lines_at hx
  obtain ⟨_, _, hd⟩ := lines_at hy
  have HC := Lib.hid hc
  have HD := Lib.hid hd
  clear hc hd hx hy
  by_cases hl : b.length = a.length
  · have HL := Lib.hid hl
    rw [hl]
    clear hl
    go_enter Tryd.func59, Tryd.ntmps59
    go_wp2
    go_loopw [5] (fun i wr => ∃ k : Nat, k ≤ a.length ∧ i = .int .i64 k ∧ AlikeL a b k ∧ Below w.heap.size w wr) (fun i _ => a.length - (intOf i).toNat)
    case atStart => exact ⟨0, Nat.zero_le _, rfl, (fun j hj => by omega), Below.refl _ _⟩
    case round =>
      obtain ⟨k, hk, rfl, hal, hbw⟩ := hrel
      have HA := Lib.hid hal
      have HBW := Lib.hid hbw
      clear hal hbw
      by_cases hlt : k < a.length
      · obtain ⟨b1, o1, tv, rfl, hb1, _, c0, c1, hh⟩ := HC.out k hlt
        obtain ⟨b2, o2, tu, rfl, hb2, _, d0, d1, hi⟩ := HD.out k (by rw [HL.out]; exact hlt)
        have c0 := (HBW.out.cell (p := ⟨b1, o1 + k * 2, none⟩) hb1).trans c0
        have c1 := (HBW.out.cell (p := ⟨b1, o1 + k * 2 + 1, none⟩) hb1).trans c1
        have d0 := (HBW.out.cell (p := ⟨b2, o2 + k * 2, none⟩) hb2).trans d0
        have d1 := (HBW.out.cell (p := ⟨b2, o2 + k * 2 + 1, none⟩) hb2).trans d1
        have hnx := HA.out.next
        have hno := sameL_not (a := a) (b := b) k
        obtain ⟨⟨T, K⟩, hKT⟩ : ∃ y, y = a.getD k zl := ⟨_, rfl⟩
        obtain ⟨⟨T', K'⟩, hKT'⟩ : ∃ y, y = b.getD k zl := ⟨_, rfl⟩
        rw [← hKT] at c1 hh hnx hno
        rw [← hKT'] at d1 hi hnx hno
        simp only at c1 hh d1 hi
        have HH := Lib.hid (hh.below HBW.out)
        have HI := Lib.hid (hi.below HBW.out)
        have HNX := Lib.hid hnx
        have HNO := Lib.hid hno
        clear hKT hKT' hh hi hnx hno
        obtain ⟨wk, hwk⟩ : ∃ wk, wk = wr := ⟨_, rfl⟩
        subst hwk
        have c0 := ext_cell c0
        have c1 := ext_cell c1
        have d0 := ext_cell d0
        have d1 := ext_cell d1
        by_cases hk : K = K'
        · subst hk
          have hkk : (K != K) = false := by simp
          have HQ := Lib.hid (fun u : Growth wk => rcsame_any _ _ tv tu T T' (ext wk u) (HH.out.below u.ok) (HI.out.below u.ok))
          cases hs : sameC T T' with
          | true =>
            have HS := Lib.hid hs
            rw [hs] at HQ
            clear hs hkk
            cases K
            all_goals
              go_wp2
              refine wp_region_ext (by kernel_rfl) (by kernel_rfl) ?_
              repeat (go_big_quiet_step (((go_at_call 26; exact callx (HQ.out _)))))
              refine wpQuiet_nil ?_
              intro _ hw'
              obtain ⟨u, hw''⟩ := hw'
              subst hw''
              have HE := Lib.hid (ext_below HBW.out u)
              go_wp2
              go_roundw
              case rel => exact ⟨k + 1, by omega, by go_num, HNX.out (by have := of_decide_eq_true HS.out; rw [this]), HE.out⟩
              case measure => simp [intOf]; omega
          | false =>
            have HS := Lib.hid hs
            rw [hs] at HQ
            clear hs hkk
            cases K
            all_goals
              go_wp2
              refine wp_region_ext (by kernel_rfl) (by kernel_rfl) ?_
              repeat (go_big_quiet_step (((go_at_call 26; exact callx (HQ.out _)))))
              refine wpQuiet_nil ?_
              intro _ hw'
              obtain ⟨u, hw''⟩ := hw'
              subst hw''
              have HE := Lib.hid (ext_below HBW.out u)
              go_wp2
              go_ret
              exact ⟨ret_eq (by rw [HNO.out (fun e => of_decide_eq_false HS.out (congrArg Prod.fst e))]; try rfl), HE.out⟩
        · have HK := Lib.hid hk
          clear hk
          cases K <;> cases K' <;> first | exact absurd rfl HK.out | skip
          all_goals
            go_wp2
            refine wp_region_ext (by kernel_rfl) (by kernel_rfl) ?_
            repeat (go_big_quiet_step ((fail)))
            refine wpQuiet_nil ?_
            intro _ hw'
            obtain ⟨u, hw''⟩ := hw'
            subst hw''
            have HE := Lib.hid (ext_below HBW.out u)
            go_wp2
            go_ret
            exact ⟨ret_eq (by rw [HNO.out (fun e => HK.out (congrArg Prod.snd e))]; try rfl), HE.out⟩
      · obtain rfl : k = a.length := by omega
        have E := Lib.hid (sameL_of HL.out HA.out)
        go_wp2
        go_ret
        exact ⟨ret_eq (by rw [E.out]; try rfl), HBW.out⟩
  · have E := Lib.hid (sameL_len hl)
    have hl2 : ¬ a.length = b.length := fun h => hl h.symm
    go_enter Tryd.func59, Tryd.ntmps59
    go_wp2
    go_ret
    exact ⟨ret_eq (by rw [E.out]; try rfl), Below.refl _ _⟩

theorem rside_any (n : Int) (w : World) : Calls Tryd.prog 80 #[.int .i64 n] w fun e w' => e = .returned (.int .i64 (rowN n)) ∧ w = w' := by
  by_cases h0 : n < 1
  · have hd : decide (n < 1) = true := by rw [decide_eq_true_eq]; exact h0
    have HE := Lib.hid (show (rowN n : Int) = 1 by unfold rowN; omega)
    clear h0
    go_enter Tryd.func80, Tryd.ntmps80
    go_wp2
    go_ret
    exact ⟨ret_eq (by rw [HE.out]; try rfl), rfl⟩
  have hd : decide (n < 1) = false := by rw [decide_eq_false_iff_not]; exact h0
  by_cases h1 : 1024 < n
  · have hd1 : decide (1024 < n) = true := by rw [decide_eq_true_eq]; exact h1
    have HE := Lib.hid (show (rowN n : Int) = 1024 by unfold rowN; omega)
    clear h0 h1
    go_enter Tryd.func80, Tryd.ntmps80
    go_wp2
    go_ret
    exact ⟨ret_eq (by rw [HE.out]; try rfl), rfl⟩
  have hd1 : decide (1024 < n) = false := by rw [decide_eq_false_iff_not]; exact h1
  have HE := Lib.hid (show (rowN n : Int) = n by unfold rowN; omega)
  clear h0 h1
  go_enter Tryd.func80, Tryd.ntmps80
  go_wp2
  go_ret
  exact ⟨ret_eq (by rw [HE.out]; try rfl), rfl⟩
set_option maxRecDepth 100000 in
set_option maxHeartbeats 3000000 in
theorem rlnew_any (W N : Nat) (hW : W ≤ 1024) (hN : N ≤ 1024) (w : World) : Calls Tryd.prog 46 #[.int .i64 W, .int .i64 N] w (MadeE lineE (fun _ => True) 59 w (List.replicate N (List.replicate W zc, false))) := by
  obtain ⟨i0, hi, hz0, hz1, hz2⟩ := info_parts info_cell
  have HI := Lib.hid (And.intro hi (And.intro hz0 (And.intro hz1 hz2)))
  clear hi hz0 hz1 hz2
  go_enter Tryd.func46, Tryd.ntmps46
  go_wp2
  go_loopw [5, 6] (fun t i wr => ∃ k : Nat, k ≤ N ∧ i = .int .i64 k ∧ OwnE lineE (fun _ => True) wr w.heap.size 59 t (List.replicate k (List.replicate W zc, false)) ∧ Below w.heap.size w wr) (fun _ i _ => N - (intOf i).toNat)
  case atStart => exact ⟨0, Nat.zero_le _, rfl, OwnE.nil _ _ _ _ _, Below.refl _ _⟩
  case round =>
    obtain ⟨k, hk, rfl, hown, hbw⟩ := hrel
    have HBW := Lib.hid hbw
    have HO := Lib.hid hown
    clear hbw hown
    obtain ⟨t, htt⟩ : ∃ t, t = u5 := ⟨_, rfl⟩
    rw [← htt] at HO ⊢
    clear htt
    by_cases hlt : k < N
    · go_wp2_with (at_make; refine wpList_make_full wr rfl (.tmp 13) (.tmp 13) 57 rfl w.heap.size 85 i0 (.agg #[.int .i64 0, .slice none 0 0]) 2 Tryd.underlying57 HI.out.1 HI.out.2.1 HI.out.2.2.1 .i64 .i64 _ _ W rfl rfl rfl rfl (by rw [HI.out.2.2.2]; omega) (by unfold maxLen; omega) HBW.out.size ?_)
      intro w1 hown1 hg1
      have b1 : Below wr.heap.size wr w1 := (Below.refl _ _).grown hg1 (Nat.le_refl _) (by intro k hk; cases hk)
      have hw0 := HBW.out.size
      have hc1 : HeldE cellE (fun b => b = wr.heap.size) w1 (.slice (some ⟨wr.heap.size, 0, none⟩) W W) (List.replicate W zc) := blank_held hown1
      have hlo := HO.out.lt
      have hs : List.replicate (k + 1) ((List.replicate W zc, false) : Ln) = List.replicate k (List.replicate W zc, false) ++ [(List.replicate W zc, false)] := List.replicate_succ'
      obtain ⟨P0, hP⟩ : ∃ P0, P0 = List.replicate k ((List.replicate W zc, false) : Ln) := ⟨_, rfl⟩
      have hpl : P0.length ≤ 1024 := by rw [hP, List.length_replicate]; omega
      rw [← hP] at HO hs
      obtain ⟨Q, hQ⟩ : ∃ Q, Q = List.replicate (k + 1) ((List.replicate W zc, false) : Ln) := ⟨_, rfl⟩
      rw [← hQ] at hs
      have HS := Lib.hid hs
      have HQ := Lib.hid hQ
      have b2 := (Below.refl w1.heap.size w1).alloc (Nat.le_refl _) (.cells [Value.slice (some ⟨wr.heap.size, 0, none⟩) W W, .bool false].toArray 59)
      have HX := Lib.hid (show HeldE lineE (fun b => True ∧ t.ownBlock ≠ some b) (w1.alloc (.cells [Value.slice (some ⟨wr.heap.size, 0, none⟩) W W, .bool false].toArray 59)) (.slice (some ⟨w1.heap.size, 0, none⟩) 1 1) [(List.replicate W zc, false)] from heldE_one (Y := fun b => b = wr.heap.size) [Value.slice (some ⟨wr.heap.size, 0, none⟩) W W, .bool false] (List.replicate W zc, false) (line_rep.2 ⟨_, rfl, hc1⟩) (fun b _ e => ⟨trivial, fun e2 => by have := (hlo _ e2).2; omega⟩) ⟨trivial, fun e2 => by have := (hlo _ e2).2; have := b1.size; omega⟩)
      have HO2 := Lib.hid ((HO.out.below b1).below b2)
      have HB2 := Lib.hid ((HBW.out.trans (b1.mono HBW.out.size)).trans (b2.mono (Nat.le_trans HBW.out.size b1.size)))
      clear hown1 hg1 b1 b2 hc1 hlo hP hQ hs HO
      go_wp2_with (at_builtin; refine wpList_append_e (E := lineE) (Z := fun _ => True) rfl (.tmp 12) (.tmp 16) 27 rfl (.agg #[.slice none 0 0, .bool false]) 32 Tryd.underlying27 info_line rfl (by decide) rfl rfl HO2.out HX.out (by simp only [List.length_singleton]; omega) (by simp only [List.length_singleton]; omega) HB2.out.size ?_)
      intro v3 w3 ho3 hb3 _ _
      rw [← HS.out, HQ.out] at ho3
      have H2 := Lib.hid ho3
      have H3 := Lib.hid (HB2.out.trans hb3)
      clear ho3 hb3
      go_wp2
      go_roundw
      case rel => exact ⟨k + 1, by omega, by go_num, H2.out, H3.out⟩
      case measure => simp [intOf] <;> omega
    · obtain rfl : k = N := by omega
      go_wp2
      go_ret
      exact ⟨_, rfl, HO.out, HBW.out⟩
end Go.Proofs.YteinppjklhomnaaDoor
