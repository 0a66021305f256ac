/- The reference's lines (32): Same, New, Wrong; Side (31). -/
import Derived.Test.YtoeggiplcaegoaaGreatDoorMg5
import Derived.Test.YtoeggiplcaegoaaGreatDoorMg1
namespace Go.Proofs.YtoeggiplcaegoaaGreatDoor
open Go.RowKit Go.ChangeShapes Go.WideShapes
/-- Blanks that were just made lie in their own block. -/
theorem blank_held {w : World} {B g n c : Nat} (h : w.ownsRow B 147 2 (.slice (some ⟨g, 0, none⟩) n c) n (madeCells (Value.agg #[.int .i64 0, .slice none 0 0]).cells (n * 2)).toList) : HeldE cellE (fun b => b = g) w (.slice (some ⟨g, 0, none⟩) n c) (List.replicate n zc) := by
  have h2 := (blank_own (Z := fun _ => True) h).held (Z := fun _ => True) (fun _ _ _ => trivial)
  obtain ⟨ao, cap, e, h3, h4, h5, h6⟩ := h2
  refine ⟨ao, cap, e, h3, h4, h5, fun i hi => ?_⟩
  obtain ⟨b, off, e1, hb, _, C, hC, hr⟩ := h6 i hi
  subst e1
  simp only [Value.slice.injEq, Option.some.injEq, Addr.mk.injEq] at e
  obtain ⟨⟨rfl, rfl, _⟩, _⟩ := e
  rw [List.length_replicate] at hi
  rw [show (List.replicate n zc).getD i cellE.zero = zc from by simp [List.getD, List.getElem?_replicate, hi]] at hr ⊢
  obtain ⟨tv, rfl, ht⟩ := cell_rep.1 hr
  refine ⟨g, 0, rfl, hb, rfl, _, hC, cell_rep.2 ⟨tv, rfl, ?_⟩⟩
  obtain ⟨a, c2, rfl, k1, k2, k3, _⟩ := ht
  exact ⟨a, c2, rfl, k1, k2, k3, fun j hj => absurd hj (Nat.not_lt_zero _)⟩
def sameL (a b : List Ln) : Bool := decide (a = b)
theorem sameL_self (a : List Ln) : sameL a a = true := by simp [sameL]
theorem sameL_of {a b : List Ln} (hl : b.length = a.length) (h : ∀ j, j < a.length → a.getD j zl = b.getD j zl) : sameL a b = true := by
  unfold sameL
  rw [decide_eq_true_eq]
  apply List.ext_getElem hl.symm
  intro i h1 h2
  have := h i h1
  simpa [List.getD, List.getElem?_eq_getElem h1, List.getElem?_eq_getElem h2] using this
theorem sameL_not {a b : List Ln} (j : Nat) (h : a.getD j zl ≠ b.getD j zl) : sameL a b = false := by
  unfold sameL
  rw [decide_eq_false_iff_not]
  rintro rfl
  exact h rfl
theorem sameL_len {a b : List Ln} (h : ¬ b.length = a.length) : sameL a b = false := by
  unfold sameL
  rw [decide_eq_false_iff_not]
  rintro rfl
  exact h rfl
def AlikeL (a b : List Ln) (k : Nat) : Prop := ∀ j, j < k → a.getD j zl = b.getD j zl
theorem AlikeL.next {a b : List Ln} {k : Nat} (h : AlikeL a b k) (e : a.getD k zl = b.getD k zl) : AlikeL a b (k + 1) := by
  intro j hj
  by_cases e' : j = k
  · subst e'; exact e
  · exact h j (by omega)
set_option maxRecDepth 100000 in
set_option maxHeartbeats 1600000 in
theorem rlsame_any (Z Y : Zone) (v u : Value) (a b : List Ln) (w : World) (hx : HeldE lineE Z w v a) (hy : HeldE lineE Y w u b) : Calls Tryz.prog 78 #[v, u] w (Gives w (.bool (sameL a b))) := by
  have hla := hx.max
  obtain ⟨ao, ca, rfl⟩ := hx.len
  obtain ⟨bo, cb, rfl⟩ := hy.len
  obtain ⟨_, _, hc⟩ := lines_at hx
  obtain ⟨_, _, hd⟩ := lines_at hy
  have HC := Lib.hid hc
  have HD := Lib.hid hd
  clear hc hd hx hy
  by_cases hl : b.length = a.length
  · have HL := Lib.hid hl
    rw [hl]
    clear hl
    go_enter Tryz.func78, Tryz.ntmps78
    go_wp2
    go_loopw [5] (fun i wr => ∃ k : Nat, k ≤ a.length ∧ i = .int .i64 k ∧ AlikeL a b k ∧ Below w.heap.size w wr) (fun i _ => a.length - (intOf i).toNat)
    case atStart => exact ⟨0, Nat.zero_le _, rfl, (fun j hj => by omega), Below.refl _ _⟩
    case round =>
      obtain ⟨k, hk, rfl, hal, hbw⟩ := hrel
      have HA := Lib.hid hal
      have HBW := Lib.hid hbw
      clear hal hbw
      by_cases hlt : k < a.length
      · obtain ⟨b1, o1, tv, rfl, hb1, _, c0, c1, hh⟩ := HC.out k hlt
        obtain ⟨b2, o2, tu, rfl, hb2, _, d0, d1, hi⟩ := HD.out k (by rw [HL.out]; exact hlt)
        have c0 := (HBW.out.cell (p := ⟨b1, o1 + k * 2, none⟩) hb1).trans c0
        have c1 := (HBW.out.cell (p := ⟨b1, o1 + k * 2 + 1, none⟩) hb1).trans c1
        have d0 := (HBW.out.cell (p := ⟨b2, o2 + k * 2, none⟩) hb2).trans d0
        have d1 := (HBW.out.cell (p := ⟨b2, o2 + k * 2 + 1, none⟩) hb2).trans d1
        have hnx := HA.out.next
        have hno := sameL_not (a := a) (b := b) k
        obtain ⟨⟨T, K⟩, hKT⟩ : ∃ y, y = a.getD k zl := ⟨_, rfl⟩
        obtain ⟨⟨T', K'⟩, hKT'⟩ : ∃ y, y = b.getD k zl := ⟨_, rfl⟩
        rw [← hKT] at c1 hh hnx hno
        rw [← hKT'] at d1 hi hnx hno
        simp only at c1 hh d1 hi
        have HH := Lib.hid (hh.below HBW.out)
        have HI := Lib.hid (hi.below HBW.out)
        have HNX := Lib.hid hnx
        have HNO := Lib.hid hno
        clear hKT hKT' hh hi hnx hno
        obtain ⟨wk, hwk⟩ : ∃ wk, wk = wr := ⟨_, rfl⟩
        subst hwk
        have c0 := ext_cell c0
        have c1 := ext_cell c1
        have d0 := ext_cell d0
        have d1 := ext_cell d1
        by_cases hk : K = K'
        · subst hk
          have hkk : (K != K) = false := by simp
          have HQ := Lib.hid (fun u : Growth wk => rcsame_any _ _ tv tu T T' (ext wk u) (HH.out.below u.ok) (HI.out.below u.ok))
          cases hs : sameC T T' with
          | true =>
            have HS := Lib.hid hs
            rw [hs] at HQ
            clear hs hkk
            cases K
            all_goals
              go_wp2
              refine wp_region_ext (by kernel_rfl) (by kernel_rfl) ?_
              repeat (go_big_quiet_step (((go_at_call 146; exact callx (HQ.out _)))))
              refine wpQuiet_nil ?_
              intro _ hw'
              obtain ⟨u, hw''⟩ := hw'
              subst hw''
              have HE := Lib.hid (ext_below HBW.out u)
              go_wp2
              go_roundw
              case rel => exact ⟨k + 1, by omega, by go_num, HNX.out (by have := of_decide_eq_true HS.out; rw [this]), HE.out⟩
              case measure => simp [intOf]; omega
          | false =>
            have HS := Lib.hid hs
            rw [hs] at HQ
            clear hs hkk
            cases K
            all_goals
              go_wp2
              refine wp_region_ext (by kernel_rfl) (by kernel_rfl) ?_
              repeat (go_big_quiet_step (((go_at_call 146; exact callx (HQ.out _)))))
              refine wpQuiet_nil ?_
              intro _ hw'
              obtain ⟨u, hw''⟩ := hw'
              subst hw''
              have HE := Lib.hid (ext_below HBW.out u)
              go_wp2
              go_ret
              exact ⟨ret_eq (by rw [HNO.out (fun e => of_decide_eq_false HS.out (congrArg Prod.fst e))]; try rfl), HE.out⟩
        · have HK := Lib.hid hk
          clear hk
          cases K <;> cases K' <;> first | exact absurd rfl HK.out | skip
          all_goals
            go_wp2
            refine wp_region_ext (by kernel_rfl) (by kernel_rfl) ?_
            repeat (go_big_quiet_step ((fail)))
            refine wpQuiet_nil ?_
            intro _ hw'
            obtain ⟨u, hw''⟩ := hw'
            subst hw''
            have HE := Lib.hid (ext_below HBW.out u)
            go_wp2
            go_ret
            exact ⟨ret_eq (by rw [HNO.out (fun e => HK.out (congrArg Prod.snd e))]; try rfl), HE.out⟩
      · obtain rfl : k = a.length := by omega
        have E := Lib.hid (sameL_of HL.out HA.out)
        go_wp2
        go_ret
        exact ⟨ret_eq (by rw [E.out]; try rfl), HBW.out⟩
  · have E := Lib.hid (sameL_len hl)
    have hl2 : ¬ a.length = b.length := fun h => hl h.symm
    go_enter Tryz.func78, Tryz.ntmps78
    go_wp2
    go_ret
    exact ⟨ret_eq (by rw [E.out]; try rfl), Below.refl _ _⟩

end Go.Proofs.YtoeggiplcaegoaaGreatDoor
