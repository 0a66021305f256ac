/- The reference's Same, of cells. -/
import Derived.Test.YteinppjklhomnaaDoorMg1
namespace Go.Proofs.YteinppjklhomnaaDoor
open Go.RowKit Go.ChangeShapes Go.WideShapes
set_option maxRecDepth 100000 in
set_option maxHeartbeats 1600000 in
theorem rcsame_any (Z Y : Zone) (v u : Value) (a b : List Cl) (w : World) (hx : HeldE cellE Z w v a) (hy : HeldE cellE Y w u b) : Calls Tryd.prog 26 #[v, u] w (Gives w (.bool (sameC a b))) := by
  have hla := hx.max
  obtain ⟨ao, ca, rfl⟩ := hx.len
  obtain ⟨bo, cb, rfl⟩ := hy.len
  obtain ⟨_, _, hc⟩ := cells_at hx
  obtain ⟨_, _, hd⟩ := cells_at hy
  have HC := Lib.hid hc
  have HD := Lib.hid hd
  clear hc hd hx hy
  by_cases hl : b.length = a.length
  · have HL := Lib.hid hl
    rw [hl]
    clear hl
    go_enter Tryd.func26, Tryd.ntmps26
    go_wp2
    go_loopw [5] (fun i wr => ∃ k : Nat, k ≤ a.length ∧ i = .int .i64 k ∧ AlikeC a b k ∧ Below w.heap.size w wr) (fun i _ => a.length - (intOf i).toNat)
    case atStart => exact ⟨0, Nat.zero_le _, rfl, (fun j hj => by omega), Below.refl _ _⟩
    case round =>
      obtain ⟨k, hk, rfl, hal, hbw⟩ := hrel
      have HA := Lib.hid hal
      have HBW := Lib.hid hbw
      clear hal hbw
      by_cases hlt : k < a.length
      · obtain ⟨b1, o1, tv, rfl, hb1, _, c0, c1, hh⟩ := HC.out k hlt
        obtain ⟨b2, o2, tu, rfl, hb2, _, d0, d1, hi⟩ := HD.out k (by rw [HL.out]; exact hlt)
        have hlen := hh.max
        have hh := hh.ints
        have hi := hi.ints
        have c0 := (HBW.out.cell (p := ⟨b1, o1 + k * 2, none⟩) hb1).trans c0
        have c1 := (HBW.out.cell (p := ⟨b1, o1 + k * 2 + 1, none⟩) hb1).trans c1
        have d0 := (HBW.out.cell (p := ⟨b2, o2 + k * 2, none⟩) hb2).trans d0
        have d1 := (HBW.out.cell (p := ⟨b2, o2 + k * 2 + 1, none⟩) hb2).trans d1
        have hnx := HA.out.next
        have hno := sameC_not (a := a) (b := b) k
        obtain ⟨⟨K, T⟩, hKT⟩ : ∃ y, y = a.getD k zc := ⟨_, rfl⟩
        obtain ⟨⟨K', T'⟩, hKT'⟩ : ∃ y, y = b.getD k zc := ⟨_, rfl⟩
        rw [← hKT] at c0 hh hlen hnx hno
        rw [← hKT'] at d0 hi hnx hno
        simp only at c0 hh hlen d0 hi
        have HH := Lib.hid (hh.below HBW.out)
        have HI := Lib.hid (hi.below HBW.out)
        have HNX := Lib.hid hnx
        have HNO := Lib.hid hno
        clear hKT hKT' hh hi hnx hno
        obtain ⟨wk, hwk⟩ : ∃ wk, wk = wr := ⟨_, rfl⟩
        subst hwk
        have c0 := ext_cell c0
        have c1 := ext_cell c1
        have d0 := ext_cell d0
        have d1 := ext_cell d1
        by_cases hk : K = K'
        · subst hk
          have hkk : (K != K) = false := by simp
          have HQ := Lib.hid (fun u : Growth wk => same_any tv tu T T' (ext wk u) (HH.out.below u.ok) (HI.out.below u.ok) hlen)
          cases hs : sameB T T' with
          | true =>
            have HS := Lib.hid hs
            rw [hs] at HQ
            clear hs
            go_wp2
            refine wp_region_ext (by kernel_rfl) (by kernel_rfl) ?_
            repeat (go_big_quiet_step (((go_at_call 67; exact callx (HQ.out _)))))
            refine wpQuiet_nil ?_
            intro _ hw'
            obtain ⟨u, hw''⟩ := hw'
            subst hw''
            have HE := Lib.hid (ext_below HBW.out u)
            go_wp2
            go_roundw
            case rel => exact ⟨k + 1, by omega, by go_num, HNX.out (by have := of_decide_eq_true HS.out; rw [this]), HE.out⟩
            case measure => simp [intOf]; omega
          | false =>
            have HS := Lib.hid hs
            rw [hs] at HQ
            clear hs
            go_wp2
            refine wp_region_ext (by kernel_rfl) (by kernel_rfl) ?_
            repeat (go_big_quiet_step (((go_at_call 67; exact callx (HQ.out _)))))
            refine wpQuiet_nil ?_
            intro _ hw'
            obtain ⟨u, hw''⟩ := hw'
            subst hw''
            have HE := Lib.hid (ext_below HBW.out u)
            go_wp2
            go_ret
            exact ⟨ret_eq (by rw [HNO.out (fun e => of_decide_eq_false HS.out (congrArg Prod.snd e))]; try rfl), HE.out⟩
        · have hkk : (K != K') = true := by simpa using hk
          have HK := Lib.hid hk
          clear hk
          go_wp2
          refine wp_region_ext (by kernel_rfl) (by kernel_rfl) ?_
          repeat (go_big_quiet_step ((fail)))
          refine wpQuiet_nil ?_
          intro _ hw'
          obtain ⟨u, hw''⟩ := hw'
          subst hw''
          have HE := Lib.hid (ext_below HBW.out u)
          go_wp2
          go_ret
          exact ⟨ret_eq (by rw [HNO.out (fun e => HK.out (congrArg Prod.fst e))]; try rfl), HE.out⟩
      · obtain rfl : k = a.length := by omega
        have E := Lib.hid (sameC_of HL.out HA.out)
        go_wp2
        go_ret
        exact ⟨ret_eq (by rw [E.out]; try rfl), HBW.out⟩
  · have E := Lib.hid (sameC_len hl)
    have hl2 : ¬ a.length = b.length := fun h => hl h.symm
    go_enter Tryd.func26, Tryd.ntmps26
    go_wp2
    go_ret
    exact ⟨ret_eq (by rw [E.out]; try rfl), Below.refl _ _⟩
end Go.Proofs.YteinppjklhomnaaDoor
