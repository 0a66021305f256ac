/- The reference's items (29): Of. -/
import Derived.Test.YtmclmhdlnlcafaaDoorCellP
import Derived.Test.YtmclmhdlnlcafaaDoorMg1
namespace Go.Proofs.YtmclmhdlnlcafaaDoor
open Go.RowKit Go.ChangeShapes Go.WideShapes
def itemOf (c : Cl) : List Cl := if c.1 < 2 then [(1, c.2)] else if c.1 = 2 then [(2, c.2)] else []
def itemsL (L : List Cl) : List Cl := L.flatMap itemOf
theorem itemOf_len (c : Cl) : (itemOf c).length ≤ 1 := by
  unfold itemOf
  split
  · simp
  · split <;> simp
theorem items_len (L : List Cl) : (itemsL L).length ≤ L.length := by
  unfold itemsL
  induction L with
  | nil => simp
  | cons c L ih =>
    rw [List.flatMap_cons, List.length_append, List.length_cons]
    have := itemOf_len c
    omega
theorem items_succ (L : List Cl) (k : Nat) (h : k < L.length) : itemsL (L.take (k + 1)) = itemsL (L.take k) ++ itemOf (L.getD k zc) := by
  unfold itemsL
  rw [List.take_succ_eq_append_getElem h, List.flatMap_append]
  simp [List.getD, List.getElem?_eq_getElem h]
theorem info_item : (Tryd.prog.info? 55).map (fun i => (i.zero, i.size, i.bytes)) = some (some (.agg #[.int .i64 0, .slice none 0 0]), cellE.size, 32) := by kernel_rfl
set_option maxRecDepth 100000 in
set_option maxHeartbeats 1600000 in
theorem rof29_any (Z : Zone) (v : Value) (L : List Cl) (w : World) (hZ : ∀ b, w.heap.size ≤ b → Z b) (hv : HeldE cellE Z w v L) (hl : L.length ≤ 1000000) : Calls Tryd.prog 29 #[v] w (MadeE cellE Z 55 w (itemsL L)) := by
  have hv := hv.zone (Y := fun b => Z b ∧ b < w.heap.size) (fun b hb hz => ⟨hz, hb⟩)
  obtain ⟨ao, cap, rfl⟩ := hv.len
  obtain ⟨_, _, hc⟩ := cells_at hv
  have HC := Lib.hid hc
  have HZ := Lib.hid hZ
  clear hc hv hZ
  go_enter Tryd.func29, Tryd.ntmps29
  go_wp2
  go_loopw [3, 4] (fun t i wr => ∃ k : Nat, k ≤ L.length ∧ i = .int .i64 k ∧ OwnE cellE Z wr w.heap.size 55 t (itemsL (L.take k)) ∧ Below w.heap.size w wr) (fun _ i _ => L.length - (intOf i).toNat)
  case atStart => exact ⟨0, Nat.zero_le _, rfl, OwnE.nil _ _ _ _ _, Below.refl _ _⟩
  case round =>
    obtain ⟨k, hk, rfl, hown, hbw⟩ := hrel
    have HBW := Lib.hid hbw
    clear hbw
    by_cases hlt : k < L.length
    · obtain ⟨b, off, tv, rfl, hb, _, c0, c1, hh⟩ := HC.out k hlt
      have hs := items_succ L k hlt
      have hlen : (itemsL (L.take k)).length ≤ 1000000 := by have := items_len (L.take k); rw [List.length_take] at this; omega
      obtain ⟨⟨K, T⟩, hKT⟩ : ∃ y, y = L.getD k zc := ⟨_, rfl⟩
      rw [← hKT] at c0 hh hs
      simp only at c0 hh
      unfold itemOf at hs
      dsimp only at hs
      have HT := Lib.hid hh
      obtain ⟨tz9, tc, rfl⟩ := hh.len
      have HF := Lib.hid (show ∀ w2, Below w.heap.size w w2 → w2.cell? ⟨b, off + k * 2, none⟩ = some (.int .i64 K) ∧ w2.cell? ⟨b, off + k * 2 + 1, none⟩ = some (.slice tz9 T.length tc) from fun w2 h => ⟨(h.cell (p := ⟨b, off + k * 2, none⟩) hb).trans c0, (h.cell (p := ⟨b, off + k * 2 + 1, none⟩) hb).trans c1⟩)
      obtain ⟨P0, hP⟩ : ∃ P0, P0 = itemsL (L.take k) := ⟨_, rfl⟩
      rw [← hP] at hown hs hlen
      obtain ⟨t, ht⟩ : ∃ t, t = u3 := ⟨_, rfl⟩
      rw [← ht] at hown ⊢
      have hlo := hown.lt
      clear hP hKT hh c0 c1 hb ht
      obtain ⟨c0, c1⟩ := HF.out wr HBW.out
      by_cases h2 : K < 2
      · rw [if_pos h2] at hs
        have HS := Lib.hid hs
        have hk1 : decide (K < 2) = true := by rw [decide_eq_true_eq]; exact h2
        have hk2 : (K == 2) = false := by rw [beq_eq_false_iff_ne]; omega
        clear hs h2
        have HX := Lib.hid (show HeldE cellE (fun b => Z b ∧ t.ownBlock ≠ some b) (wr.alloc (.cells [Value.int .i64 1, .slice tz9 T.length tc].toArray 55)) (.slice (some ⟨wr.heap.size, 0, none⟩) 1 1) [(1, T)] from heldE_one (Y := fun b => Z b ∧ b < w.heap.size) [.int .i64 1, .slice tz9 T.length tc] (1, T) (cell_rep.2 ⟨_, rfl, HT.out.below HBW.out⟩) (fun b _ hy => ⟨hy.1, fun e => by have := (hlo _ e).1; omega⟩) ⟨HZ.out _ HBW.out.size, fun e => by have := (hlo _ e).2; omega⟩)
        have HO := Lib.hid (hown.below ((Below.refl wr.heap.size wr).alloc (Nat.le_refl _) (.cells [Value.int .i64 1, .slice tz9 T.length tc].toArray 55)))
        have HB1 := Lib.hid (HBW.out.alloc HBW.out.size (.cells [Value.int .i64 1, .slice tz9 T.length tc].toArray 55))
        clear hown hlo
        go_wp2_with (at_builtin; refine wpList_append_e (E := cellE) (Z := Z) rfl (.tmp 17) (.tmp 24) 41 rfl (.agg #[.int .i64 0, .slice none 0 0]) 32 Tryd.underlying41 info_item rfl (by decide) rfl rfl HO.out HX.out (by simp; omega) (by simp; omega) HB1.out.size ?_)
        intro v2 w2 ho2 hb2 _ _
        have hb3 := HB1.out.trans hb2
        rw [← HS.out] at ho2
        have H2 := Lib.hid ho2
        have H3 := Lib.hid hb3
        clear ho2 hb2 hb3 c0 c1
        obtain ⟨c0, c1⟩ := HF.out w2 H3.out
        go_wp2
        go_roundw
        case rel => exact ⟨k + 1, by omega, by go_num, H2.out, H3.out⟩
        case measure => simp [intOf] <;> omega
      rw [if_neg h2] at hs
      by_cases h3 : K = 2
      · rw [if_pos h3] at hs
        have HS := Lib.hid hs
        have hk1 : decide (K < 2) = false := by rw [decide_eq_false_iff_not]; exact h2
        have hk2 : (K == 2) = true := by rw [beq_iff_eq]; exact h3
        clear hs h2 h3
        have HX := Lib.hid (show HeldE cellE (fun b => Z b ∧ t.ownBlock ≠ some b) (wr.alloc (.cells [Value.int .i64 2, .slice tz9 T.length tc].toArray 55)) (.slice (some ⟨wr.heap.size, 0, none⟩) 1 1) [(2, T)] from heldE_one (Y := fun b => Z b ∧ b < w.heap.size) [.int .i64 2, .slice tz9 T.length tc] (2, T) (cell_rep.2 ⟨_, rfl, HT.out.below HBW.out⟩) (fun b _ hy => ⟨hy.1, fun e => by have := (hlo _ e).1; omega⟩) ⟨HZ.out _ HBW.out.size, fun e => by have := (hlo _ e).2; omega⟩)
        have HO := Lib.hid (hown.below ((Below.refl wr.heap.size wr).alloc (Nat.le_refl _) (.cells [Value.int .i64 2, .slice tz9 T.length tc].toArray 55)))
        have HB1 := Lib.hid (HBW.out.alloc HBW.out.size (.cells [Value.int .i64 2, .slice tz9 T.length tc].toArray 55))
        clear hown hlo
        go_wp2_with (at_builtin; refine wpList_append_e (E := cellE) (Z := Z) rfl (.tmp 32) (.tmp 39) 41 rfl (.agg #[.int .i64 0, .slice none 0 0]) 32 Tryd.underlying41 info_item rfl (by decide) rfl rfl HO.out HX.out (by simp; omega) (by simp; omega) HB1.out.size ?_)
        intro v2 w2 ho2 hb2 _ _
        have hb3 := HB1.out.trans hb2
        rw [← HS.out] at ho2
        have H2 := Lib.hid ho2
        have H3 := Lib.hid hb3
        clear ho2 hb2 hb3 c0 c1
        obtain ⟨c0, c1⟩ := HF.out w2 H3.out
        go_wp2
        go_roundw
        case rel => exact ⟨k + 1, by omega, by go_num, H2.out, H3.out⟩
        case measure => simp [intOf] <;> omega
      rw [if_neg h3, List.append_nil] at hs
      have hk1 : decide (K < 2) = false := by rw [decide_eq_false_iff_not]; exact h2
      have hk2 : (K == 2) = false := by rw [beq_eq_false_iff_ne]; exact h3
      rw [← hs] at hown
      have HO := Lib.hid hown
      clear hs h2 h3 hown hlo
      go_wp2
      go_roundw
      case rel => exact ⟨k + 1, by omega, by go_num, HO.out, HBW.out⟩
      case measure => simp [intOf] <;> omega
    · have he : itemsL (L.take k) = itemsL L := by rw [List.take_of_length_le (by omega)]
      rw [he] at hown
      have HO := Lib.hid hown
      clear he hown
      go_wp2
      go_ret
      exact ⟨_, rfl, HO.out, HBW.out⟩
end Go.Proofs.YtmclmhdlnlcafaaDoor
