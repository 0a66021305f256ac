/- items: Cells of right items, Columns; the works of layer 29. -/
import Derived.Test.YtmclmhdlnlcafaaDoorItmC
import Derived.Test.YtmclmhdlnlcafaaDoorItmS
import Derived.Test.YtmclmhdlnlcafaaDoorCellP
import Derived.Test.YtmclmhdlnlcafaaDoorCellU
import Derived.Test.YtmclmhdlnlcafaaDoorMg1
import Derived.Test.YtmclmhdlnlcafaaDoorMg3
namespace Go.Proofs.YtmclmhdlnlcafaaDoor
open Go.RowKit Go.ChangeShapes Go.WideShapes
theorem strip_len (M : List Cl) : ∀ k, k ≤ M.length → (stripL (M.take k)).length ≤ 2 * k
  | 0, _ => by simp [stripL]
  | k + 1, h => by
    rw [strip_succ M k (by omega), List.length_append, ofC_len]
    have := strip_len M k (by omega)
    split <;> omega
def CellsMade (w : World) (M : List Cl) (e : Ending) (w' : World) : Prop := ∃ v', e = .returned (.tuple #[v', .nilIface]) ∧ OwnE cellE (fun b => w.heap.size ≤ b) w' w.heap.size 40 v' M ∧ Below w.heap.size w w'
set_option maxRecDepth 100000 in
set_option maxHeartbeats 3000000 in
theorem icells_ok (Z : Zone) (v : Value) (L : List Cl) (w : World) (hv : HeldE cellE Z w v L) (hl : L.length ≤ 1000000) (hr : ∀ k, k < L.length → rightI (L.getD k zc) = true) : Calls Tryd.prog 31 #[v] w (CellsMade w (stripL L)) := by
  have HRT := Lib.hid hr
  have hv := hv.lower
  obtain ⟨ao, cap, rfl⟩ := hv.len
  obtain ⟨_, _, hc⟩ := cells_at hv
  have HC := Lib.hid hc
  clear hc hv hr
  go_enter Tryd.func31, Tryd.ntmps31
  go_wp2
  go_loopw [11] (fun i wr => ∃ k : Nat, k ≤ L.length ∧ i = .int .i64 k ∧ Below w.heap.size w wr) (fun i _ => L.length - (intOf i).toNat)
  case atStart => exact ⟨0, Nat.zero_le _, rfl, Below.refl _ _⟩
  case round =>
    obtain ⟨k, hk, rfl, hbw⟩ := hrel
    have HBW := Lib.hid hbw
    clear hbw
    by_cases hlt : k < L.length
    · obtain ⟨b, off, tv, rfl, hb, _, c0, c1, hh⟩ := HC.out k hlt
      have c0 := (HBW.out.cell (p := ⟨b, off + k * 2, none⟩) hb).trans c0
      have c1 := (HBW.out.cell (p := ⟨b, off + k * 2 + 1, none⟩) hb).trans c1
      have hrt := HRT.out k hlt
      obtain ⟨⟨K, T⟩, hKT⟩ : ∃ y, y = L.getD k zc := ⟨_, rfl⟩
      rw [← hKT] at c0 hh hrt
      simp only at c0 hh
      have htl := hh.max
      obtain ⟨ta, tc, rfl⟩ := hh.len
      obtain ⟨W1, hW1⟩ : ∃ W1, W1 = wr.alloc (.cells #[.int .i64 K, .slice ta T.length tc] 55) := ⟨_, rfl⟩
      have hb1 : Below wr.heap.size wr W1 := by rw [hW1]; exact (Below.refl _ _).alloc (Nat.le_refl _) _
      have HB1 := Lib.hid (HBW.out.trans (hb1.mono HBW.out.size))
      have HQ := Lib.hid (iright_any K _ T W1 (hh.below HB1.out).ints htl)
      rw [hrt] at HQ
      subst hW1
      clear hKT hrt hh hb1 hb
      go_wp2_with fail
      refine HQ.out.mono ?_
      rintro e w2 ⟨rfl, b2⟩
      have HB2 := Lib.hid (HB1.out.trans (b2.mono HB1.out.size))
      clear b2 HQ
      go_wp2
      go_roundw
      case rel => exact ⟨k + 1, by omega, by go_num, HB2.out⟩
      case measure => simp [intOf] <;> omega
    · obtain rfl : k = L.length := by omega
      obtain ⟨w1, hw1⟩ : ∃ w1, w1 = wr := ⟨_, rfl⟩
      subst hw1
      go_wp2
      go_loopw [6, 25] (fun t i wr => ∃ k : Nat, k ≤ L.length ∧ i = .int .i64 k ∧ OwnE cellE (fun b => w1.heap.size ≤ b) wr w1.heap.size 40 t (stripL (L.take k)) ∧ Below w1.heap.size w1 wr) (fun _ i _ => L.length - (intOf i).toNat)
      case atStart => exact ⟨0, Nat.zero_le _, rfl, OwnE.nil _ _ _ _ _, Below.refl _ _⟩
      case round =>
        obtain ⟨k, hk, rfl, hown, hbw⟩ := hrel
        have HBX := Lib.hid hbw
        have HBY := Lib.hid (HBW.out.trans (hbw.mono HBW.out.size))
        clear hbw
        by_cases hlt : k < L.length
        · obtain ⟨b, off, tv, rfl, hb, _, c0, c1, hh⟩ := HC.out k hlt
          have c0 := (HBY.out.cell (p := ⟨b, off + k * 2, none⟩) hb).trans c0
          have c1 := (HBY.out.cell (p := ⟨b, off + k * 2 + 1, none⟩) hb).trans c1
          have hs := strip_succ L k hlt
          have hsl := strip_len L k (by omega)
          have hol := ofC_len (L.getD k zc).1 (L.getD k zc).2
          obtain ⟨⟨K, T⟩, hKT⟩ : ∃ y, y = L.getD k zc := ⟨_, rfl⟩
          rw [← hKT] at c0 hh hs hol
          simp only at c0 hh hs hol
          obtain ⟨O, hO⟩ : ∃ O, O = ofC K T := ⟨_, rfl⟩
          have hol2 : O.length ≤ 2 := by rw [hO, hol]; split <;> omega
          obtain ⟨ta, tc, rfl⟩ := hh.len
          obtain ⟨P0, hP⟩ : ∃ P0, P0 = stripL (L.take k) := ⟨_, rfl⟩
          rw [← hP] at hown hs hsl
          obtain ⟨W1, hW1⟩ : ∃ W1, W1 = wr.alloc (.cells #[.int .i64 K, .slice ta T.length tc] 55) := ⟨_, rfl⟩
          have hb1 : Below wr.heap.size wr W1 := by rw [hW1]; exact (Below.refl _ _).alloc (Nat.le_refl _) _
          have HLO := Lib.hid hown.lt
          have HO := Lib.hid (hown.below hb1)
          have HB1 := Lib.hid (HBX.out.trans (hb1.mono HBX.out.size))
          have HSR := Lib.hid (show w1.heap.size ≤ wr.heap.size ∧ wr.heap.size ≤ W1.heap.size from ⟨HBX.out.size, hb1.size⟩)
          have HCF := Lib.hid (cof_new (fun b => W1.heap.size ≤ b) _ K _ T W1 (fun b h => h) (hh.below (HBY.out.trans (hb1.mono HBY.out.size))))
          rw [← hO] at HCF hs
          have HS := Lib.hid hs
          obtain ⟨t, htt⟩ : ∃ t, t = u6 := ⟨_, rfl⟩
          rw [← htt] at HO HLO ⊢
          subst hW1
          clear hKT hP hh hb1 hown htt hs hb hO hol
          go_wp2_with fail
          refine HCF.out.mono ?_
          rintro e w2 ⟨v2, rfl, ho2, b2⟩
          have HU := Lib.hid (show HeldE cellE (fun b => w1.heap.size ≤ b ∧ t.ownBlock ≠ some b) w2 v2 O from (ho2.held (fun b h _ => h)).zone (fun b _ h => ⟨by have := HSR.out; omega, fun e => by have := (HLO.out _ e).2; have := HSR.out; omega⟩))
          have HO2 := Lib.hid (HO.out.below b2)
          have HB2 := Lib.hid (HB1.out.trans (b2.mono HB1.out.size))
          obtain ⟨a2, c2, rfl⟩ := HU.out.len
          clear ho2 b2 HO HCF c0 c1
          go_wp2_with (at_builtin; refine wpList_append_e (E := cellE) (Z := fun b => w1.heap.size ≤ b) rfl (.tmp 29) (.tmp 34) 22 rfl (.agg #[.int .i64 0, .slice none 0 0]) 32 Tryd.underlying22 info_cell rfl (by decide) rfl rfl HO2.out HU.out (by omega) (by omega) HB2.out.size ?_)
          intro v3 w3 ho3 hb3 _ _
          rw [← HS.out] at ho3
          have H2 := Lib.hid ho3
          have H3 := Lib.hid (HB2.out.trans hb3)
          clear ho3 hb3
          go_wp2
          go_roundw
          case rel => exact ⟨k + 1, by omega, by go_num, H2.out, H3.out⟩
          case measure => simp [intOf] <;> omega
        · have he : stripL (L.take k) = stripL L := by rw [List.take_of_length_le (by omega)]
          rw [he] at hown
          have HO := Lib.hid hown
          clear he hown
          go_wp2
          go_ret2
          exact ⟨_, rfl, (HO.out.base HBW.out.size).zone (fun b _ h => Nat.le_trans HBW.out.size h), HBY.out⟩
def colsL (M : List Cl) (n k : Nat) : List Int := (List.range n).map fun i => if i < k then wideTo M i else 0
theorem cols_len (M : List Cl) (n k : Nat) : (colsL M n k).length = n := by simp [colsL]
theorem cols_at (M : List Cl) (n k i : Nat) (h : i < n) : (colsL M n k).getD i 0 = if i < k then wideTo M i else 0 := by simp [colsL, List.getD, h]
theorem cols_zero (M : List Cl) (n : Nat) : colsL M n 0 = List.replicate n 0 := by
  apply List.ext_getElem?
  intro i
  by_cases h : i < n
  · simp [colsL, List.getElem?_replicate, h]
  · rw [List.getElem?_eq_none (by rw [cols_len]; omega), List.getElem?_eq_none (by simp; omega)]
theorem cols_set (M : List Cl) (n k : Nat) (h : k < n) : (colsL M n k).set k (wideTo M k) = colsL M n (k + 1) := by
  apply List.ext_getElem?
  intro i
  by_cases hi : i < n
  · by_cases e : i = k
    · subst e
      rw [List.getElem?_set_self (by rw [cols_len]; exact hi)]
      simp [colsL, hi]
    · rw [List.getElem?_set_ne (Ne.symm e)]
      simp [colsL, hi]
      by_cases h2 : i < k
      · rw [if_pos h2, if_pos (by omega)]
      · rw [if_neg h2, if_neg (by omega)]
  · rw [List.getElem?_eq_none (by rw [List.length_set, cols_len]; omega), List.getElem?_eq_none (by rw [cols_len]; omega)]
theorem info_int : (Tryd.prog.info? 3).map (fun i => (i.zero, i.size, i.bytes)) = some (some (.int .i64 0), (intE .i64).size, 8) := by kernel_rfl
set_option maxRecDepth 100000 in
set_option maxHeartbeats 3000000 in
theorem icols_any (Z : Zone) (v : Value) (L : List Cl) (w : World) (hv : HeldE cellE Z w v L) (hl : L.length ≤ 1000000) : Calls Tryd.prog 33 #[v] w (MadeE (intE .i64) (fun _ => True) 3 w (colsL L L.length L.length)) := by
  have hv := hv.lower
  obtain ⟨ao, cap, rfl⟩ := hv.len
  obtain ⟨_, _, hc⟩ := cells_at hv
  have HC := Lib.hid hc
  obtain ⟨i0, hi, hz0, hz1, hz2⟩ := info_parts info_int
  obtain ⟨N, hN⟩ : ∃ N, N = L.length := ⟨_, rfl⟩
  have HN := Lib.hid hN
  rw [← hN] at hl HC ⊢
  clear hc hv hN
  go_enter Tryd.func33, Tryd.ntmps33
  go_wp2_with (at_make; refine wpList_make_full w rfl (.tmp 8) (.tmp 8) 51 rfl w.heap.size 3 i0 (.int .i64 0) 1 Tryd.underlying51 hi hz0 hz1 .i64 .i64 _ _ N rfl rfl rfl rfl (by rw [hz2]; omega) (by unfold maxLen; omega) (Nat.le_refl _) ?_)
  intro w1 hown1 hg1
  have hb1 : Below w.heap.size w w1 := (Below.refl _ _).grown hg1 (Nat.le_refl _) (by intro k hk; cases hk)
  have hown1 : w1.ownsRow w.heap.size 3 1 (.slice (some ⟨w.heap.size, 0, none⟩) N N) N ((List.replicate N (0 : Int)).map (Value.int .i64)) := by rw [← made_ints, Nat.mul_one]; exact hown1
  have ho1 : OwnE (intE .i64) (fun _ => True) w1 w.heap.size 3 (.slice (some ⟨w.heap.size, 0, none⟩) N N) (colsL L N 0) := by rw [cols_zero]; exact ownE_ints hown1
  have HO1 := Lib.hid ho1
  have HB1 := Lib.hid hb1
  generalize hgn : w.heap.size = g at HO1
  have HG := Lib.hid hgn
  clear hown1 hg1 hb1 ho1 hi hz0 hz1 hz2 hgn
  go_wp2
  go_loopw [4, 12] (fun sv i wr => ∃ k : Nat, k ≤ N ∧ i = .int .i64 k ∧ sv = .int .i64 (wideTo L k) ∧ OwnE (intE .i64) (fun _ => True) wr g 3 (.slice (some ⟨g, 0, none⟩) N N) (colsL L N k) ∧ Below w.heap.size w wr) (fun _ i _ => N - (intOf i).toNat)
  case atStart => exact ⟨0, Nat.zero_le _, rfl, rfl, HO1.out, HB1.out⟩
  case round =>
    obtain ⟨k, hk, rfl, rfl, hown, hbw⟩ := hrel
    have HBW := Lib.hid hbw
    clear hbw
    by_cases hlt : k < N
    · obtain ⟨b, off, tv, rfl, hb, _, c0, c1, hh⟩ := HC.out k hlt
      have c0 := (HBW.out.cell (p := ⟨b, off + k * 2, none⟩) hb).trans c0
      have c1 := (HBW.out.cell (p := ⟨b, off + k * 2 + 1, none⟩) hb).trans c1
      have hs := wideTo_succ L k
      have hle := wideTo_le L k
      have hon := held_one (L.getD k zc)
      have hhd : heldN (L.getD k zc) = heldN ((L.getD k zc).1, []) := rfl
      rw [hhd] at hs hon
      obtain ⟨K, hK⟩ : ∃ K, K = (L.getD k zc).1 := ⟨_, rfl⟩
      rw [← hK] at c0 hs hon
      obtain ⟨ta, tc, rfl⟩ := hh.len
      obtain ⟨n, hn⟩ : ∃ n, n = (L.getD k zc).2.length := ⟨_, rfl⟩
      rw [← hn] at c1
      have hst := cols_set L N k hlt
      obtain ⟨s, hS⟩ : ∃ s, s = wideTo L k := ⟨_, rfl⟩
      rw [← hS] at hs hle hst
      obtain ⟨H, hH⟩ : ∃ H, H = heldN (K, []) := ⟨_, rfl⟩
      rw [← hH] at hs hon
      have hw : IntKind.i64.wrap (s + H) = s + H := by rw [IntKind.wrap_i64]; omega
      obtain ⟨W1, hW1⟩ : ∃ W1, W1 = wr.alloc (.cells #[.int .i64 K, .slice ta n tc] 55) := ⟨_, rfl⟩
      have hb1 : Below wr.heap.size wr W1 := by rw [hW1]; exact (Below.refl _ _).alloc (Nat.le_refl _) _
      have HH := Lib.hid (show Has W1 wr.heap.size [.int .i64 K, .slice ta n tc] 55 by rw [hW1]; exact Has.new wr _ _)
      have HBX := Lib.hid (HBW.out.trans (hb1.mono HBW.out.size))
      have HGL := Lib.hid (hown.lt g rfl)
      have HO := Lib.hid (hown.below hb1)
      have HS := Lib.hid hs
      have HST := Lib.hid hst
      have HHE := Lib.hid hH
      rw [← hS]
      obtain ⟨cl, hcl⟩ : ∃ cl, cl = colsL L N k := ⟨_, rfl⟩
      have hcll : k < cl.length := by rw [hcl, cols_len]; exact hlt
      rw [← hcl] at HO HST
      have HCL := Lib.hid hcll
      have HLN := Lib.hid (show cl.length = N by rw [hcl, cols_len])
      clear hK hn hh hb1 hb hhd hs hst hown hS hH hcl hcll
      go_upto_region 6 with (fail)
      rw [← hW1]
      clear hW1 c0 c1
      have hor : W1.ownsRow g 3 1 (.slice (some ⟨g, 0, none⟩) N N) N (cl.map (Value.int .i64)) := by
        have := HO.out.ints
        rwa [HLN.out] at this
      have hst := (hor.stored k (.int .i64 s)).1
      rw [← List.map_set, HST.out] at hst
      have hcc : ∃ y, W1.cell? ⟨g, k, none⟩ = some y := by
        rw [hor.cellAt k (by omega)]
        exact ⟨_, List.getElem?_eq_getElem (by simp; exact HCL.out)⟩
      obtain ⟨y, hy⟩ := hcc
      have hfro := hor.frozenAt k
      have hu2 := (Upd.refl (fun b => b = g) W1).setCell (p := ⟨g, k, none⟩) (.inl rfl) (.int .i64 s)
      obtain ⟨w2, hw2⟩ : ∃ w2, w2 = W1.setCell ⟨g, k, none⟩ (.int .i64 s) := ⟨_, rfl⟩
      rw [← hw2] at hst hu2
      have H2 := Lib.hid (show OwnE (intE .i64) (fun _ => True) w2 g 3 (.slice (some ⟨g, 0, none⟩) N N) (colsL L N (k + 1)) from ownE_ints hst)
      have HH2 := Lib.hid (hu2.keep.has HH.out (by have := HGL.out; omega))
      have HB2 := Lib.hid (HBX.out.upd hu2 HBX.out.size (fun x e => by have := HG.out; omega))
      clear hst hor hu2 HO HH
      have HQ := Lib.hid (iheld_any K (.slice ta n tc) w2 ⟨_, _, _, rfl⟩)
      have d0 := HH2.out.cell 0 _ rfl
      have d1 := HH2.out.cell 1 _ rfl
      rw [← HHE.out] at HQ
      subst hw2
      go_wp2_with fail
      refine HQ.out.mono ?_
      rintro e w3 ⟨rfl, b3⟩
      have H3 := Lib.hid (H2.out.below b3)
      have HB3 := Lib.hid (HB2.out.trans (b3.mono HB2.out.size))
      have HSS := Lib.hid (show s + H = wideTo L (k + 1) from HS.out.symm)
      clear b3 HQ d0 d1
      go_wp2
      go_roundw
      case rel => exact ⟨k + 1, by omega, by go_num, by rw [← HSS.out]; try go_num, H3.out, HB3.out⟩
      case measure => simp [intOf] <;> omega
    · obtain rfl : k = N := by omega
      have HO := Lib.hid hown
      clear hown
      go_wp2
      go_ret
      exact ⟨_, rfl, by rw [HG.out]; exact HO.out, HBW.out⟩
set_option maxRecDepth 100000 in
set_option maxHeartbeats 3000000 in
theorem works29_any (w : World) : Calls Tryd.prog 25 #[] w (Yes w) := by
  obtain ⟨W1, hW1⟩ : ∃ W1, W1 = w.alloc (.cells #[.int .i32 97] 21) := ⟨_, rfl⟩
  obtain ⟨W2, hW2⟩ : ∃ W2, W2 = W1.alloc (.cells #[.int .i64 1, .slice (some ⟨w.heap.size, 0, none⟩) 1 1] 40) := ⟨_, rfl⟩
  obtain ⟨W3, hW3⟩ : ∃ W3, W3 = W2.alloc (.cells #[.int .i32 19968] 21) := ⟨_, rfl⟩
  have s1 : W1.heap.size = w.heap.size + 1 := by rw [hW1]; simp
  have s2 : W2.heap.size = w.heap.size + 2 := by rw [hW2]; simp [s1]
  have b1 : Below w.heap.size w W1 := by rw [hW1]; exact (Below.refl _ _).alloc (Nat.le_refl _) _
  have b2 : Below W1.heap.size W1 W2 := by rw [hW2]; exact (Below.refl _ _).alloc (Nat.le_refl _) _
  have b3 : Below W2.heap.size W2 W3 := by rw [hW3]; exact (Below.refl _ _).alloc (Nat.le_refl _) _
  have ht1 : HeldE (intE .i32) (fun b => b = w.heap.size) W1 (.slice (some ⟨w.heap.size, 0, none⟩) 1 1) [97] := by rw [hW1]; exact heldE_one (Y := fun _ => False) [.int .i32 97] 97 rfl (fun _ _ h => h.elim) rfl
  have ho2 : OwnE cellE (fun _ => True) W2 w.heap.size 40 (.slice (some ⟨w.heap.size + 1, 0, none⟩) 1 1) [(1, [97])] := by
    have := strip1_own (fun b => b = w.heap.size) W1 (B := w.heap.size) 1 _ [97] ht1 (by omega)
    rw [← hW2, s1] at this
    exact this.zone (fun _ _ _ => trivial)
  have ht3 : HeldE (intE .i32) (fun _ => True) W3 (.slice (some ⟨w.heap.size + 2, 0, none⟩) 1 1) [19968] := by rw [hW3, ← s2]; exact heldE_one (Y := fun _ => False) [.int .i32 19968] 19968 rfl (fun _ _ h => h.elim) trivial
  have HO := Lib.hid (rcof_new (fun b => b ≠ w.heap.size + 1) _ 2 _ [19968] W3 (fun b h => by have := b3.size; omega) ht3)
  rw [show ofC 2 [19968] = [(2, [19968]), (3, [])] from by decide] at HO
  have HO2 := Lib.hid (ho2.below b3)
  have HB := Lib.hid ((b1.trans (b2.mono b1.size)).trans (b3.mono (by omega)))
  have HS3 := Lib.hid (show w.heap.size + 2 ≤ W3.heap.size by have := b3.size; omega)
  subst hW3
  subst hW2
  subst hW1
  clear s1 s2 b1 b2 b3 ht1 ho2 ht3
  go_enter Tryd.func25, Tryd.ntmps25
  go_wp2_with fail
  refine HO.out.mono ?_
  rintro e w4 ⟨v4, rfl, ho4, b4⟩
  have HU := Lib.hid (show HeldE cellE (fun b => True ∧ (Value.slice (some ⟨w.heap.size + 1, 0, none⟩) 1 1).ownBlock ≠ some b) w4 v4 _ from (ho4.held (fun b h _ => by have := HS3.out; omega)).zone (fun b _ h => ⟨trivial, fun e => h (by simpa [Value.ownBlock] using e.symm)⟩))
  have HOX := Lib.hid (HO2.out.below b4)
  replace HB := Lib.hid (HB.out.trans (b4.mono HB.out.size))
  clear b4
  obtain ⟨ao4, c4, rfl⟩ := HU.out.len
  clear ho4 HO HO2
  go_wp2_with (at_builtin; refine wpList_append_e (E := cellE) (Z := fun _ => True) rfl (.tmp 6) (.tmp 8) 22 rfl (.agg #[.int .i64 0, .slice none 0 0]) 32 Tryd.underlying22 info_cell rfl (by decide) rfl rfl HOX.out HU.out (by simp) (by simp) HB.out.size ?_)
  intro v5 w5 ho5 b5 _ _
  have HH5 := Lib.hid (ho5.held (fun _ _ _ => trivial))
  replace HB := Lib.hid (HB.out.trans b5)
  have HP := Lib.hid (iof_ok _ _ _ _ HH5.out (by decide) (by decide))
  rw [show itemsL [(1, [97]), (2, [19968]), (3, [])] = [(1, [97]), (2, [19968])] from rfl] at HP
  obtain ⟨ao5, c5, rfl⟩ := HH5.out.len
  clear ho5 b5 HOX HU
  go_wp2_with fail
  refine HP.out.mono ?_
  rintro e w6 ⟨v6, rfl, ho6, b6⟩
  have HV := Lib.hid (ho6.held (fun _ h _ => h))
  obtain ⟨g6, c6, rfl, _, _⟩ := ho6.some (by decide)
  have hq := (cells_at HV.out).2.2 1 (by decide)
  obtain ⟨b9, off9, tv9, e9, _, _, k0, _, _⟩ := hq
  cases e9
  simp only [Nat.zero_add, Nat.one_mul] at k0
  have k0 : w6.cell? ⟨g6, 2, none⟩ = some (.int .i64 2) := k0
  have hcap := (cells_at HV.out).2.1
  replace HB := Lib.hid (HB.out.trans (b6.mono HB.out.size))
  clear b6
  clear ho6 HP
  have HW := Lib.hid (show Calls Tryd.prog 30 _ w6 (Gives w6 (.int .i64 3)) from iwide_any _ _ _ w6 HV.out (by decide))
  go_wp2_with fail
  refine HW.out.mono ?_
  rintro e w7 ⟨rfl, b7⟩
  replace HB := Lib.hid (HB.out.trans (b7.mono HB.out.size))
  replace HV := Lib.hid (HV.out.below b7)
  clear b7
  clear HW
  have HI := Lib.hid (icols_any _ _ _ w7 HV.out (by decide))
  go_wp2_with fail
  refine HI.out.mono ?_
  rintro e w8 ⟨v8, rfl, ho8, b8⟩
  have hl8 := (ho8.held (Z := fun _ => True) (fun _ _ _ => trivial)).len
  obtain ⟨a8, c8, rfl⟩ := hl8
  rw [show (colsL [(1, [97]), (2, [19968])] ([(1, [97]), (2, [19968])] : List Cl).length ([(1, [97]), (2, [19968])] : List Cl).length).length = 2 from rfl]
  replace HB := Lib.hid (HB.out.trans (b8.mono HB.out.size))
  clear b8
  clear ho8 HI k0
  go_wp2
  go_ret
  exact ⟨(ret_eq (by first | rfl | (simp <;> omega))), HB.out⟩
end Go.Proofs.YtmclmhdlnlcafaaDoor
