/- A feeder beside a base of blocks; works of layer 37. -/
import Derived.Test.YtoeggiplcaegoaaGreatDoorMg11
import Derived.Test.YtoeggiplcaegoaaGreatDoorMg10
import Derived.Test.YtoeggiplcaegoaaGreatDoorMg1
namespace Go.Proofs.YtoeggiplcaegoaaGreatDoor
open Go.RowKit Go.ChangeShapes Go.WideShapes
section
variable {n : Nat} {w w1 : World} {gp gg gr wd gf : Nat} {R : List Rw} {op : Option Nat} {p : Pn} {xs ys : List Int} {s t : St}
/-- All that a feeder writes lies at n or behind. -/
def FOn (n : Nat) (w : World) (gp gg gr wd gf : Nat) (R : List Rw) (p : Pn) (xs : List Int) (s : St) (op : Option Nat) : Prop := FAt w n gp gg gr wd gf R p xs s op ∧ n ≤ gf ∧ (∀ g, op = some g → n ≤ g) ∧ n ≤ w.heap.size
theorem fw_ge (h : FOn n w gp gg gr wd gf R p xs s op) (b : Nat) (hb : FW w gp gr gf R op b) : n ≤ b := by
  obtain ⟨h1, h2, h3, h4⟩ := h
  rcases hb with (e | e) | e
  · obtain ⟨_, _, hp⟩ := h1.2.pen
    exact pz_ge hp.any h4 b e
  · exact h3 b e
  · rw [e]; exact h2
theorem FOn.below (h : FOn n w gp gg gr wd gf R p xs s op) (hb : Below w.heap.size w w1) : FOn n w1 gp gg gr wd gf R p xs s op := ⟨h.1.below hb, h.2.1, h.2.2.1, Nat.le_trans h.2.2.2 hb.size⟩
theorem FOn.go (h : FOn n w gp gg gr wd gf R p xs s op) (k : FGo w n gp gg gr wd gf R op p ys t w1) : ∃ R' op', FOn n w1 gp gg gr wd gf R' p ys t op' ∧ Upd (FW w gp gr gf R op) w w1 ∧ Below n w w1 ∧ RowsFrom w R R' ∧ ∀ g, op' = some g → op = some g ∨ w.heap.size ≤ g := by
  obtain ⟨R', op', k1, k2, k3, k4⟩ := k
  refine ⟨R', op', ⟨k1, h.2.1, fun g e => ?_, Nat.le_trans h.2.2.2 k2.size⟩, k2, k2.below h.2.2.2 (fw_ge h), k3, k4⟩
  rcases k4 g e with e | e
  · exact h.2.2.1 g e
  · exact Nat.le_trans h.2.2.2 e
/-- A slice made behind a feeder is none of its blocks. -/
theorem FOn.made {k : IntKind} (h : FOn n w gp gg gr wd gf R p xs s op) {v : Value} {L : List Int} (hv : HeldE (intE k) (fun b => w.heap.size ≤ b) w1 v L) : HeldE (intE k) (fun b => ¬ FW w1 gp gr gf R op b) w1 v L := hv.zone fun b hb hz => fw_fresh h.1 hz hb
end
def fk0 : Pn := ⟨List.replicate 1 (List.replicate 3 zc, false), 0, 0, false, true⟩
def fkS (k : Nat) : St := if k = 0 then st0 else if k = 1 then feedSt st0 [101] else if k = 2 then feedSt (feedSt st0 [101]) [204] else feedSt (feedSt (feedSt st0 [101]) [204]) [129]
def fkX : List Int := (([] ++ feedTo st0 [101]) ++ feedTo (fkS 1) [204]) ++ feedTo (fkS 2) [129]
theorem fk_1 : fkX = [101, 769] ∧ (fkS 3).2.2 = 0 := by decide +kernel
theorem fk_2 : openT [101, 769] = [101, 769] := by decide +kernel
theorem fk_3 : ((layP 3 fk0 (cluA [101, 769])).L.getD 0 zl).1.getD 0 zc = (1, [101, 769]) ∧ (layP 3 fk0 (cluA [101, 769])).L.length = 1 := by decide +kernel
theorem st0_wf : wfS st0 := wfS_zero
theorem fk_wf1 : wfS (fkS 1) := wfS_feed _ _ st0_wf (by decide)
theorem fk_wf2 : wfS (fkS 2) := wfS_feed _ _ fk_wf1 (by decide)
theorem fk_b (x : Int) (h0 : 0 ≤ x) (h1 : x ≤ 255) : inBytes [x] := by
  intro i hi
  have : i = 0 := by simpa using hi
  subst this
  exact ⟨h0, h1⟩
set_option maxRecDepth 100000 in
set_option maxHeartbeats 6000000 in
theorem works37_any (w : World) : Calls Tryz.prog 30 #[] w (Yes w) := by
  have HNW := Lib.hid (pnew_any 3 1 w)
  rw [show rowN 3 = 3 from rfl, show rowN 1 = 1 from rfl] at HNW
  go_enter Tryz.func30, Tryz.ntmps30
  go_wp2_with fail
  refine HNW.out.mono ?_
  rintro e w1 ⟨gp, gg, gr, R0, rfl, h1, b1⟩
  have HFN := Lib.hid (fnew_any (p := fk0) h1)
  have B1 := Lib.hid b1
  clear h1 b1 HNW
  go_wp2_with fail
  refine HFN.out.mono ?_
  rintro e w2 ⟨gf, rfl, hg, h2, b2⟩
  have k2 : FOn w.heap.size w2 gp gg gr 3 gf R0 fk0 [] st0 none := ⟨h2, Nat.le_trans B1.out.size hg, (fun g e => by cases e), Nat.le_trans B1.out.size b2.size⟩
  have B2 := Lib.hid (B1.out.trans (b2.mono B1.out.size))
  have hb := (Below.refl w2.heap.size w2).alloc (Nat.le_refl _) (.cells [Value.int .u8 101].toArray 5)
  have ht := heldE_one (w := w2) (ty := 5) (E := intE .u8) (Y := fun _ => False) (Z := fun b => w2.heap.size ≤ b) [.int .u8 101] 101 rfl (fun _ _ h => h.elim) (Nat.le_refl _)
  have HP := Lib.hid (fbytes_any w.heap.size gp gg gr 3 gf R0 fk0 [] st0 none _ [101] _ (k2.below hb).1 st0_wf (k2.made ht) (fk_b 101 (by decide) (by decide)))
  have H2 := Lib.hid (k2.below hb)
  replace B2 := Lib.hid (B2.out.trans (hb.mono B2.out.size))
  clear h2 b2 hb ht k2 HFN B1 hg
  go_wp2_with fail
  refine HP.out.mono ?_
  rintro e w3 ⟨rfl, kg⟩
  obtain ⟨R3, op3, k3, _, b3, _⟩ := H2.out.go kg
  have B3 := Lib.hid (B2.out.trans b3)
  have hb := (Below.refl w3.heap.size w3).alloc (Nat.le_refl _) (.cells [Value.int .u8 204].toArray 5)
  have ht := heldE_one (w := w3) (ty := 5) (E := intE .u8) (Y := fun _ => False) (Z := fun b => w3.heap.size ≤ b) [.int .u8 204] 204 rfl (fun _ _ h => h.elim) (Nat.le_refl _)
  have HP := Lib.hid (fbytes_any w.heap.size gp gg gr 3 gf R3 fk0 _ (fkS 1) op3 _ [204] _ (k3.below hb).1 fk_wf1 (k3.made ht) (fk_b 204 (by decide) (by decide)))
  have H3 := Lib.hid (k3.below hb)
  replace B3 := Lib.hid (B3.out.trans (hb.mono B3.out.size))
  clear kg b3 hb ht k3 B2 H2
  go_wp2_with fail
  refine HP.out.mono ?_
  rintro e w4 ⟨rfl, kg⟩
  obtain ⟨R4, op4, k4, _, b4, _⟩ := H3.out.go kg
  have B4 := Lib.hid (B3.out.trans b4)
  have hb := (Below.refl w4.heap.size w4).alloc (Nat.le_refl _) (.cells [Value.int .u8 129].toArray 5)
  have ht := heldE_one (w := w4) (ty := 5) (E := intE .u8) (Y := fun _ => False) (Z := fun b => w4.heap.size ≤ b) [.int .u8 129] 129 rfl (fun _ _ h => h.elim) (Nat.le_refl _)
  have HP := Lib.hid (fbytes_any w.heap.size gp gg gr 3 gf R4 fk0 _ (fkS 2) op4 _ [129] _ (k4.below hb).1 fk_wf2 (k4.made ht) (fk_b 129 (by decide) (by decide)))
  have H4 := Lib.hid (k4.below hb)
  replace B4 := Lib.hid (B4.out.trans (hb.mono B4.out.size))
  clear kg b4 hb ht k4 B3 H3
  go_wp2_with fail
  refine HP.out.mono ?_
  rintro e w5 ⟨rfl, kg⟩
  obtain ⟨R5, op5, k5, _, b5, _⟩ := H4.out.go kg
  have k5 : FOn w.heap.size w5 gp gg gr 3 gf R5 fk0 fkX (fkS 3) op5 := k5
  rw [fk_1.1] at k5
  have B5 := Lib.hid (B4.out.trans b5)
  obtain ⟨Yo, _, hpn⟩ := k5.1.2.pen
  have z0 := hpn.1.cell 0 _ rfl
  have hrl := hpn.sizes.2.2.2.2.1
  have hrl2 : R5.length = 1 := by rw [hrl]; exact fk_3.2
  have hrow := hpn.2.2.1.row (i := 0) (by omega)
  have hln := (row_line hpn.2.2.2 0 (by omega)).1
  have hlen : (R5.getD 0 r0).L.length = 3 := by rw [hln]; exact hpn.sizes.2.2.2.2.2 0 (by rw [fk_3.2]; decide)
  have HRW := Lib.hid (grow_in w.heap.size gg gr 3 R5 0 _ hpn.2.2.1 (by omega))
  have HC := Lib.hid (show Calls Tryz.prog 85 #[.pointer (some ⟨(R5.getD 0 r0).g, 0, none⟩), .int .i64 0] w5 (fun e w' => ∃ tv, e = .returned (.tuple #[.agg #[.int .i64 1, tv], .bool true]) ∧ HeldE (intE .i32) (fun b => w5.heap.size ≤ b) w' tv [101, 769] ∧ Below w5.heap.size w5 w') from by
    have hx := rcell_in _ _ _ _ _ _ 0 _ hrow (by rw [hlen]; decide)
    rw [hln, fk_3.1] at hx
    exact hx)
  have H5 := Lib.hid k5
  obtain ⟨gk, hgk⟩ : ∃ gk, gk = (R5.getD 0 r0).g := ⟨_, rfl⟩
  rw [← hgk] at HRW HC
  clear kg b5 hrow hln hlen hrl hrl2 hpn hgk k5 B4 H4 HP
  go_wp2_with fail
  refine HRW.out.mono ?_
  rintro e wz ⟨rfl, rfl⟩
  go_wp2_with fail
  refine HC.out.mono ?_
  rintro e w6 ⟨tv, rfl, h6, b6⟩
  obtain ⟨ta, tc, e6⟩ := h6.len
  rw [show ([101, 769] : List Int).length = 2 from rfl] at e6
  subst e6
  have B6 := Lib.hid (B5.out.trans (b6.mono B5.out.size))
  have H6 := Lib.hid (H5.out.below b6)
  have HT := Lib.hid h6.ints
  clear b6 h6 B5 H5 HC HRW
  go_upto_region 9 with (fail)
  obtain ⟨W7, hW7⟩ : ∃ W7, W7 = w6.alloc (.cells #[.int .i64 1, .slice ta 2 tc] 147) := ⟨_, rfl⟩
  rw [← hW7]
  have hb : Below w6.heap.size w6 W7 := by rw [hW7]; exact (Below.refl w6.heap.size w6).alloc (Nat.le_refl _) _
  have hit : Has W7 w6.heap.size [.int .i64 1, .slice ta 2 tc] 147 := by rw [hW7]; exact Has.new w6 _ _
  have c1 := hit.cell 1 _ rfl
  have hb8 := (Below.refl W7.heap.size W7).alloc (Nat.le_refl _) (.cells [Value.int .i32 101, Value.int .i32 769].toArray 21)
  have H8 := Lib.hid ((H6.out.below hb).below hb8)
  have B8 := Lib.hid ((B6.out.trans (hb.mono B6.out.size)).trans (hb8.mono (Nat.le_trans B6.out.size hb.size)))
  have HS := Lib.hid (same_any _ _ [101, 769] [101, 769] _ ((HT.out.below hb).below hb8) (held_new .i32 W7 [Value.int .i32 101, Value.int .i32 769] 21 2 2 [101, 769] rfl rfl) (by decide))
  rw [sameB_self] at HS
  have HH := Lib.hid (fun w' (b : Below _ _ w') => (fheld_any (H8.out.below b).1))
  have HO := Lib.hid (fun w' (b : Below _ _ w') => (fopen_any (H8.out.below b).1))
  rw [fk_1.2] at HH
  rw [fk_2] at HO
  clear hW7 hb hit hb8 H6 B6 HT
  go_wp2_with fail
  refine HS.out.mono ?_
  rintro e wa ⟨rfl, ba⟩
  go_wp2_with fail
  refine (HH.out _ ba).mono ?_
  rintro e wb ⟨rfl, rfl⟩
  go_wp2_with fail
  refine (HO.out _ ba).mono ?_
  rintro e wc ⟨v, rfl, hv, bc⟩
  obtain ⟨va, vc, rfl⟩ := hv.len
  have HB := Lib.hid ((B8.out.trans (ba.mono B8.out.size)).trans (bc.mono (Nat.le_trans B8.out.size ba.size)))
  clear hv bc ba
  go_wp2
  go_ret
  exact ⟨(ret_eq (by first | rfl | (simp <;> omega))), HB.out⟩
end Go.Proofs.YtoeggiplcaegoaaGreatDoor
