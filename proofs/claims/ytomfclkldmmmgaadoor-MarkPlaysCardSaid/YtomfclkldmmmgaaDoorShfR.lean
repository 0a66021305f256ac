/- The reference's torn, Insert, Delete. -/
import Derived.Test.YtomfclkldmmmgaaDoorShfD
import Derived.Test.YtomfclkldmmmgaaDoorRowR
namespace Go.Proofs.YtomfclkldmmmgaaDoor
open Go.RowKit Go.ChangeShapes Go.WideShapes
theorem take_one_more (X : List Cl) (k : Nat) (h : k < X.length) : X.take (k + 1) = X.take k ++ [X.getD k zc] := by
  rw [List.take_succ_eq_append_getElem h]
  simp [List.getD, List.getElem?_eq_getElem h]
/-- A cell at hand: in a block of its own. -/
def AtHand (Z : Zone) (B : Nat) (wr : World) (c : Cl) (wx : World) : Prop := ∃ ta tc, wx = wr.alloc (.cells #[.int .i64 c.1, .slice ta c.2.length tc] 27) ∧ HeldE (intE .i32) (fun b => Z b ∧ b < B) wr (.slice ta c.2.length tc) c.2
set_option maxRecDepth 100000 in
set_option maxHeartbeats 3000000 in
theorem rtorn_any (Z : Zone) (v : Value) (L : List Cl) (c : Nat) (w : World) (hZ : ∀ b, w.heap.size ≤ b → Z b) (hv : HeldE cellE Z w v L) (hl : L.length ≤ 1000000) (hc : c ≤ 1000000) : Calls Tryd.prog 88 #[v, .int .i64 c] w (MadeE cellE Z 27 w (tearL L c)) := by
  have hv := hv.zone (Y := fun b => Z b ∧ b < w.heap.size) (fun b hb hz => ⟨hz, hb⟩)
  obtain ⟨ao, ca, rfl⟩ := hv.len
  obtain ⟨_, _, hcells⟩ := cells_at hv
  have HC := Lib.hid hcells
  have HZ := Lib.hid hZ
  have HTL := Lib.hid (tear_len L c)
  have HTA := Lib.hid (tear_at L c)
  clear hcells hv hZ
  go_enter Tryd.func88, Tryd.ntmps88
  go_wp2
  go_loopw [5, 6] (fun o i wr => ∃ k : Nat, k ≤ L.length ∧ i = .int .i64 k ∧ OwnE cellE Z wr w.heap.size 27 o ((tearL L c).take k) ∧ Below w.heap.size w wr) (fun _ i _ => L.length - (intOf i).toNat)
  case atStart => exact ⟨0, Nat.zero_le _, rfl, OwnE.nil _ _ _ _ _, Below.refl _ _⟩
  case round =>
    obtain ⟨k, hk, rfl, hown, hbw⟩ := hrel
    have HBW := Lib.hid hbw
    have HOW := Lib.hid hown
    clear hbw hown
    by_cases hlt : k < L.length
    · obtain ⟨b, off, tv, rfl, hb, _, c0, c1, hh⟩ := HC.out k hlt
      have c0 := (HBW.out.cell (p := ⟨b, off + k * 2, none⟩) hb).trans c0
      have c1 := (HBW.out.cell (p := ⟨b, off + k * 2 + 1, none⟩) hb).trans c1
      have hb1 : b < wr.heap.size := Nat.lt_of_lt_of_le hb HBW.out.size
      have HTS := Lib.hid (take_one_more (tearL L c) k (by rw [HTL.out]; exact hlt))
      have HLEN := Lib.hid (show ((tearL L c).take k).length ≤ 1000000 by rw [List.length_take, HTL.out]; omega)
      have hta := HTA.out k
      obtain ⟨⟨K, T⟩, hKT⟩ : ∃ y, y = L.getD k zc := ⟨_, rfl⟩
      rw [← hKT] at c0 hh hta
      simp only at c0 hh
      have HHL := Lib.hid hh
      have HX := Lib.hid hta
      obtain ⟨ta, tc, rfl⟩ := hh.len
      clear hh hKT hta
      have hw2 : IntKind.i64.wrap ((k : Int) + 1) = (k : Int) + 1 := by rw [IntKind.wrap_i64]; omega
      go_upto_region 6 with (fail)
      obtain ⟨Q, hQ⟩ : ∃ Q : Prop, Q = ((L.getD c zc).1 = 3 ∧ (k = c ∨ k = c - 1)) := ⟨_, rfl⟩
      have HQ := Lib.hid hQ
      have HDQ : Go.RowKit.Hid (Decidable Q = Decidable Q) := Lib.hid rfl
      obtain ⟨q, hq⟩ : ∃ q : Bool, (q = true ↔ (L.getD c zc).1 = 3 ∧ (k = c ∨ k = c - 1)) := ⟨decide ((L.getD c zc).1 = 3 ∧ (k = c ∨ k = c - 1)), decide_eq_true_iff⟩
      have HQQ := Lib.hid hq
      clear hq hQ HQ HDQ
      go_cut [40] from 18 to 41 (fun t wx => t = .bool q ∧ wx = wr.alloc (.cells #[.int .i64 K, .slice ta T.length tc] 27))
      case first =>
        have HNO := Lib.hid (fun (h : ¬ ((L.getD c zc).1 = 3 ∧ (k = c ∨ k = c - 1))) => show q = false from by
          cases hqq : q with
          | false => rfl
          | true => exact absurd (HQQ.out.1 hqq) h)
        have HYES := Lib.hid (fun (h : (L.getD c zc).1 = 3 ∧ (k = c ∨ k = c - 1)) => HQQ.out.2 h)
        by_cases hcl : c < L.length
        · have hd : decide ((c : Int) < (L.length : Int)) = true := by simp; omega
          obtain ⟨b2, off2, tv2, e2, hb2, _, d0, _, _⟩ := HC.out c hcl
          cases e2
          have d0 := (HBW.out.cell (p := ⟨b, off + c * 2, none⟩) hb2).trans d0
          obtain ⟨K3, hK3⟩ : ∃ K3, K3 = (L.getD c zc).1 := ⟨_, rfl⟩
          rw [← hK3] at d0 HNO HYES
          clear hK3
          by_cases h3 : K3 = 3
          · subst h3
            by_cases hkc : k = c
            · have hq : ((k : Int) == (c : Int)) = true := by rw [beq_iff_eq]; omega
              have HT := Lib.hid (HYES.out ⟨rfl, .inl hkc⟩)
              clear hkc
              go_wp2
              go_meet
              case rel => exact ⟨by rw [HT.out]; try rfl, rfl⟩
            · have hq : ((k : Int) == (c : Int)) = false := by rw [beq_eq_false_iff_ne]; omega
              have hqn : (k == c) = false := by rw [beq_eq_false_iff_ne]; omega
              by_cases hkc1 : k + 1 = c
              · have hq1 : ((k : Int) + 1 == (c : Int)) = true := by rw [beq_iff_eq]; omega
                have HT := Lib.hid (HYES.out ⟨rfl, .inr (by omega)⟩)
                clear hkc1 hkc
                go_wp2
                go_meet
                case rel => exact ⟨by rw [HT.out]; try rfl, rfl⟩
              · have hq1 : ((k : Int) + 1 == (c : Int)) = false := by rw [beq_eq_false_iff_ne]; omega
                have HT := Lib.hid (HNO.out (fun h => by rcases h.2 with h | h <;> omega))
                clear hkc1 hkc
                go_wp2
                go_meet
                case rel => exact ⟨by rw [HT.out]; try rfl, rfl⟩
          · have hq : (K3 == 3) = false := by rw [beq_eq_false_iff_ne]; exact h3
            have HT := Lib.hid (HNO.out (fun h => h3 h.1))
            clear h3
            go_wp2
            go_meet
            case rel => exact ⟨by rw [HT.out]; try rfl, rfl⟩
        · have hd : decide ((c : Int) < (L.length : Int)) = false := by simp; omega
          have hdn : decide (c < L.length) = false := by simp; omega
          have HT := Lib.hid (HNO.out (fun h => by rw [getD_ge L zc c (by omega)] at h; exact absurd h.1 (by decide)))
          clear hcl
          go_wp2
          go_meet
          case rel => exact ⟨by rw [HT.out]; try rfl, rfl⟩
      case rest =>
        obtain ⟨rfl, hwc⟩ := hcut
        obtain ⟨wc2, hwc2⟩ : ∃ wc2, wc2 = wc := ⟨_, rfl⟩
        subst hwc
        clear wc2 hwc2
        obtain ⟨wc, hwc⟩ : ∃ wc, wc = wr := ⟨_, rfl⟩
        subst hwc
        cases q with
        | true =>
          have HPA := Lib.hid (show (tearL L c).getD k zc = (0, []) by rw [HX.out, if_pos (HQQ.out.1 rfl)])
          have HH2 := Lib.hid (HeldE.nil (intE .i32) (fun b => Z b ∧ b < w.heap.size) wc)
          have hbx := (Below.refl wc.heap.size wc).alloc (Nat.le_refl _) (.cells #[.int .i64 0, .slice none 0 0] 27)
          obtain ⟨hoa, hua⟩ := one_app (K := 0) HBW.out.size hbx HOW.out HZ.out (HH2.out.below hbx)
          rw [World.size_alloc] at hua
          have HOA := Lib.hid hoa
          have HUA := Lib.hid hua
          have HBA := Lib.hid ((HBW.out.trans (hbx.mono HBW.out.size)).alloc (HBW.out.trans (hbx.mono HBW.out.size)).size (.cells [.int .i64 0, .slice none 0 0].toArray 27))
          clear hoa hua hbx
          go_wp2_with (at_builtin; refine wpList_append_e (E := cellE) (Z := Z) rfl (.tmp 42) (.tmp 44) 22 rfl (.agg #[.int .i64 0, .slice none 0 0]) 32 Tryd.underlying22 info_cell rfl (by decide) rfl rfl HOA.out HUA.out (by have := HLEN.out; simp only [List.length_cons, List.length_nil]; omega) (by have := HLEN.out; simp only [List.length_cons, List.length_nil]; omega) HBA.out.size ?_)
          intro v2 w2 ho2 hb2 _ _
          rw [← HPA.out, ← HTS.out] at ho2
          have H2 := Lib.hid ho2
          have H3 := Lib.hid (HBA.out.trans hb2)
          clear ho2 hb2
          go_wp2
          go_roundw
          case rel => exact ⟨k + 1, by omega, by go_num, H2.out, H3.out⟩
          case measure => simp [intOf] <;> omega
        | false =>
          have HPA := Lib.hid (show (tearL L c).getD k zc = (K, T) by rw [HX.out, if_neg (fun h => by have := HQQ.out.2 h; cases this)])
          have HH2 := Lib.hid (HHL.out.below HBW.out)
          have hbx := (Below.refl wc.heap.size wc).alloc (Nat.le_refl _) (.cells #[.int .i64 K, .slice ta T.length tc] 27)
          obtain ⟨hoa, hua⟩ := one_app (K := K) HBW.out.size hbx HOW.out HZ.out (HH2.out.below hbx)
          rw [World.size_alloc] at hua
          have HOA := Lib.hid hoa
          have HUA := Lib.hid hua
          have HBA := Lib.hid ((HBW.out.trans (hbx.mono HBW.out.size)).alloc (HBW.out.trans (hbx.mono HBW.out.size)).size (.cells [.int .i64 K, .slice ta T.length tc].toArray 27))
          clear hoa hua hbx
          go_wp2_with (at_builtin; refine wpList_append_e (E := cellE) (Z := Z) rfl (.tmp 42) (.tmp 44) 22 rfl (.agg #[.int .i64 0, .slice none 0 0]) 32 Tryd.underlying22 info_cell rfl (by decide) rfl rfl HOA.out HUA.out (by have := HLEN.out; simp only [List.length_cons, List.length_nil]; omega) (by have := HLEN.out; simp only [List.length_cons, List.length_nil]; omega) HBA.out.size ?_)
          intro v2 w2 ho2 hb2 _ _
          rw [← HPA.out, ← HTS.out] at ho2
          have H2 := Lib.hid ho2
          have H3 := Lib.hid (HBA.out.trans hb2)
          clear ho2 hb2
          go_wp2
          go_roundw
          case rel => exact ⟨k + 1, by omega, by go_num, H2.out, H3.out⟩
          case measure => simp [intOf] <;> omega
    · obtain rfl : k = L.length := by omega
      have HE := Lib.hid (show (tearL L c).take L.length = tearL L c by rw [List.take_of_length_le (by rw [HTL.out]; exact Nat.le_refl _)])
      go_wp2
      go_ret
      rw [HE.out] at HOW
      exact ⟨_, rfl, HOW.out, HBW.out⟩
end Go.Proofs.YtomfclkldmmmgaaDoor
