/- The reference's Paint, Wrong. -/
import Derived.Test.YtoeggiplcaegoaaGreatDoorMg1
import Derived.Test.YtoeggiplcaegoaaGreatDoorCellS
import Derived.Deep.Cut
import Derived.Deep.CutRange
namespace Go.Proofs.YtoeggiplcaegoaaGreatDoor
open Go.RowKit Go.ChangeShapes Go.WideShapes
def Painted (Z : Zone) (w : World) (L' : List Cl) (b : Bool) (e : Ending) (w' : World) : Prop := ∃ v', e = .returned (.tuple #[v', .bool b]) ∧ OwnE cellE Z w' w.heap.size 147 v' L' ∧ Below w.heap.size w w'
theorem paint_take (L p : List Cl) (a k : Nat) (h : k < L.length) : (paintL L p a).take (k + 1) = (paintL L p a).take k ++ [paintAt L p a k] := by
  rw [List.take_succ_eq_append_getElem (by rw [paint_len]; exact h)]
  simp [paintL]
def wrapAt (L p : List Cl) (a : Nat) (wrap : Bool) (k : Nat) : Bool := if k = L.length then wrap && !lastHit L p a else wrap
theorem one_app {Z : Zone} {wr W1 : World} {B : Nat} {ov : Value} {Lk : List Cl} {K : Int} {tv : Value} {T : List Int} (hB : B ≤ wr.heap.size) (h1 : Below wr.heap.size wr W1) (ho : OwnE cellE Z wr B 147 ov Lk) (hz : ∀ b, B ≤ b → Z b) (ht : HeldE (intE .i32) (fun b => Z b ∧ b < B) W1 tv T) :
    OwnE cellE Z (W1.alloc (.cells [Value.int .i64 K, tv].toArray 147)) B 147 ov Lk ∧ HeldE cellE (fun b => Z b ∧ ov.ownBlock ≠ some b) (W1.alloc (.cells [Value.int .i64 K, tv].toArray 147)) (.slice (some ⟨W1.heap.size, 0, none⟩) 1 1) [(K, T)] := by
  have hlo := ho.lt
  have hs := h1.size
  refine ⟨(ho.below h1).below ((Below.refl _ _).alloc (Nat.le_refl _) _), heldE_one [.int .i64 K, tv] (K, T) (Y := fun b => Z b ∧ b < B) (cell_rep.2 ⟨_, rfl, ht⟩) (fun b _ h => ⟨h.1, fun e => by have := (hlo b e).1; omega⟩) ⟨hz _ (by omega), fun e => by have := (hlo _ e).2; omega⟩⟩
theorem lastHit_eq {L p : List Cl} {a k : Nat} (h : k + 1 = L.length) : lastHit L p a = (decide (inP a p.length k) || decide (tornP L a p.length k)) := by
  unfold lastHit
  rw [show L.length - 1 = k by omega]
set_option maxRecDepth 100000 in
set_option maxHeartbeats 8000000 in
theorem rfpaint_any (Z : Zone) (v u : Value) (L p : List Cl) (wrap : Bool) (a : Nat) (w : World) (hZ : ∀ b, w.heap.size ≤ b → Z b) (hv : HeldE cellE Z w v L) (hu : HeldE cellE Z w u p) (hpos : 0 < L.length) (hl : L.length ≤ 1000000) (hle : a + p.length ≤ L.length) :
    Calls Tryz.prog 195 #[v, .bool wrap, .int .i64 a, u] w (Painted Z w (paintL L p a) (wrap && !lastHit L p a)) := by
  have hv := hv.zone (Y := fun b => Z b ∧ b < w.heap.size) (fun b hb hz => ⟨hz, hb⟩)
  have hu := hu.zone (Y := fun b => Z b ∧ b < w.heap.size) (fun b hb hz => ⟨hz, hb⟩)
  obtain ⟨ao, ca, rfl⟩ := hv.len
  obtain ⟨bo, cb, rfl⟩ := hu.len
  obtain ⟨_, _, hc⟩ := cells_at hv
  obtain ⟨_, _, hd⟩ := cells_at hu
  have HC := Lib.hid hc
  have HD := Lib.hid hd
  have HZ := Lib.hid hZ
  clear hc hd hv hu hZ
  go_enter Tryz.func195, Tryz.ntmps195
  go_wp2
  go_loopw [1, 10, 11] (fun wv o i wr => ∃ k : Nat, k ≤ L.length ∧ i = .int .i64 k ∧ wv = .bool (wrapAt L p a wrap k) ∧ OwnE cellE Z wr w.heap.size 147 o ((paintL L p a).take k) ∧ Below w.heap.size w wr) (fun _ _ i _ => L.length - (intOf i).toNat)
  case atStart => exact ⟨0, Nat.zero_le _, rfl, by unfold wrapAt; rw [if_neg (by omega)], OwnE.nil _ _ _ _ _, Below.refl _ _⟩
  case round =>
    obtain ⟨k, hk, rfl, rfl, hown, hbw⟩ := hrel
    have HBW := Lib.hid hbw
    clear hbw
    by_cases hlt : k < L.length
    · obtain ⟨b, off, tv, rfl, hb, _, c0, c1, hh⟩ := HC.out k hlt
      have c0 := (HBW.out.cell (p := ⟨b, off + k * 2, none⟩) hb).trans c0
      have c1 := (HBW.out.cell (p := ⟨b, off + k * 2 + 1, none⟩) hb).trans c1
      have hb1 : b < wr.heap.size := Nat.lt_of_lt_of_le hb HBW.out.size
      have hts := paint_take L p a k hlt
      have hwk : wrapAt L p a wrap k = wrap := by unfold wrapAt; rw [if_neg (by omega)]
      rw [hwk]
      have hlo := hown.lt
      have HLEN := Lib.hid (show ((paintL L p a).take k).length ≤ 1000000 by simp [paint_len]; omega)
      have HOW := Lib.hid hown
      have HLO := Lib.hid hlo
      have HTS := Lib.hid hts
      obtain ⟨⟨K, T⟩, hKT⟩ : ∃ y, y = L.getD k zc := ⟨_, rfl⟩
      have HKK := Lib.hid (show K = (L.getD k zc).1 by rw [← hKT])
      have HKL := Lib.hid hKT.symm
      rw [← hKT] at c0 hh
      simp only at c0 hh
      have HHL := Lib.hid hh
      obtain ⟨ta, tc, rfl⟩ := hh.len
      clear hown hlo hts hh hwk hKT
      have hw1 : IntKind.i64.wrap ((a : Int) + p.length) = (a : Int) + p.length := by rw [IntKind.wrap_i64]; omega
      have hw2 : IntKind.i64.wrap ((k : Int) + 1) = (k : Int) + 1 := by rw [IntKind.wrap_i64]; omega
      have hw3 : IntKind.i64.wrap ((k : Int) - 1) = (k : Int) - 1 := by rw [IntKind.wrap_i64]; omega
      go_upto_region 5 with (fail)
      go_cut [12] from 21 to 31 (fun t wx => t = .bool (decide (inP a p.length k)) ∧ wx = wr)
      case first =>
        by_cases h1 : a ≤ k
        · by_cases h2 : k < a + p.length
          · have h3 : (k : Int) < (a : Int) + p.length := by omega
            have HI := Lib.hid (decide_eq_true (show inP a p.length k from ⟨h1, h2⟩))
            go_wp2
            go_meet
            case rel => exact ⟨by rw [HI.out]; try rfl, rfl⟩
          · have h3 : ¬ (k : Int) < (a : Int) + p.length := by omega
            have HI := Lib.hid (decide_eq_false (show ¬ inP a p.length k from fun h => h2 h.2))
            go_wp2
            go_meet
            case rel => exact ⟨by rw [HI.out]; try rfl, rfl⟩
        · have HI := Lib.hid (decide_eq_false (show ¬ inP a p.length k from fun h => h1 h.1))
          go_wp2
          go_meet
          case rel => exact ⟨by rw [HI.out]; try rfl, rfl⟩
      case rest =>
        obtain ⟨rfl, hwc⟩ := hcut
        subst hwc
        by_cases hin : inP a p.length k
        · obtain ⟨h1, h2⟩ := id hin
          obtain ⟨b2, off2, tv2, rfl, hb2, _, d0, d1, hh2⟩ := HD.out (k - a) (by omega)
          have d0 := (HBW.out.cell (p := ⟨b2, off2 + (k - a) * 2, none⟩) hb2).trans d0
          have d1 := (HBW.out.cell (p := ⟨b2, off2 + (k - a) * 2 + 1, none⟩) hb2).trans d1
          have hb3 : b2 < wc.heap.size := Nat.lt_of_lt_of_le hb2 HBW.out.size
          have hka : ((k : Int) - (a : Int)).toNat = k - a := by omega
          have hka0 : (0 : Int) ≤ (k : Int) - a := by omega
          have hka1 : (k : Int) - a < p.length := by omega
          have hwka : IntKind.i64.wrap ((k : Int) - (a : Int)) = (k : Int) - a := by rw [IntKind.wrap_i64]; omega
          have HHIT := Lib.hid (show (decide (inP a p.length k) || decide (tornP L a p.length k)) = true by rw [decide_eq_true hin]; rfl)
          obtain ⟨⟨K2, T2⟩, hK2⟩ : ∃ y, y = p.getD (k - a) zc := ⟨_, rfl⟩
          have HPX := Lib.hid (show paintAt L p a k = (K2, T2) by unfold paintAt; rw [if_pos hin, ← hK2])
          rw [← hK2] at d0 hh2
          simp only at d0 hh2
          have HH2 := Lib.hid hh2
          obtain ⟨ta2, tc2, rfl⟩ := hh2.len
          rw [decide_eq_true hin]
          clear hK2 hh2 hin
          have hbx := (Below.refl wc.heap.size wc).alloc (Nat.le_refl _) (.cells #[.int .i64 K2, .slice ta2 T2.length tc2] 147)
          obtain ⟨hoa, hua⟩ := one_app (K := K2) HBW.out.size hbx HOW.out HZ.out (HH2.out.below (HBW.out.trans (hbx.mono HBW.out.size)))
          rw [World.size_alloc] at hua
          have HOA := Lib.hid hoa
          have HUA := Lib.hid hua
          have HBA := Lib.hid ((HBW.out.trans (hbx.mono HBW.out.size)).alloc (HBW.out.trans (hbx.mono HBW.out.size)).size (.cells [.int .i64 K2, .slice ta2 T2.length tc2].toArray 147))
          have HPA := Lib.hid (show paintAt L p a k = (K2, T2) from HPX.out)
          clear hoa hua hbx
          by_cases hlast : k + 1 = L.length
          · have hlb : ((k : Int) + 1 == (L.length : Int)) = true := by rw [beq_iff_eq]; omega
            have HWA := Lib.hid (show wrapAt L p a wrap (k + 1) = (wrap && !true) by unfold wrapAt; rw [if_pos hlast, lastHit_eq hlast, HHIT.out])
            clear hlast
            go_wp2_with (at_builtin; refine wpList_append_e (E := cellE) (Z := Z) rfl (.tmp 98) (.tmp 100) 102 rfl (.agg #[.int .i64 0, .slice none 0 0]) 32 Tryz.underlying102 info_cell rfl (by decide) rfl rfl HOA.out HUA.out (by have := HLEN.out; simp only [List.length_cons, List.length_nil]; omega) (by have := HLEN.out; simp only [List.length_cons, List.length_nil]; omega) HBA.out.size ?_)
            intro v2 w2 ho2 hb2 _ _
            rw [← HPA.out, ← HTS.out] at ho2
            have H2 := Lib.hid ho2
            have H3 := Lib.hid (HBA.out.trans hb2)
            clear ho2 hb2
            go_wp2
            go_roundw
            case rel => exact ⟨k + 1, by omega, by go_num, by rw [HWA.out]; try (cases wrap <;> rfl), H2.out, H3.out⟩
            case measure => simp [intOf] <;> omega
          · have hlb : ((k : Int) + 1 == (L.length : Int)) = false := by rw [beq_eq_false_iff_ne]; omega
            have HWA := Lib.hid (show wrapAt L p a wrap (k + 1) = wrap by unfold wrapAt; rw [if_neg hlast])
            clear hlast
            go_wp2_with (at_builtin; refine wpList_append_e (E := cellE) (Z := Z) rfl (.tmp 98) (.tmp 100) 102 rfl (.agg #[.int .i64 0, .slice none 0 0]) 32 Tryz.underlying102 info_cell rfl (by decide) rfl rfl HOA.out HUA.out (by have := HLEN.out; simp only [List.length_cons, List.length_nil]; omega) (by have := HLEN.out; simp only [List.length_cons, List.length_nil]; omega) HBA.out.size ?_)
            intro v2 w2 ho2 hb2 _ _
            rw [← HPA.out, ← HTS.out] at ho2
            have H2 := Lib.hid ho2
            have H3 := Lib.hid (HBA.out.trans hb2)
            clear ho2 hb2
            go_wp2
            go_roundw
            case rel => exact ⟨k + 1, by omega, by go_num, by rw [HWA.out]; try (cases wrap <;> rfl), H2.out, H3.out⟩
            case measure => simp [intOf] <;> omega
        · rw [decide_eq_false hin]
          have hin2 : k < a ∨ a + p.length ≤ k := by
            rcases Nat.lt_or_ge k a with h | h
            · exact .inl h
            · exact .inr (by rcases Nat.lt_or_ge k (a + p.length) with h2 | h2; exact absurd ⟨h, h2⟩ hin; exact h2)
          have HIN := Lib.hid hin
          clear hin
          go_upto_region 9 with (fail)
          go_cut [14] from 44 to 84 (fun t wx => t = .bool (decide (tornP L a p.length k)) ∧ wx = wc.alloc (.cells #[.int .i64 K, .slice ta T.length tc] 147))
          case first =>
            have hkc : (K = 2 ∧ (K == 2) = true ∧ (K == 3) = false) ∨ (K = 3 ∧ (K == 3) = true ∧ (K == 2) = false) ∨ ((K == 3) = false ∧ (K == 2) = false ∧ K ≠ 2 ∧ K ≠ 3) := by
              by_cases h2 : K = 2
              · exact .inl ⟨h2, by simpa using h2, by simp; omega⟩
              · by_cases h3 : K = 3
                · exact .inr (.inl ⟨h3, by simpa using h3, by simp; omega⟩)
                · exact .inr (.inr ⟨by simpa using h3, by simpa using h2, h2, h3⟩)
            have HT2 := Lib.hid (show K = 2 → (decide (tornP L a p.length k) = decide (inP a p.length (k + 1))) from fun h => by
              have h := HKK.out.symm.trans h
              refine decide_eq_decide.2 ⟨?_, fun h' => .inl ⟨h, h'⟩⟩
              rintro (⟨_, h'⟩ | ⟨h3, _⟩)
              · exact h'
              · rw [h] at h3; cases h3)
            have HT3 := Lib.hid (show K = 3 → (decide (tornP L a p.length k) = decide (0 < k ∧ inP a p.length (k - 1))) from fun h => by
              have h := HKK.out.symm.trans h
              refine decide_eq_decide.2 ⟨?_, fun h' => .inr ⟨h, h'.1, h'.2⟩⟩
              rintro (⟨h3, _⟩ | ⟨_, h', h''⟩)
              · rw [h] at h3; cases h3
              · exact ⟨h', h''⟩)
            have HT0 := Lib.hid (show K ≠ 2 → K ≠ 3 → decide (tornP L a p.length k) = false from fun h1 h2 => by
              rw [HKK.out] at h1 h2
              rw [decide_eq_false_iff_not]
              rintro (⟨k1, _⟩ | ⟨k1, _⟩)
              · exact h1 k1
              · exact h2 k1)
            clear hin2
            rcases hkc with ⟨rfl, q2, q3⟩ | ⟨rfl, q3, q2⟩ | ⟨q3, q2, n2, n3⟩
            · by_cases h1 : a ≤ k + 1
              · have h1' : (a : Int) ≤ (k : Int) + 1 := by omega
                by_cases h2 : k + 1 < a + p.length
                · have h2' : (k : Int) + 1 < (a : Int) + p.length := by omega
                  have HV := Lib.hid (decide_eq_true (show inP a p.length (k + 1) from ⟨h1, h2⟩))
                  go_wp2
                  go_meet
                  case rel => exact ⟨by rw [HT2.out (by first | rfl | trivial), HV.out]; try rfl, rfl⟩
                · have h2' : ¬ (k : Int) + 1 < (a : Int) + p.length := by omega
                  have HV := Lib.hid (decide_eq_false (show ¬ inP a p.length (k + 1) from fun h => h2 h.2))
                  go_wp2
                  go_meet
                  case rel => exact ⟨by rw [HT2.out (by first | rfl | trivial), HV.out]; try rfl, rfl⟩
              · have h1' : ¬ (a : Int) ≤ (k : Int) + 1 := by omega
                have HV := Lib.hid (decide_eq_false (show ¬ inP a p.length (k + 1) from fun h => h1 h.1))
                go_wp2
                go_meet
                case rel => exact ⟨by rw [HT2.out (by first | rfl | trivial), HV.out]; try rfl, rfl⟩
            · by_cases h1 : (a : Int) ≤ (k : Int) - 1
              · by_cases h2 : (k : Int) - 1 < (a : Int) + p.length
                · have HV := Lib.hid (decide_eq_true (show 0 < k ∧ inP a p.length (k - 1) from ⟨by omega, by omega, by omega⟩))
                  go_wp2
                  go_meet
                  case rel => exact ⟨by rw [HT3.out (by first | rfl | trivial), HV.out]; try rfl, rfl⟩
                · have HV := Lib.hid (decide_eq_false (show ¬ (0 < k ∧ inP a p.length (k - 1)) from fun h => h2 (by have := h.2.2; omega)))
                  go_wp2
                  go_meet
                  case rel => exact ⟨by rw [HT3.out (by first | rfl | trivial), HV.out]; try rfl, rfl⟩
              · have HV := Lib.hid (decide_eq_false (show ¬ (0 < k ∧ inP a p.length (k - 1)) from fun h => h1 (by have := h.1; have := h.2.1; omega)))
                go_wp2
                go_meet
                case rel => exact ⟨by rw [HT3.out (by first | rfl | trivial), HV.out]; try rfl, rfl⟩
            · go_wp2
              go_meet
              case rel => exact ⟨by rw [HT0.out n2 n3]; try rfl, rfl⟩
          case rest =>
            obtain ⟨rfl, hwd⟩ := hcut
            subst hwd
            clear hin2
            by_cases ht : tornP L a p.length k
            · rw [decide_eq_true ht]
              have HHIT := Lib.hid (show (decide (inP a p.length k) || decide (tornP L a p.length k)) = true by rw [decide_eq_true ht]; simp)
              have HPX := Lib.hid (show paintAt L p a k = (0, []) by unfold paintAt; rw [if_neg HIN.out, if_pos ht])
              clear ht
              have hbx := (Below.refl wc.heap.size wc).alloc (Nat.le_refl _) (.cells #[.int .i64 0, .slice none 0 0] 147)
              obtain ⟨hoa, hua⟩ := one_app (K := 0) HBW.out.size hbx HOW.out HZ.out (HeldE.nil _ _ _)
              rw [World.size_alloc] at hua
              have HOA := Lib.hid hoa
              have HUA := Lib.hid hua
              have HBA := Lib.hid ((HBW.out.trans (hbx.mono HBW.out.size)).alloc (HBW.out.trans (hbx.mono HBW.out.size)).size (.cells [.int .i64 0, .slice none 0 0].toArray 147))
              have HPA := Lib.hid (show paintAt L p a k = (0, []) from HPX.out)
              clear hoa hua hbx
              by_cases hlast : k + 1 = L.length
              · have hlb : ((k : Int) + 1 == (L.length : Int)) = true := by rw [beq_iff_eq]; omega
                have HWA := Lib.hid (show wrapAt L p a wrap (k + 1) = (wrap && !true) by unfold wrapAt; rw [if_pos hlast, lastHit_eq hlast, HHIT.out])
                clear hlast
                go_wp2_with (at_builtin; refine wpList_append_e (E := cellE) (Z := Z) rfl (.tmp 98) (.tmp 100) 102 rfl (.agg #[.int .i64 0, .slice none 0 0]) 32 Tryz.underlying102 info_cell rfl (by decide) rfl rfl HOA.out HUA.out (by have := HLEN.out; simp only [List.length_cons, List.length_nil]; omega) (by have := HLEN.out; simp only [List.length_cons, List.length_nil]; omega) HBA.out.size ?_)
                intro v2 w2 ho2 hb2 _ _
                rw [← HPA.out, ← HTS.out] at ho2
                have H2 := Lib.hid ho2
                have H3 := Lib.hid (HBA.out.trans hb2)
                clear ho2 hb2
                go_wp2
                go_roundw
                case rel => exact ⟨k + 1, by omega, by go_num, by rw [HWA.out]; try (cases wrap <;> rfl), H2.out, H3.out⟩
                case measure => simp [intOf] <;> omega
              · have hlb : ((k : Int) + 1 == (L.length : Int)) = false := by rw [beq_eq_false_iff_ne]; omega
                have HWA := Lib.hid (show wrapAt L p a wrap (k + 1) = wrap by unfold wrapAt; rw [if_neg hlast])
                clear hlast
                go_wp2_with (at_builtin; refine wpList_append_e (E := cellE) (Z := Z) rfl (.tmp 98) (.tmp 100) 102 rfl (.agg #[.int .i64 0, .slice none 0 0]) 32 Tryz.underlying102 info_cell rfl (by decide) rfl rfl HOA.out HUA.out (by have := HLEN.out; simp only [List.length_cons, List.length_nil]; omega) (by have := HLEN.out; simp only [List.length_cons, List.length_nil]; omega) HBA.out.size ?_)
                intro v2 w2 ho2 hb2 _ _
                rw [← HPA.out, ← HTS.out] at ho2
                have H2 := Lib.hid ho2
                have H3 := Lib.hid (HBA.out.trans hb2)
                clear ho2 hb2
                go_wp2
                go_roundw
                case rel => exact ⟨k + 1, by omega, by go_num, by rw [HWA.out]; try (cases wrap <;> rfl), H2.out, H3.out⟩
                case measure => simp [intOf] <;> omega
            · rw [decide_eq_false ht]
              have HHIT := Lib.hid (show (decide (inP a p.length k) || decide (tornP L a p.length k)) = false by rw [decide_eq_false ht, decide_eq_false HIN.out]; rfl)
              have HPX := Lib.hid (show paintAt L p a k = (K, T) by unfold paintAt; rw [if_neg HIN.out, if_neg ht]; exact HKL.out)
              clear ht
              have hbx := (Below.refl wc.heap.size wc).alloc (Nat.le_refl _) (.cells #[.int .i64 K, .slice ta T.length tc] 147)
              obtain ⟨hoa, hua⟩ := one_app (K := K) HBW.out.size hbx HOW.out HZ.out (HHL.out.below (HBW.out.trans (hbx.mono HBW.out.size)))
              rw [World.size_alloc] at hua
              have HOA := Lib.hid hoa
              have HUA := Lib.hid hua
              have HBA := Lib.hid ((HBW.out.trans (hbx.mono HBW.out.size)).alloc (HBW.out.trans (hbx.mono HBW.out.size)).size (.cells [.int .i64 K, .slice ta T.length tc].toArray 147))
              have HPA := Lib.hid (show paintAt L p a k = (K, T) from HPX.out)
              clear hoa hua hbx
              by_cases hlast : k + 1 = L.length
              · have hlb : ((k : Int) + 1 == (L.length : Int)) = true := by rw [beq_iff_eq]; omega
                have HWA := Lib.hid (show wrapAt L p a wrap (k + 1) = (wrap && !false) by unfold wrapAt; rw [if_pos hlast, lastHit_eq hlast, HHIT.out])
                clear hlast
                go_wp2_with (at_builtin; refine wpList_append_e (E := cellE) (Z := Z) rfl (.tmp 98) (.tmp 100) 102 rfl (.agg #[.int .i64 0, .slice none 0 0]) 32 Tryz.underlying102 info_cell rfl (by decide) rfl rfl HOA.out HUA.out (by have := HLEN.out; simp only [List.length_cons, List.length_nil]; omega) (by have := HLEN.out; simp only [List.length_cons, List.length_nil]; omega) HBA.out.size ?_)
                intro v2 w2 ho2 hb2 _ _
                rw [← HPA.out, ← HTS.out] at ho2
                have H2 := Lib.hid ho2
                have H3 := Lib.hid (HBA.out.trans hb2)
                clear ho2 hb2
                go_wp2
                go_roundw
                case rel => exact ⟨k + 1, by omega, by go_num, by rw [HWA.out]; try (cases wrap <;> rfl), H2.out, H3.out⟩
                case measure => simp [intOf] <;> omega
              · have hlb : ((k : Int) + 1 == (L.length : Int)) = false := by rw [beq_eq_false_iff_ne]; omega
                have HWA := Lib.hid (show wrapAt L p a wrap (k + 1) = wrap by unfold wrapAt; rw [if_neg hlast])
                clear hlast
                go_wp2_with (at_builtin; refine wpList_append_e (E := cellE) (Z := Z) rfl (.tmp 98) (.tmp 100) 102 rfl (.agg #[.int .i64 0, .slice none 0 0]) 32 Tryz.underlying102 info_cell rfl (by decide) rfl rfl HOA.out HUA.out (by have := HLEN.out; simp only [List.length_cons, List.length_nil]; omega) (by have := HLEN.out; simp only [List.length_cons, List.length_nil]; omega) HBA.out.size ?_)
                intro v2 w2 ho2 hb2 _ _
                rw [← HPA.out, ← HTS.out] at ho2
                have H2 := Lib.hid ho2
                have H3 := Lib.hid (HBA.out.trans hb2)
                clear ho2 hb2
                go_wp2
                go_roundw
                case rel => exact ⟨k + 1, by omega, by go_num, by rw [HWA.out]; try (cases wrap <;> rfl), H2.out, H3.out⟩
                case measure => simp [intOf] <;> omega
    · obtain rfl : k = L.length := by omega
      have hw : wrapAt L p a wrap L.length = (wrap && !lastHit L p a) := by unfold wrapAt; rw [if_pos rfl]
      rw [hw]
      rw [List.take_of_length_le (by rw [paint_len]; exact Nat.le_refl _)] at hown
      have HO := Lib.hid hown
      clear hown hw
      go_wp2
      go_ret2
      exact ⟨_, rfl, HO.out, HBW.out⟩
end Go.Proofs.YtoeggiplcaegoaaGreatDoor
