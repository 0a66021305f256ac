/- The reference's Insert and Delete. -/
import Derived.Test.YtgndolgihplngaaGreatDoorMg3
import Derived.Lib.MinMax
namespace Go.Proofs.YtgndolgihplngaaGreatDoor
open Go.RowKit Go.ChangeShapes Go.WideShapes
def Tup27 (Z : Zone) (w : World) (L' : List Cl) (b : Bool) (e : Ending) (w' : World) : Prop := ∃ v', e = .returned (.tuple #[v', .bool b]) ∧ HeldE cellE Z w' v' L' ∧ Below w.heap.size w w'
set_option maxRecDepth 100000 in
set_option maxHeartbeats 3000000 in
theorem rins_bad (Z : Zone) (v : Value) (L : List Cl) (c n : Int) (w : World) (hv : HeldE cellE Z w v L) (hb : c < 0 ∨ (L.length : Int) ≤ c ∨ n < 1) : Calls Tryz.prog 26 #[v, .int .i64 c, .int .i64 n] w (Tup27 Z w L false) := by
  obtain ⟨ao, ca, rfl⟩ := hv.len
  have HV := Lib.hid hv
  clear hv
  by_cases h0 : c < 0
  · have hd : decide (c < 0) = true := by simp; omega
    clear hb
    go_enter Tryz.func26, Tryz.ntmps26
    go_wp2
    go_ret2
    exact ⟨_, rfl, HV.out, Below.refl _ _⟩
  have hd : decide (c < 0) = false := by simp; omega
  by_cases h1 : (L.length : Int) ≤ c
  · have hd1 : decide ((L.length : Int) ≤ c) = true := by simp; omega
    clear hb
    go_enter Tryz.func26, Tryz.ntmps26
    go_wp2
    go_ret2
    exact ⟨_, rfl, HV.out, Below.refl _ _⟩
  · have hd1 : decide ((L.length : Int) ≤ c) = false := by simp; omega
    have hd2 : decide (n < 1) = true := by simp; omega
    clear hb
    go_enter Tryz.func26, Tryz.ntmps26
    go_wp2
    go_ret2
    exact ⟨_, rfl, HV.out, Below.refl _ _⟩
set_option maxRecDepth 100000 in
set_option maxHeartbeats 6000000 in
theorem rins_good (Z : Zone) (v : Value) (L : List Cl) (c m : Nat) (n : Int) (w : World) (hZ : ∀ b, w.heap.size ≤ b → Z b) (hv : HeldE cellE Z w v L) (hl : L.length ≤ 1000000) (hc : c < L.length) (hn : 1 ≤ n) (hm : min n ((L.length : Int) - c) = m) : Calls Tryz.prog 26 #[v, .int .i64 c, .int .i64 n] w (Tup27 Z w (insL L c m) true) := by
  obtain ⟨ao, ca, rfl⟩ := hv.len
  have hcm : c + m ≤ L.length := by omega
  have hd : decide ((c : Int) < 0) = false := by simp
  have hd1 : decide ((L.length : Int) ≤ c) = false := by simp; omega
  have hd1n : decide (L.length ≤ c) = false := by simp; omega
  have hd2 : decide (n < 1) = false := by simp; omega
  have hw : IntKind.i64.wrap ((L.length : Int) - c) = (L.length : Int) - c := by rw [IntKind.wrap_i64]; omega
  have HZ := Lib.hid hZ
  have HV := Lib.hid hv
  have HIL := Lib.hid (ins_len hcm)
  have HIA := Lib.hid (ins_at hcm)
  have HT := Lib.hid (rtorn_any Z _ L c w hZ hv hl (by omega))
  have HTL := Lib.hid (tear_len L c)
  clear hv hZ
  go_enter Tryz.func26, Tryz.ntmps26
  go_wp2_with fail
  refine HT.out.mono ?_
  rintro e w1 ⟨v1, rfl, ho1, b1⟩
  have hh1 := (ho1.held (fun b h _ => HZ.out b h)).zone (Y := fun b => Z b ∧ b < w1.heap.size) (fun b hb hz => ⟨hz, hb⟩)
  obtain ⟨Tl, hTl⟩ : ∃ Tl, Tl = tearL L c := ⟨_, rfl⟩
  rw [← hTl] at hh1 HTL HIA
  clear hTl
  obtain ⟨qo, qa, rfl⟩ := hh1.len
  obtain ⟨_, _, hcells⟩ := cells_at hh1
  have HC := Lib.hid hcells
  have HB1 := Lib.hid b1
  have HZ1 := Lib.hid (show ∀ b, w1.heap.size ≤ b → Z b from fun b h => HZ.out b (Nat.le_trans b1.size h))
  have hTlen := HTL.out
  rw [hTlen]
  have HTL2 := Lib.hid hTlen
  obtain ⟨R2, hR2⟩ : ∃ R2, R2 = insL L c m := ⟨_, rfl⟩
  rw [← hR2] at HIL HIA ⊢
  have HR2 := Lib.hid hR2
  clear ho1 b1 hh1 hcells hTlen hR2 hw hd2 hd1 hd1n hd hn
  go_wp2
  clear hm
  go_loopw [9, 10] (fun o i wr => ∃ k : Nat, k ≤ L.length ∧ i = .int .i64 k ∧ OwnE cellE Z wr w1.heap.size 82 o (R2.take k) ∧ Below w1.heap.size w1 wr) (fun _ i _ => L.length - (intOf i).toNat)
  case atStart => exact ⟨0, Nat.zero_le _, rfl, OwnE.nil _ _ _ _ _, Below.refl _ _⟩
  case round =>
    obtain ⟨k, hk, rfl, hown, hbw⟩ := hrel
    have HBW := Lib.hid hbw
    have HOW := Lib.hid hown
    clear hbw hown
    by_cases hlt : k < L.length
    · have HTS := Lib.hid (take_one_more R2 k (by rw [HIL.out]; exact hlt))
      have HLEN := Lib.hid (show (R2.take k).length ≤ 1000000 by rw [List.length_take, HIL.out]; omega)
      have hpa := HIA.out k hlt
      have hw1 : IntKind.i64.wrap ((c : Int) + m) = (c : Int) + m := by rw [IntKind.wrap_i64]; omega
      have hw2 : IntKind.i64.wrap ((k : Int) + 1) = (k : Int) + 1 := by rw [IntKind.wrap_i64]; omega
      have hTlen := HTL2.out
      by_cases hA : k < c
      · rw [if_pos hA] at hpa
        have hdA : decide ((k : Int) < c) = true := by simp; omega
        have hdA2 : decide ((c : Int) + m ≤ k) = false := by simp; omega
        have hlast : ((k : Int) + 1 == (L.length : Int)) = false := by rw [beq_eq_false_iff_ne]; omega
        have hnl : ¬ (k + 1 = L.length) := by omega
        obtain ⟨b, off, tv, rfl, hb, _, c0, c1, hh⟩ := HC.out k (by omega)
        have c0 := (HBW.out.cell (p := ⟨b, off + k * 2, none⟩) hb).trans c0
        have c1 := (HBW.out.cell (p := ⟨b, off + k * 2 + 1, none⟩) hb).trans c1
        have hb1 : b < wr.heap.size := Nat.lt_of_lt_of_le hb HBW.out.size
        obtain ⟨⟨K, T⟩, hKT⟩ : ∃ y, y = Tl.getD k zc := ⟨_, rfl⟩
        rw [← hKT] at c0 hh hpa
        simp only at c0 hh
        have HH2 := Lib.hid (hh.below HBW.out)
        obtain ⟨ta, tc, rfl⟩ := hh.len
        clear hh hKT
        have HPA := Lib.hid (show R2.getD k zc = (K, T) by rw [hpa, if_neg (fun h => hnl h.1)])
        clear hpa hTlen
        have hbx := (Below.refl wr.heap.size wr).alloc (Nat.le_refl _) (.cells #[.int .i64 K, .slice ta T.length tc] 82)
        obtain ⟨hoa, hua⟩ := one_app (K := K) HBW.out.size hbx HOW.out HZ1.out (HH2.out.below hbx)
        rw [World.size_alloc] at hua
        have HOA := Lib.hid hoa
        have HUA := Lib.hid hua
        have HBA := Lib.hid ((HBW.out.trans (hbx.mono HBW.out.size)).alloc (HBW.out.trans (hbx.mono HBW.out.size)).size (.cells [.int .i64 K, .slice ta T.length tc].toArray 82))
        clear hoa hua hbx
        go_wp2_with (at_builtin; refine wpList_append_e (E := cellE) (Z := Z) rfl (.tmp 70) (.tmp 72) 51 rfl (.agg #[.int .i64 0, .slice none 0 0]) 32 Tryz.underlying51 info_cell rfl (by decide) rfl rfl HOA.out HUA.out (by have := HLEN.out; simp only [List.length_cons, List.length_nil]; omega) (by have := HLEN.out; simp only [List.length_cons, List.length_nil]; omega) HBA.out.size ?_)
        intro v2 w2 ho2 hb2 _ _
        rw [← HPA.out, ← HTS.out] at ho2
        have H2 := Lib.hid ho2
        have H3 := Lib.hid (HBA.out.trans hb2)
        clear ho2 hb2
        go_wp2
        go_roundw
        case rel => exact ⟨k + 1, by omega, by go_num, H2.out, H3.out⟩
        case measure => simp [intOf] <;> omega
      rw [if_neg hA] at hpa
      have hdA : decide ((k : Int) < c) = false := by simp; omega
      have hdAn : decide (k < c) = false := by simp; omega
      by_cases hB : k < c + m
      · rw [if_pos hB] at hpa
        have hdB : decide ((c : Int) + m ≤ k) = false := by simp; omega
        have HPA := Lib.hid (show R2.getD k zc = (0, []) by rw [hpa]; simp)
        have HH2 := Lib.hid (HeldE.nil (intE .i32) (fun b => Z b ∧ b < w1.heap.size) wr)
        clear hpa hTlen
        by_cases hlast : k + 1 = L.length
        · have hlb : ((k : Int) + 1 == (L.length : Int)) = true := by rw [beq_iff_eq]; omega
          clear hlast
          have hbx := (Below.refl wr.heap.size wr).alloc (Nat.le_refl _) (.cells #[.int .i64 0, .slice none 0 0] 82)
          obtain ⟨hoa, hua⟩ := one_app (K := 0) HBW.out.size hbx HOW.out HZ1.out (HH2.out.below hbx)
          rw [World.size_alloc] at hua
          have HOA := Lib.hid hoa
          have HUA := Lib.hid hua
          have HBA := Lib.hid ((HBW.out.trans (hbx.mono HBW.out.size)).alloc (HBW.out.trans (hbx.mono HBW.out.size)).size (.cells [.int .i64 0, .slice none 0 0].toArray 82))
          clear hoa hua hbx
          go_wp2_with (at_builtin; refine wpList_append_e (E := cellE) (Z := Z) rfl (.tmp 70) (.tmp 72) 51 rfl (.agg #[.int .i64 0, .slice none 0 0]) 32 Tryz.underlying51 info_cell rfl (by decide) rfl rfl HOA.out HUA.out (by have := HLEN.out; simp only [List.length_cons, List.length_nil]; omega) (by have := HLEN.out; simp only [List.length_cons, List.length_nil]; omega) HBA.out.size ?_)
          intro v2 w2 ho2 hb2 _ _
          rw [← HPA.out, ← HTS.out] at ho2
          have H2 := Lib.hid ho2
          have H3 := Lib.hid (HBA.out.trans hb2)
          clear ho2 hb2
          go_wp2
          go_roundw
          case rel => exact ⟨k + 1, by omega, by go_num, H2.out, H3.out⟩
          case measure => simp [intOf] <;> omega
        · have hlb : ((k : Int) + 1 == (L.length : Int)) = false := by rw [beq_eq_false_iff_ne]; omega
          clear hlast
          have hbx := (Below.refl wr.heap.size wr).alloc (Nat.le_refl _) (.cells #[.int .i64 0, .slice none 0 0] 82)
          obtain ⟨hoa, hua⟩ := one_app (K := 0) HBW.out.size hbx HOW.out HZ1.out (HH2.out.below hbx)
          rw [World.size_alloc] at hua
          have HOA := Lib.hid hoa
          have HUA := Lib.hid hua
          have HBA := Lib.hid ((HBW.out.trans (hbx.mono HBW.out.size)).alloc (HBW.out.trans (hbx.mono HBW.out.size)).size (.cells [.int .i64 0, .slice none 0 0].toArray 82))
          clear hoa hua hbx
          go_wp2_with (at_builtin; refine wpList_append_e (E := cellE) (Z := Z) rfl (.tmp 70) (.tmp 72) 51 rfl (.agg #[.int .i64 0, .slice none 0 0]) 32 Tryz.underlying51 info_cell rfl (by decide) rfl rfl HOA.out HUA.out (by have := HLEN.out; simp only [List.length_cons, List.length_nil]; omega) (by have := HLEN.out; simp only [List.length_cons, List.length_nil]; omega) HBA.out.size ?_)
          intro v2 w2 ho2 hb2 _ _
          rw [← HPA.out, ← HTS.out] at ho2
          have H2 := Lib.hid ho2
          have H3 := Lib.hid (HBA.out.trans hb2)
          clear ho2 hb2
          go_wp2
          go_roundw
          case rel => exact ⟨k + 1, by omega, by go_num, H2.out, H3.out⟩
          case measure => simp [intOf] <;> omega
      rw [if_neg hB] at hpa
      have hdB : decide ((c : Int) + m ≤ k) = true := by simp; omega
      have hkm : (k : Int) - m = ((k - m : Nat) : Int) := by omega
      have hkm0 : (0 : Int) ≤ (k : Int) - m := by omega
      have hkm1 : (k : Int) - m < Tl.length := by omega
      have hkm2 : (k : Int) - m < L.length := by omega
      have hkt : ((k : Int) - (m : Int)).toNat = k - m := by omega
      have hkw : IntKind.i64.wrap ((k : Int) - m) = (k : Int) - m := by rw [IntKind.wrap_i64]; omega
      obtain ⟨b, off, tv, rfl, hb, _, c0, c1, hh⟩ := HC.out (k - m) (by omega)
      have c0 := (HBW.out.cell (p := ⟨b, off + (k - m) * 2, none⟩) hb).trans c0
      have c1 := (HBW.out.cell (p := ⟨b, off + (k - m) * 2 + 1, none⟩) hb).trans c1
      have hb1 : b < wr.heap.size := Nat.lt_of_lt_of_le hb HBW.out.size
      obtain ⟨⟨K, T⟩, hKT⟩ : ∃ y, y = Tl.getD (k - m) zc := ⟨_, rfl⟩
      rw [← hKT] at c0 hh hpa
      simp only at c0 hh
      have HH2 := Lib.hid (hh.below HBW.out)
      obtain ⟨ta, tc, rfl⟩ := hh.len
      clear hh hKT
      clear hkm hTlen
      by_cases hlast : k + 1 = L.length
      · have hlb : ((k : Int) + 1 == (L.length : Int)) = true := by rw [beq_iff_eq]; omega
        by_cases hK2 : K = 2
        · subst hK2
          have HPA := Lib.hid (show R2.getD k zc = (0, []) by rw [hpa, if_pos ⟨hlast, rfl⟩])
          replace HH2 := Lib.hid (HeldE.nil (intE .i32) (fun b => Z b ∧ b < w1.heap.size) wr)
          clear hpa hlast
          have hbx := (Below.refl wr.heap.size wr).alloc (Nat.le_refl _) (.cells #[.int .i64 0, .slice none 0 0] 82)
          obtain ⟨hoa, hua⟩ := one_app (K := 0) HBW.out.size hbx HOW.out HZ1.out (HH2.out.below hbx)
          rw [World.size_alloc] at hua
          have HOA := Lib.hid hoa
          have HUA := Lib.hid hua
          have HBA := Lib.hid ((HBW.out.trans (hbx.mono HBW.out.size)).alloc (HBW.out.trans (hbx.mono HBW.out.size)).size (.cells [.int .i64 0, .slice none 0 0].toArray 82))
          clear hoa hua hbx
          go_wp2_with (at_builtin; refine wpList_append_e (E := cellE) (Z := Z) rfl (.tmp 70) (.tmp 72) 51 rfl (.agg #[.int .i64 0, .slice none 0 0]) 32 Tryz.underlying51 info_cell rfl (by decide) rfl rfl HOA.out HUA.out (by have := HLEN.out; simp only [List.length_cons, List.length_nil]; omega) (by have := HLEN.out; simp only [List.length_cons, List.length_nil]; omega) HBA.out.size ?_)
          intro v2 w2 ho2 hb2 _ _
          rw [← HPA.out, ← HTS.out] at ho2
          have H2 := Lib.hid ho2
          have H3 := Lib.hid (HBA.out.trans hb2)
          clear ho2 hb2
          go_wp2
          go_roundw
          case rel => exact ⟨k + 1, by omega, by go_num, H2.out, H3.out⟩
          case measure => simp [intOf] <;> omega
        · have hkb : (K == 2) = false := by rw [beq_eq_false_iff_ne]; exact hK2
          have HPA := Lib.hid (show R2.getD k zc = (K, T) by rw [hpa, if_neg (fun h => hK2 h.2)])
          clear hpa hlast hK2
          have hbx := (Below.refl wr.heap.size wr).alloc (Nat.le_refl _) (.cells #[.int .i64 K, .slice ta T.length tc] 82)
          obtain ⟨hoa, hua⟩ := one_app (K := K) HBW.out.size hbx HOW.out HZ1.out (HH2.out.below hbx)
          rw [World.size_alloc] at hua
          have HOA := Lib.hid hoa
          have HUA := Lib.hid hua
          have HBA := Lib.hid ((HBW.out.trans (hbx.mono HBW.out.size)).alloc (HBW.out.trans (hbx.mono HBW.out.size)).size (.cells [.int .i64 K, .slice ta T.length tc].toArray 82))
          clear hoa hua hbx
          go_wp2_with (at_builtin; refine wpList_append_e (E := cellE) (Z := Z) rfl (.tmp 70) (.tmp 72) 51 rfl (.agg #[.int .i64 0, .slice none 0 0]) 32 Tryz.underlying51 info_cell rfl (by decide) rfl rfl HOA.out HUA.out (by have := HLEN.out; simp only [List.length_cons, List.length_nil]; omega) (by have := HLEN.out; simp only [List.length_cons, List.length_nil]; omega) HBA.out.size ?_)
          intro v2 w2 ho2 hb2 _ _
          rw [← HPA.out, ← HTS.out] at ho2
          have H2 := Lib.hid ho2
          have H3 := Lib.hid (HBA.out.trans hb2)
          clear ho2 hb2
          go_wp2
          go_roundw
          case rel => exact ⟨k + 1, by omega, by go_num, H2.out, H3.out⟩
          case measure => simp [intOf] <;> omega
      · have hlb : ((k : Int) + 1 == (L.length : Int)) = false := by rw [beq_eq_false_iff_ne]; omega
        have HPA := Lib.hid (show R2.getD k zc = (K, T) by rw [hpa, if_neg (fun h => hlast h.1)])
        clear hpa hlast
        have hbx := (Below.refl wr.heap.size wr).alloc (Nat.le_refl _) (.cells #[.int .i64 K, .slice ta T.length tc] 82)
        obtain ⟨hoa, hua⟩ := one_app (K := K) HBW.out.size hbx HOW.out HZ1.out (HH2.out.below hbx)
        rw [World.size_alloc] at hua
        have HOA := Lib.hid hoa
        have HUA := Lib.hid hua
        have HBA := Lib.hid ((HBW.out.trans (hbx.mono HBW.out.size)).alloc (HBW.out.trans (hbx.mono HBW.out.size)).size (.cells [.int .i64 K, .slice ta T.length tc].toArray 82))
        clear hoa hua hbx
        go_wp2_with (at_builtin; refine wpList_append_e (E := cellE) (Z := Z) rfl (.tmp 70) (.tmp 72) 51 rfl (.agg #[.int .i64 0, .slice none 0 0]) 32 Tryz.underlying51 info_cell rfl (by decide) rfl rfl HOA.out HUA.out (by have := HLEN.out; simp only [List.length_cons, List.length_nil]; omega) (by have := HLEN.out; simp only [List.length_cons, List.length_nil]; omega) HBA.out.size ?_)
        intro v2 w2 ho2 hb2 _ _
        rw [← HPA.out, ← HTS.out] at ho2
        have H2 := Lib.hid ho2
        have H3 := Lib.hid (HBA.out.trans hb2)
        clear ho2 hb2
        go_wp2
        go_roundw
        case rel => exact ⟨k + 1, by omega, by go_num, H2.out, H3.out⟩
        case measure => simp [intOf] <;> omega
    · obtain rfl : k = L.length := by omega
      have hE : R2.take L.length = R2 := by rw [List.take_of_length_le (by rw [HIL.out]; exact Nat.le_refl _)]
      rw [hE] at HOW
      have HF := Lib.hid (And.intro (HOW.out.held (fun b h _ => HZ1.out b h)) (HB1.out.trans (HBW.out.mono HB1.out.size)))
      obtain ⟨fo, fc, rfl⟩ := HF.out.1.len
      clear hE
      go_wp2
      go_ret2
      exact ⟨_, rfl, (by rw [← HR2.out]; exact HF.out.1), HF.out.2⟩
set_option maxRecDepth 100000 in
set_option maxHeartbeats 3000000 in
theorem rdel_bad (Z : Zone) (v : Value) (L : List Cl) (c n : Int) (w : World) (hv : HeldE cellE Z w v L) (hb : c < 0 ∨ (L.length : Int) ≤ c ∨ n < 1) : Calls Tryz.prog 27 #[v, .int .i64 c, .int .i64 n] w (Tup27 Z w L false) := by
  obtain ⟨ao, ca, rfl⟩ := hv.len
  have HV := Lib.hid hv
  clear hv
  by_cases h0 : c < 0
  · have hd : decide (c < 0) = true := by simp; omega
    clear hb
    go_enter Tryz.func27, Tryz.ntmps27
    go_wp2
    go_ret2
    exact ⟨_, rfl, HV.out, Below.refl _ _⟩
  have hd : decide (c < 0) = false := by simp; omega
  by_cases h1 : (L.length : Int) ≤ c
  · have hd1 : decide ((L.length : Int) ≤ c) = true := by simp; omega
    clear hb
    go_enter Tryz.func27, Tryz.ntmps27
    go_wp2
    go_ret2
    exact ⟨_, rfl, HV.out, Below.refl _ _⟩
  · have hd1 : decide ((L.length : Int) ≤ c) = false := by simp; omega
    have hd2 : decide (n < 1) = true := by simp; omega
    clear hb
    go_enter Tryz.func27, Tryz.ntmps27
    go_wp2
    go_ret2
    exact ⟨_, rfl, HV.out, Below.refl _ _⟩
set_option maxRecDepth 100000 in
set_option maxHeartbeats 6000000 in
theorem rdel_good (Z : Zone) (v : Value) (L : List Cl) (c m : Nat) (n : Int) (w : World) (hZ : ∀ b, w.heap.size ≤ b → Z b) (hv : HeldE cellE Z w v L) (hl : L.length ≤ 1000000) (hc : c < L.length) (hn : 1 ≤ n) (hm : min n ((L.length : Int) - c) = m) : Calls Tryz.prog 27 #[v, .int .i64 c, .int .i64 n] w (Tup27 Z w (delL L c m) true) := by
  obtain ⟨ao, ca, rfl⟩ := hv.len
  have hcm : c + m ≤ L.length := by omega
  have hd : decide ((c : Int) < 0) = false := by simp
  have hd1 : decide ((L.length : Int) ≤ c) = false := by simp; omega
  have hd1n : decide (L.length ≤ c) = false := by simp; omega
  have hd2 : decide (n < 1) = false := by simp; omega
  have hw : IntKind.i64.wrap ((L.length : Int) - c) = (L.length : Int) - c := by rw [IntKind.wrap_i64]; omega
  have HZ := Lib.hid hZ
  have HV := Lib.hid hv
  have HIL := Lib.hid (del_len hcm)
  have HIA := Lib.hid (del_at hcm)
  have HT := Lib.hid (rtorn_any Z _ L c w hZ hv hl (by omega))
  have HTL := Lib.hid (tear_len L c)
  have HTL2 := Lib.hid (show (tearL (tearL L c) (c + m)).length = L.length by rw [tear_len, tear_len])
  have hw1 : IntKind.i64.wrap ((c : Int) + m) = (c : Int) + m := by rw [IntKind.wrap_i64]; omega
  obtain ⟨D, hD⟩ : ∃ D : Nat, c + m = D := ⟨_, rfl⟩
  have hDi : (c : Int) + (m : Int) = (D : Int) := by omega
  have hDw : IntKind.i64.wrap (D : Int) = (D : Int) := by rw [IntKind.wrap_i64]; omega
  have HDL := Lib.hid (show D ≤ 1000000 by omega)
  rw [hD] at HTL2 HIA
  clear hv hZ hw1 hcm
  go_enter Tryz.func27, Tryz.ntmps27
  go_wp2_with fail
  refine HT.out.mono ?_
  rintro e w0 ⟨v0, rfl, ho0, b0⟩
  have HT2 := Lib.hid (rtorn_any Z v0 (tearL L c) D w0 (fun b h => HZ.out b (Nat.le_trans b0.size h)) (ho0.held (fun b h _ => HZ.out b h)) (by rw [HTL.out]; exact hl) HDL.out)
  have HB0 := Lib.hid b0
  obtain ⟨zo, za, rfl⟩ := (ho0.held (fun b h _ => HZ.out b h)).len
  clear ho0 b0 HT
  go_wp2_with fail
  refine HT2.out.mono ?_
  rintro e w1 ⟨v1, rfl, ho1, b1⟩
  have hh1 := (ho1.held (fun b h _ => HZ.out b (Nat.le_trans HB0.out.size h))).zone (Y := fun b => Z b ∧ b < w1.heap.size) (fun b hb hz => ⟨hz, hb⟩)
  obtain ⟨Tl, hTl⟩ : ∃ Tl, Tl = tearL (tearL L c) D := ⟨_, rfl⟩
  rw [← hTl] at hh1 HTL2 HIA
  clear hTl
  obtain ⟨qo, qa, rfl⟩ := hh1.len
  obtain ⟨_, _, hcells⟩ := cells_at hh1
  have HC := Lib.hid hcells
  have HB1 := Lib.hid (HB0.out.trans (b1.mono HB0.out.size))
  have HZ1 := Lib.hid (show ∀ b, w1.heap.size ≤ b → Z b from fun b h => HZ.out b (Nat.le_trans HB1.out.size h))
  have hTlen := HTL2.out
  rw [hTlen]
  obtain ⟨R2, hR2⟩ : ∃ R2, R2 = delL L c m := ⟨_, rfl⟩
  rw [← hR2] at HIL HIA ⊢
  have HR2 := Lib.hid hR2
  have hml : m ≤ 1000000 := by omega
  clear ho1 b1 hh1 hcells hTlen hR2 hw hd2 hd1 hd1n hd hn hDi hDw hD HT2
  go_wp2
  clear hm
  go_loopw [9, 10] (fun o i wr => ∃ k : Nat, k ≤ L.length ∧ i = .int .i64 k ∧ OwnE cellE Z wr w1.heap.size 82 o (R2.take k) ∧ Below w1.heap.size w1 wr) (fun _ i _ => L.length - (intOf i).toNat)
  case atStart => exact ⟨0, Nat.zero_le _, rfl, OwnE.nil _ _ _ _ _, Below.refl _ _⟩
  case round =>
    obtain ⟨k, hk, rfl, hown, hbw⟩ := hrel
    have HBW := Lib.hid hbw
    have HOW := Lib.hid hown
    clear hbw hown
    by_cases hlt : k < L.length
    · have HTS := Lib.hid (take_one_more R2 k (by rw [HIL.out]; exact hlt))
      have HLEN := Lib.hid (show (R2.take k).length ≤ 1000000 by rw [List.length_take, HIL.out]; omega)
      have hpa := HIA.out k hlt
      have hw2 : IntKind.i64.wrap ((k : Int) + m) = (k : Int) + m := by rw [IntKind.wrap_i64]; omega
      have hTlen := HTL2.out
      by_cases hA : k < c
      · rw [if_pos hA] at hpa
        have hdA : decide ((k : Int) < c) = true := by simp; omega
        obtain ⟨b, off, tv, rfl, hb, _, c0, c1, hh⟩ := HC.out k (by omega)
        have c0 := (HBW.out.cell (p := ⟨b, off + k * 2, none⟩) hb).trans c0
        have c1 := (HBW.out.cell (p := ⟨b, off + k * 2 + 1, none⟩) hb).trans c1
        have hb1 : b < wr.heap.size := Nat.lt_of_lt_of_le hb HBW.out.size
        obtain ⟨⟨K, T⟩, hKT⟩ : ∃ y, y = Tl.getD k zc := ⟨_, rfl⟩
        rw [← hKT] at c0 hh hpa
        simp only at c0 hh
        have HH2 := Lib.hid (hh.below HBW.out)
        obtain ⟨ta, tc, rfl⟩ := hh.len
        clear hh hKT
        have HPA := Lib.hid (show R2.getD k zc = (K, T) from hpa)
        clear hpa hTlen
        have hbx := (Below.refl wr.heap.size wr).alloc (Nat.le_refl _) (.cells #[.int .i64 K, .slice ta T.length tc] 82)
        obtain ⟨hoa, hua⟩ := one_app (K := K) HBW.out.size hbx HOW.out HZ1.out (HH2.out.below hbx)
        rw [World.size_alloc] at hua
        have HOA := Lib.hid hoa
        have HUA := Lib.hid hua
        have HBA := Lib.hid ((HBW.out.trans (hbx.mono HBW.out.size)).alloc (HBW.out.trans (hbx.mono HBW.out.size)).size (.cells [.int .i64 K, .slice ta T.length tc].toArray 82))
        clear hoa hua hbx
        go_wp2_with (at_builtin; refine wpList_append_e (E := cellE) (Z := Z) rfl (.tmp 64) (.tmp 66) 51 rfl (.agg #[.int .i64 0, .slice none 0 0]) 32 Tryz.underlying51 info_cell rfl (by decide) rfl rfl HOA.out HUA.out (by have := HLEN.out; simp only [List.length_cons, List.length_nil]; omega) (by have := HLEN.out; simp only [List.length_cons, List.length_nil]; omega) HBA.out.size ?_)
        intro v2 w2 ho2 hb2 _ _
        rw [← HPA.out, ← HTS.out] at ho2
        have H2 := Lib.hid ho2
        have H3 := Lib.hid (HBA.out.trans hb2)
        clear ho2 hb2
        go_wp2
        go_roundw
        case rel => exact ⟨k + 1, by omega, by go_num, H2.out, H3.out⟩
        case measure => simp [intOf] <;> omega
      rw [if_neg hA] at hpa
      have hdA : decide ((k : Int) < c) = false := by simp; omega
      have hdAn : decide (k < c) = false := by simp; omega
      by_cases hB : k + m < L.length
      · rw [if_pos hB] at hpa
        have hdB : decide ((k : Int) + m < L.length) = true := by simp; omega
        have hkm0 : (0 : Int) ≤ (k : Int) + m := by omega
        have hkm2 : (k : Int) + m < L.length := by omega
        have hkt : ((k : Int) + (m : Int)).toNat = k + m := by omega
        obtain ⟨b, off, tv, rfl, hb, _, c0, c1, hh⟩ := HC.out (k + m) (by omega)
        have c0 := (HBW.out.cell (p := ⟨b, off + (k + m) * 2, none⟩) hb).trans c0
        have c1 := (HBW.out.cell (p := ⟨b, off + (k + m) * 2 + 1, none⟩) hb).trans c1
        have hb1 : b < wr.heap.size := Nat.lt_of_lt_of_le hb HBW.out.size
        obtain ⟨⟨K, T⟩, hKT⟩ : ∃ y, y = Tl.getD (k + m) zc := ⟨_, rfl⟩
        rw [← hKT] at c0 hh hpa
        simp only at c0 hh
        have HH2 := Lib.hid (hh.below HBW.out)
        obtain ⟨ta, tc, rfl⟩ := hh.len
        clear hh hKT
        have HPA := Lib.hid (show R2.getD k zc = (K, T) from hpa)
        clear hpa hTlen
        have hbx := (Below.refl wr.heap.size wr).alloc (Nat.le_refl _) (.cells #[.int .i64 K, .slice ta T.length tc] 82)
        obtain ⟨hoa, hua⟩ := one_app (K := K) HBW.out.size hbx HOW.out HZ1.out (HH2.out.below hbx)
        rw [World.size_alloc] at hua
        have HOA := Lib.hid hoa
        have HUA := Lib.hid hua
        have HBA := Lib.hid ((HBW.out.trans (hbx.mono HBW.out.size)).alloc (HBW.out.trans (hbx.mono HBW.out.size)).size (.cells [.int .i64 K, .slice ta T.length tc].toArray 82))
        clear hoa hua hbx
        go_wp2_with (at_builtin; refine wpList_append_e (E := cellE) (Z := Z) rfl (.tmp 64) (.tmp 66) 51 rfl (.agg #[.int .i64 0, .slice none 0 0]) 32 Tryz.underlying51 info_cell rfl (by decide) rfl rfl HOA.out HUA.out (by have := HLEN.out; simp only [List.length_cons, List.length_nil]; omega) (by have := HLEN.out; simp only [List.length_cons, List.length_nil]; omega) HBA.out.size ?_)
        intro v2 w2 ho2 hb2 _ _
        rw [← HPA.out, ← HTS.out] at ho2
        have H2 := Lib.hid ho2
        have H3 := Lib.hid (HBA.out.trans hb2)
        clear ho2 hb2
        go_wp2
        go_roundw
        case rel => exact ⟨k + 1, by omega, by go_num, H2.out, H3.out⟩
        case measure => simp [intOf] <;> omega
      · rw [if_neg hB] at hpa
        have hdB : decide ((k : Int) + m < L.length) = false := by simp; omega
        have hdBn : decide (k + m < L.length) = false := by simp; omega
        have HPA := Lib.hid (show R2.getD k zc = (0, []) from hpa)
        have HH2 := Lib.hid (HeldE.nil (intE .i32) (fun b => Z b ∧ b < w1.heap.size) wr)
        clear hpa hTlen
        have hbx := (Below.refl wr.heap.size wr).alloc (Nat.le_refl _) (.cells #[.int .i64 0, .slice none 0 0] 82)
        obtain ⟨hoa, hua⟩ := one_app (K := 0) HBW.out.size hbx HOW.out HZ1.out (HH2.out.below hbx)
        rw [World.size_alloc] at hua
        have HOA := Lib.hid hoa
        have HUA := Lib.hid hua
        have HBA := Lib.hid ((HBW.out.trans (hbx.mono HBW.out.size)).alloc (HBW.out.trans (hbx.mono HBW.out.size)).size (.cells [.int .i64 0, .slice none 0 0].toArray 82))
        clear hoa hua hbx
        go_wp2_with (at_builtin; refine wpList_append_e (E := cellE) (Z := Z) rfl (.tmp 64) (.tmp 66) 51 rfl (.agg #[.int .i64 0, .slice none 0 0]) 32 Tryz.underlying51 info_cell rfl (by decide) rfl rfl HOA.out HUA.out (by have := HLEN.out; simp only [List.length_cons, List.length_nil]; omega) (by have := HLEN.out; simp only [List.length_cons, List.length_nil]; omega) HBA.out.size ?_)
        intro v2 w2 ho2 hb2 _ _
        rw [← HPA.out, ← HTS.out] at ho2
        have H2 := Lib.hid ho2
        have H3 := Lib.hid (HBA.out.trans hb2)
        clear ho2 hb2
        go_wp2
        go_roundw
        case rel => exact ⟨k + 1, by omega, by go_num, H2.out, H3.out⟩
        case measure => simp [intOf] <;> omega
    · obtain rfl : k = L.length := by omega
      have hE : R2.take L.length = R2 := by rw [List.take_of_length_le (by rw [HIL.out]; exact Nat.le_refl _)]
      rw [hE] at HOW
      have HF := Lib.hid (And.intro (HOW.out.held (fun b h _ => HZ1.out b h)) (HB1.out.trans (HBW.out.mono HB1.out.size)))
      obtain ⟨fo, fc, rfl⟩ := HF.out.1.len
      clear hE
      go_wp2
      go_ret2
      exact ⟨_, rfl, (by rw [← HR2.out]; exact HF.out.1), HF.out.2⟩
def doneB (L : List Cl) (c n : Int) : Bool := !decide (c < 0 ∨ (L.length : Int) ≤ c ∨ n < 1)
theorem rins_any (Z : Zone) (v : Value) (L : List Cl) (wrap : Bool) (c n : Int) (w : World) (hZ : ∀ b, w.heap.size ≤ b → Z b) (hv : HeldE cellE Z w v L) (hl : L.length ≤ 1000000) : Calls Tryz.prog 26 #[v, .int .i64 c, .int .i64 n] w (Tup27 Z w (insA L wrap c n).1 (doneB L c n)) := by
  by_cases hb : c < 0 ∨ (L.length : Int) ≤ c ∨ n < 1
  · unfold insA doneB
    rw [if_pos hb, decide_eq_true hb]
    exact rins_bad Z v L c n w hv hb
  · unfold insA doneB
    rw [if_neg hb, decide_eq_false hb]
    obtain ⟨k, rfl⟩ := Int.eq_ofNat_of_zero_le (show 0 ≤ c by omega)
    obtain ⟨m, hm⟩ : ∃ m : Nat, min n ((L.length : Int) - k) = m := ⟨(min n ((L.length : Int) - k)).toNat, by omega⟩
    rw [hm]
    exact rins_good Z v L k m n w hZ hv hl (by omega) (by omega) hm
theorem rdel_any (Z : Zone) (v : Value) (L : List Cl) (wrap : Bool) (c n : Int) (w : World) (hZ : ∀ b, w.heap.size ≤ b → Z b) (hv : HeldE cellE Z w v L) (hl : L.length ≤ 1000000) : Calls Tryz.prog 27 #[v, .int .i64 c, .int .i64 n] w (Tup27 Z w (delA L wrap c n).1 (doneB L c n)) := by
  by_cases hb : c < 0 ∨ (L.length : Int) ≤ c ∨ n < 1
  · unfold delA doneB
    rw [if_pos hb, decide_eq_true hb]
    exact rdel_bad Z v L c n w hv hb
  · unfold delA doneB
    rw [if_neg hb, decide_eq_false hb]
    obtain ⟨k, rfl⟩ := Int.eq_ofNat_of_zero_le (show 0 ≤ c by omega)
    obtain ⟨m, hm⟩ : ∃ m : Nat, min n ((L.length : Int) - k) = m := ⟨(min n ((L.length : Int) - k)).toNat, by omega⟩
    rw [hm]
    exact rdel_good Z v L k m n w hZ hv hl (by omega) (by omega) hm
end Go.Proofs.YtgndolgihplngaaGreatDoor
