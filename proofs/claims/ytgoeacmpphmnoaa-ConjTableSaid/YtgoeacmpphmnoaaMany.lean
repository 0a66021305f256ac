/- How many numbers the reference's lists have. -/
import Derived.Test.YtgoeacmpphmnoaaPinM
import Derived.Test.YtgoeacmpphmnoaaTabM
import Derived.Test.YtgoeacmpphmnoaaTabW
namespace Go.Proofs.Ytgoeacmpphmnoaa
open Go.RowKit Go.ChangeShapes Go.WideShapes
def manyN (T : List (Int × Int)) (k : Nat) (n : Int) : Int := (T.take k).foldl (fun n p => n + p.2 - p.1 + 1) n
theorem many_succ (T : List (Int × Int)) (k : Nat) (n : Int) (h : k < T.length) : manyN T (k + 1) n = manyN T k n + (T.getD k (0, 0)).2 - (T.getD k (0, 0)).1 + 1 := by
  unfold manyN
  rw [take_one T k (0, 0) h, List.foldl_append]; rfl
theorem many_all (T : List (Int × Int)) (n : Int) : manyN T T.length n = T.foldl (fun n p => n + p.2 - p.1 + 1) n := by unfold manyN; rw [List.take_length]
def tabOk (T : List (Int × Int)) : Bool := decide (T.length ≤ 1000) && T.all fun p => decide (0 ≤ p.1) && decide (p.1 ≤ p.2) && decide (p.2 ≤ 1114111)
theorem tabOk_at {T : List (Int × Int)} (h : tabOk T = true) : T.length ≤ 1000 ∧ ∀ k, k < T.length → 0 ≤ (T.getD k (0, 0)).1 ∧ (T.getD k (0, 0)).1 ≤ (T.getD k (0, 0)).2 ∧ (T.getD k (0, 0)).2 ≤ 1114111 := by
  unfold tabOk at h
  rw [Bool.and_eq_true, decide_eq_true_eq, List.all_eq_true] at h
  refine ⟨h.1, fun k hk => ?_⟩
  have := h.2 (T.getD k (0, 0)) (by simp only [List.getD, List.getElem?_eq_getElem hk, Option.getD_some]; exact List.getElem_mem hk)
  simpa only [Bool.and_eq_true, decide_eq_true_eq, and_assoc] using this
theorem many_bd {T : List (Int × Int)} (h : tabOk T = true) (n : Int) : ∀ k, k ≤ T.length → n ≤ manyN T k n ∧ manyN T k n ≤ n + 1114112 * k
  | 0, _ => by unfold manyN; simp
  | k + 1, hk => by
    have i := many_bd h n k (by omega)
    have := (tabOk_at h).2 k (by omega)
    rw [many_succ T k n (by omega)]
    push_cast
    omega
set_option maxRecDepth 100000 in
set_option maxHeartbeats 1000000 in
theorem many10_any (w : World) : Calls Try.prog 36 #[] w (Gives w (.int .i64 (manyI [tPict]))) := by
  obtain ⟨T, hT⟩ : ∃ T, T = tPict := ⟨_, rfl⟩
  have HF := Lib.hid (show manyI [tPict] = manyN T T.length 0 by rw [hT, many_all]; unfold manyI; simp only [List.foldl_cons, List.foldl_nil])
  have HOK := Lib.hid (show tabOk T = true by rw [hT]; decide +kernel)
  have HT := Lib.hid hT
  clear hT
  go_enter Try.func36, Try.ntmps36
  go_wp2_with fail
  refine (r10list_any _).mono ?_
  rintro e w1 ⟨v1, rfl, h1, b1⟩
  rw [← HT.out] at h1
  obtain ⟨ao, cap, rfl, hc⟩ := id h1.view
  have HC := Lib.hid hc
  have hl := (tabOk_at HOK.out).1
  clear h1 hc HT
  go_wp2
  go_loopw [1, 3] (fun nv iv wr => ∃ k : Nat, k ≤ T.length ∧ iv = .int .i64 k ∧ nv = .int .i64 (manyN T k 0) ∧ Below w1.heap.size w1 wr) (fun _ iv _ => T.length - (intOf iv).toNat)
  case atStart => exact ⟨0, Nat.zero_le _, rfl, rfl, Below.refl _ _⟩
  case round =>
    obtain ⟨k, hk, rfl, rfl, hbw⟩ := hrel
    by_cases hlt : k < T.length
    · obtain ⟨b, off, rfl, hb, c0, c1⟩ := HC.out k hlt
      have c0 := (hbw.cell (p := ⟨b, off + k * 2, none⟩) hb).trans c0
      have c1 := (hbw.cell (p := ⟨b, off + k * 2 + 1, none⟩) hb).trans c1
      obtain ⟨a1, a2, a3⟩ := (tabOk_at HOK.out).2 k hlt
      obtain ⟨d1, d2⟩ := many_bd HOK.out 0 k (by omega)
      have hs := many_succ T k 0 hlt
      obtain ⟨p, hp⟩ : ∃ p, p = T.getD k (0, 0) := ⟨_, rfl⟩
      rw [← hp] at c0 c1 a1 a2 a3 hs
      obtain ⟨x, y⟩ := p
      simp only at c0 c1 a1 a2 a3 hs
      obtain ⟨N, hN⟩ : ∃ N, N = manyN T k 0 := ⟨_, rfl⟩
      rw [← hN] at d1 d2 hs ⊢
      have HS := Lib.hid hs
      clear hp hN hs
      go_wp2_with fail
      go_quiet (fail)
      go_wp2
      go_roundw
      case rel => exact ⟨k + 1, by omega, by go_num, by rw [HS.out], hbw.drewN _⟩
      case measure => simp [intOf] <;> omega
    · obtain rfl : k = T.length := by omega
      have hb := b1.trans (hbw.mono b1.size)
      go_wp2
      go_ret
      exact ⟨ret_eq (by rw [HF.out]; try rfl), hb⟩
set_option maxRecDepth 100000 in
set_option maxHeartbeats 2000000 in
theorem many11_any (w : World) : Calls Try.prog 41 #[] w (Gives w (.int .i64 (manyI tabs11))) := by
  have hok : ∀ k, k < 3 → tabOk (tabs11.getD k []) = true := by decide +kernel
  have hbd : ∀ k, k < 4 → 0 ≤ manyI (tabs11.take k) ∧ manyI (tabs11.take k) ≤ 1000000000 := by decide +kernel
  have hst : ∀ k, k < 3 → manyI (tabs11.take (k + 1)) = manyN (tabs11.getD k []) (tabs11.getD k []).length (manyI (tabs11.take k)) := by
    intro k hk
    unfold manyI
    rw [take_one tabs11 k [] hk, List.foldl_append, many_all]; rfl
  have hfin : manyI (tabs11.take 3) = manyI tabs11 := rfl
  have HOK := Lib.hid hok
  have HBD := Lib.hid hbd
  have HST := Lib.hid hst
  have HF := Lib.hid hfin
  clear hok hbd hst hfin
  go_enter Try.func41, Try.ntmps41
  go_wp2_with fail
  refine (r11list1_any _).mono ?_
  rintro e w1 ⟨v1, rfl, h1, b1⟩
  obtain ⟨ao1, c1, rfl, _⟩ := id h1.view
  have H1 := Lib.hid h1
  clear h1
  go_wp2_with fail
  refine (r11list2_any _).mono ?_
  rintro e w2 ⟨v2, rfl, h2, b2⟩
  obtain ⟨ao2, c2, rfl, _⟩ := id h2.view
  have H2 := Lib.hid h2
  clear h2
  go_wp2_with fail
  refine (r11list3_any _).mono ?_
  rintro e w3 ⟨v3, rfl, h3, b3⟩
  obtain ⟨ao3, c3, rfl, _⟩ := id h3.view
  have H3 := Lib.hid h3
  clear h3
  go_wp2
  obtain ⟨vs, hvs⟩ : ∃ vs : List Value, vs = [.slice ao1 tCons.length c1, .slice ao2 tLink.length c2, .slice ao3 tJoin.length c3] := ⟨_, rfl⟩
  obtain ⟨W, hW⟩ : ∃ W, W = w3.alloc (.cells vs.toArray 99) := ⟨_, rfl⟩
  have hE : w3.alloc (.cells #[.slice ao1 tCons.length c1, .slice ao2 tLink.length c2, .slice ao3 tJoin.length c3] 99) = W := by rw [hW, hvs]
  rw [hE]
  have hlen : vs.length = 3 := by rw [hvs]; rfl
  have hs : Has W w3.heap.size vs 99 := by rw [hW]; exact Has.new w3 _ _
  have hbl3 : Below w3.heap.size w3 W := by rw [hW]; exact (Below.refl _ _).alloc (Nat.le_refl _) _
  have hbl2 : Below w2.heap.size w2 W := b3.trans (hbl3.mono b3.size)
  have hbl1 : Below w1.heap.size w1 W := b2.trans (hbl2.mono b2.size)
  have hall : ∀ k, k < 3 → HeldT .i64 W (vs.getD k undef) (tabs11.getD k []) := by
    intro k hk
    rw [hvs]
    match k, hk with
    | 0, _ => exact H1.out.below hbl1
    | 1, _ => exact H2.out.below hbl2
    | 2, _ => exact H3.out.below hbl3
  have hl : Below w.heap.size w W := b1.trans (hbl1.mono b1.size)
  have HA := Lib.hid hall
  have HS := Lib.hid hs
  clear hall hE hvs hW H1 H2 H3 b1 b2 b3 hbl1 hbl2 hbl3
  go_loopw [1, 3] (fun nv iv wr => ∃ k : Nat, k ≤ 3 ∧ iv = .int .i64 k ∧ nv = .int .i64 (manyI (tabs11.take k)) ∧ Below W.heap.size W wr) (fun _ iv _ => 3 - (intOf iv).toNat)
  case atStart => exact ⟨0, Nat.zero_le _, rfl, rfl, Below.refl _ _⟩
  case round =>
    obtain ⟨k, hk, rfl, rfl, hbw⟩ := hrel
    obtain ⟨wo, hwo⟩ : ∃ wo, wo = wr := ⟨_, rfl⟩
    subst hwo
    by_cases hlt : k < 3
    · have hh := (HA.out k hlt).below hbw
      have hcx := (hbw.cell (p := ⟨w3.heap.size, k, none⟩) HS.out.lt).trans (tb_get HS.out k (by rw [hlen]; exact hlt))
      have hok := HOK.out k hlt
      have hst := HST.out k hlt
      have hbd := HBD.out k (by omega)
      obtain ⟨T, hT⟩ : ∃ T, T = tabs11.getD k [] := ⟨_, rfl⟩
      rw [← hT] at hh hok hst
      obtain ⟨ao, cap, hv, hc⟩ := id hh.view
      rw [hv] at hh hcx
      obtain ⟨N0, hN0⟩ : ∃ N0, N0 = manyI (tabs11.take k) := ⟨_, rfl⟩
      rw [← hN0] at hst hbd ⊢
      have HC := Lib.hid hc
      have HOT := Lib.hid hok
      have HSTK := Lib.hid hst
      have HCX := Lib.hid hcx
      have hTl := (tabOk_at hok).1
      have hgl := HS.out.lt
      have hgl2 := hbw.size
      clear hh hv hT hc hok hst hN0
      go_wp2
      go_loopw [1, 4] (fun nv jv wi => ∃ j : Nat, j ≤ T.length ∧ jv = .int .i64 j ∧ nv = .int .i64 (manyN T j N0) ∧ Below wo.heap.size wo wi) (fun _ jv _ => T.length - (intOf jv).toNat)
      case atStart => exact ⟨0, Nat.zero_le _, rfl, rfl, Below.refl _ _⟩
      case round =>
        obtain ⟨j, hj, rfl, rfl, hbi⟩ := hrel
        have hcx := (hbi.cell (p := ⟨w3.heap.size, k, none⟩) (by show w3.heap.size < _; omega)).trans HCX.out
        by_cases hlt2 : j < T.length
        · obtain ⟨b, off, rfl, hb, c0, c1⟩ := HC.out j hlt2
          have c0 := (hbi.cell (p := ⟨b, off + j * 2, none⟩) hb).trans c0
          have c1 := (hbi.cell (p := ⟨b, off + j * 2 + 1, none⟩) hb).trans c1
          obtain ⟨a1, a2, a3⟩ := (tabOk_at HOT.out).2 j hlt2
          obtain ⟨d1, d2⟩ := many_bd HOT.out N0 j (by omega)
          have hs2 := many_succ T j N0 hlt2
          obtain ⟨p, hp⟩ : ∃ p, p = T.getD j (0, 0) := ⟨_, rfl⟩
          rw [← hp] at c0 c1 a1 a2 a3 hs2
          obtain ⟨x, y⟩ := p
          simp only at c0 c1 a1 a2 a3 hs2
          obtain ⟨N, hN⟩ : ∃ N, N = manyN T j N0 := ⟨_, rfl⟩
          rw [← hN] at d1 d2 hs2 ⊢
          have HS2 := Lib.hid hs2
          clear hp hN hs2
          go_wp2_with fail
          go_quiet (fail)
          go_wp2
          go_roundw
          case rel => exact ⟨j + 1, by omega, by go_num, by rw [HS2.out], hbi.drewN _⟩
          case measure => simp [intOf] <;> omega
        · obtain rfl : j = T.length := by omega
          have hb2 := hbw.trans (hbi.mono hbw.size)
          go_wp2
          go_roundw
          case rel => exact ⟨k + 1, by omega, by go_num, by rw [HSTK.out], hb2⟩
          case measure => simp [intOf] <;> omega
    · obtain rfl : k = 3 := by omega
      have hfin := hl.trans (hbw.mono hl.size)
      go_wp2
      go_ret
      exact ⟨ret_eq (by rw [HF.out]; try rfl), hfin⟩
set_option maxRecDepth 100000 in
set_option maxHeartbeats 2000000 in
theorem many12_any (w : World) : Calls Try.prog 45 #[] w (Gives w (.int .i64 (manyI tabs12))) := by
  have hok : ∀ k, k < 3 → tabOk (tabs12.getD k []) = true := by decide +kernel
  have hbd : ∀ k, k < 4 → 0 ≤ manyI (tabs12.take k) ∧ manyI (tabs12.take k) ≤ 1000000000 := by decide +kernel
  have hst : ∀ k, k < 3 → manyI (tabs12.take (k + 1)) = manyN (tabs12.getD k []) (tabs12.getD k []).length (manyI (tabs12.take k)) := by
    intro k hk
    unfold manyI
    rw [take_one tabs12 k [] hk, List.foldl_append, many_all]; rfl
  have hfin : manyI (tabs12.take 3) = manyI tabs12 := rfl
  have HOK := Lib.hid hok
  have HBD := Lib.hid hbd
  have HST := Lib.hid hst
  have HF := Lib.hid hfin
  clear hok hbd hst hfin
  go_enter Try.func45, Try.ntmps45
  go_wp2_with fail
  refine (r12list1_any _).mono ?_
  rintro e w1 ⟨v1, rfl, h1, b1⟩
  obtain ⟨ao1, c1, rfl, _⟩ := id h1.view
  have H1 := Lib.hid h1
  clear h1
  go_wp2_with fail
  refine (r12list2_any _).mono ?_
  rintro e w2 ⟨v2, rfl, h2, b2⟩
  obtain ⟨ao2, c2, rfl, _⟩ := id h2.view
  have H2 := Lib.hid h2
  clear h2
  go_wp2_with fail
  refine (r12list3_any _).mono ?_
  rintro e w3 ⟨v3, rfl, h3, b3⟩
  obtain ⟨ao3, c3, rfl, _⟩ := id h3.view
  have H3 := Lib.hid h3
  clear h3
  go_wp2
  obtain ⟨vs, hvs⟩ : ∃ vs : List Value, vs = [.slice ao1 tWide.length c1, .slice ao2 tFull.length c2, .slice ao3 tHalf.length c3] := ⟨_, rfl⟩
  obtain ⟨W, hW⟩ : ∃ W, W = w3.alloc (.cells vs.toArray 99) := ⟨_, rfl⟩
  have hE : w3.alloc (.cells #[.slice ao1 tWide.length c1, .slice ao2 tFull.length c2, .slice ao3 tHalf.length c3] 99) = W := by rw [hW, hvs]
  rw [hE]
  have hlen : vs.length = 3 := by rw [hvs]; rfl
  have hs : Has W w3.heap.size vs 99 := by rw [hW]; exact Has.new w3 _ _
  have hbl3 : Below w3.heap.size w3 W := by rw [hW]; exact (Below.refl _ _).alloc (Nat.le_refl _) _
  have hbl2 : Below w2.heap.size w2 W := b3.trans (hbl3.mono b3.size)
  have hbl1 : Below w1.heap.size w1 W := b2.trans (hbl2.mono b2.size)
  have hall : ∀ k, k < 3 → HeldT .i64 W (vs.getD k undef) (tabs12.getD k []) := by
    intro k hk
    rw [hvs]
    match k, hk with
    | 0, _ => exact H1.out.below hbl1
    | 1, _ => exact H2.out.below hbl2
    | 2, _ => exact H3.out.below hbl3
  have hl : Below w.heap.size w W := b1.trans (hbl1.mono b1.size)
  have HA := Lib.hid hall
  have HS := Lib.hid hs
  clear hall hE hvs hW H1 H2 H3 b1 b2 b3 hbl1 hbl2 hbl3
  go_loopw [1, 3] (fun nv iv wr => ∃ k : Nat, k ≤ 3 ∧ iv = .int .i64 k ∧ nv = .int .i64 (manyI (tabs12.take k)) ∧ Below W.heap.size W wr) (fun _ iv _ => 3 - (intOf iv).toNat)
  case atStart => exact ⟨0, Nat.zero_le _, rfl, rfl, Below.refl _ _⟩
  case round =>
    obtain ⟨k, hk, rfl, rfl, hbw⟩ := hrel
    obtain ⟨wo, hwo⟩ : ∃ wo, wo = wr := ⟨_, rfl⟩
    subst hwo
    by_cases hlt : k < 3
    · have hh := (HA.out k hlt).below hbw
      have hcx := (hbw.cell (p := ⟨w3.heap.size, k, none⟩) HS.out.lt).trans (tb_get HS.out k (by rw [hlen]; exact hlt))
      have hok := HOK.out k hlt
      have hst := HST.out k hlt
      have hbd := HBD.out k (by omega)
      obtain ⟨T, hT⟩ : ∃ T, T = tabs12.getD k [] := ⟨_, rfl⟩
      rw [← hT] at hh hok hst
      obtain ⟨ao, cap, hv, hc⟩ := id hh.view
      rw [hv] at hh hcx
      obtain ⟨N0, hN0⟩ : ∃ N0, N0 = manyI (tabs12.take k) := ⟨_, rfl⟩
      rw [← hN0] at hst hbd ⊢
      have HC := Lib.hid hc
      have HOT := Lib.hid hok
      have HSTK := Lib.hid hst
      have HCX := Lib.hid hcx
      have hTl := (tabOk_at hok).1
      have hgl := HS.out.lt
      have hgl2 := hbw.size
      clear hh hv hT hc hok hst hN0
      go_wp2
      go_loopw [1, 4] (fun nv jv wi => ∃ j : Nat, j ≤ T.length ∧ jv = .int .i64 j ∧ nv = .int .i64 (manyN T j N0) ∧ Below wo.heap.size wo wi) (fun _ jv _ => T.length - (intOf jv).toNat)
      case atStart => exact ⟨0, Nat.zero_le _, rfl, rfl, Below.refl _ _⟩
      case round =>
        obtain ⟨j, hj, rfl, rfl, hbi⟩ := hrel
        have hcx := (hbi.cell (p := ⟨w3.heap.size, k, none⟩) (by show w3.heap.size < _; omega)).trans HCX.out
        by_cases hlt2 : j < T.length
        · obtain ⟨b, off, rfl, hb, c0, c1⟩ := HC.out j hlt2
          have c0 := (hbi.cell (p := ⟨b, off + j * 2, none⟩) hb).trans c0
          have c1 := (hbi.cell (p := ⟨b, off + j * 2 + 1, none⟩) hb).trans c1
          obtain ⟨a1, a2, a3⟩ := (tabOk_at HOT.out).2 j hlt2
          obtain ⟨d1, d2⟩ := many_bd HOT.out N0 j (by omega)
          have hs2 := many_succ T j N0 hlt2
          obtain ⟨p, hp⟩ : ∃ p, p = T.getD j (0, 0) := ⟨_, rfl⟩
          rw [← hp] at c0 c1 a1 a2 a3 hs2
          obtain ⟨x, y⟩ := p
          simp only at c0 c1 a1 a2 a3 hs2
          obtain ⟨N, hN⟩ : ∃ N, N = manyN T j N0 := ⟨_, rfl⟩
          rw [← hN] at d1 d2 hs2 ⊢
          have HS2 := Lib.hid hs2
          clear hp hN hs2
          go_wp2_with fail
          go_quiet (fail)
          go_wp2
          go_roundw
          case rel => exact ⟨j + 1, by omega, by go_num, by rw [HS2.out], hbi.drewN _⟩
          case measure => simp [intOf] <;> omega
        · obtain rfl : j = T.length := by omega
          have hb2 := hbw.trans (hbi.mono hbw.size)
          go_wp2
          go_roundw
          case rel => exact ⟨k + 1, by omega, by go_num, by rw [HSTK.out], hb2⟩
          case measure => simp [intOf] <;> omega
    · obtain rfl : k = 3 := by omega
      have hfin := hl.trans (hbw.mono hl.size)
      go_wp2
      go_ret
      exact ⟨ret_eq (by rw [HF.out]; try rfl), hfin⟩
set_option maxRecDepth 100000 in
set_option maxHeartbeats 2000000 in
theorem many09_any (w : World) : Calls Try.prog 49 #[] w (Gives w (.int .i64 (manyI tabs09))) := by
  have hok : ∀ k, k < 8 → tabOk (tabs09.getD k []) = true := by decide +kernel
  have hbd : ∀ k, k < 9 → 0 ≤ manyI (tabs09.take k) ∧ manyI (tabs09.take k) ≤ 1000000000 := by decide +kernel
  have hst : ∀ k, k < 8 → manyI (tabs09.take (k + 1)) = manyN (tabs09.getD k []) (tabs09.getD k []).length (manyI (tabs09.take k)) := by
    intro k hk
    unfold manyI
    rw [take_one tabs09 k [] hk, List.foldl_append, many_all]; rfl
  have hfin : manyI (tabs09.take 8) = manyI tabs09 := rfl
  have HOK := Lib.hid hok
  have HBD := Lib.hid hbd
  have HST := Lib.hid hst
  have HF := Lib.hid hfin
  clear hok hbd hst hfin
  go_enter Try.func49, Try.ntmps49
  go_wp2_with fail
  refine (r09list1_any _).mono ?_
  rintro e w1 ⟨v1, rfl, h1, b1⟩
  obtain ⟨ao1, c1, rfl, _⟩ := id h1.view
  have H1 := Lib.hid h1
  clear h1
  go_wp2_with fail
  refine (r09list2_any _).mono ?_
  rintro e w2 ⟨v2, rfl, h2, b2⟩
  obtain ⟨ao2, c2, rfl, _⟩ := id h2.view
  have H2 := Lib.hid h2
  clear h2
  go_wp2_with fail
  refine (r09list3_any _).mono ?_
  rintro e w3 ⟨v3, rfl, h3, b3⟩
  obtain ⟨ao3, c3, rfl, _⟩ := id h3.view
  have H3 := Lib.hid h3
  clear h3
  go_wp2_with fail
  refine (r09list4_any _).mono ?_
  rintro e w4 ⟨v4, rfl, h4, b4⟩
  obtain ⟨ao4, c4, rfl, _⟩ := id h4.view
  have H4 := Lib.hid h4
  clear h4
  go_wp2_with fail
  refine (r09list5_any _).mono ?_
  rintro e w5 ⟨v5, rfl, h5, b5⟩
  obtain ⟨ao5, c5, rfl, _⟩ := id h5.view
  have H5 := Lib.hid h5
  clear h5
  go_wp2_with fail
  refine (r09list6_any _).mono ?_
  rintro e w6 ⟨v6, rfl, h6, b6⟩
  obtain ⟨ao6, c6, rfl, _⟩ := id h6.view
  have H6 := Lib.hid h6
  clear h6
  go_wp2_with fail
  refine (r09list7_any _).mono ?_
  rintro e w7 ⟨v7, rfl, h7, b7⟩
  obtain ⟨ao7, c7, rfl, _⟩ := id h7.view
  have H7 := Lib.hid h7
  clear h7
  go_wp2_with fail
  refine (r09list8_any _).mono ?_
  rintro e w8 ⟨v8, rfl, h8, b8⟩
  obtain ⟨ao8, c8, rfl, _⟩ := id h8.view
  have H8 := Lib.hid h8
  clear h8
  go_wp2
  obtain ⟨vs, hvs⟩ : ∃ vs : List Value, vs = [.slice ao1 tCR.length c1, .slice ao2 tLF.length c2, .slice ao3 tControl.length c3, .slice ao4 tExtend.length c4, .slice ao5 tZWJ.length c5, .slice ao6 tRI.length c6, .slice ao7 tPrepend.length c7, .slice ao8 tSpacing.length c8] := ⟨_, rfl⟩
  obtain ⟨W, hW⟩ : ∃ W, W = w8.alloc (.cells vs.toArray 99) := ⟨_, rfl⟩
  have hE : w8.alloc (.cells #[.slice ao1 tCR.length c1, .slice ao2 tLF.length c2, .slice ao3 tControl.length c3, .slice ao4 tExtend.length c4, .slice ao5 tZWJ.length c5, .slice ao6 tRI.length c6, .slice ao7 tPrepend.length c7, .slice ao8 tSpacing.length c8] 99) = W := by rw [hW, hvs]
  rw [hE]
  have hlen : vs.length = 8 := by rw [hvs]; rfl
  have hs : Has W w8.heap.size vs 99 := by rw [hW]; exact Has.new w8 _ _
  have hbl8 : Below w8.heap.size w8 W := by rw [hW]; exact (Below.refl _ _).alloc (Nat.le_refl _) _
  have hbl7 : Below w7.heap.size w7 W := b8.trans (hbl8.mono b8.size)
  have hbl6 : Below w6.heap.size w6 W := b7.trans (hbl7.mono b7.size)
  have hbl5 : Below w5.heap.size w5 W := b6.trans (hbl6.mono b6.size)
  have hbl4 : Below w4.heap.size w4 W := b5.trans (hbl5.mono b5.size)
  have hbl3 : Below w3.heap.size w3 W := b4.trans (hbl4.mono b4.size)
  have hbl2 : Below w2.heap.size w2 W := b3.trans (hbl3.mono b3.size)
  have hbl1 : Below w1.heap.size w1 W := b2.trans (hbl2.mono b2.size)
  have hall : ∀ k, k < 8 → HeldT .i64 W (vs.getD k undef) (tabs09.getD k []) := by
    intro k hk
    rw [hvs]
    match k, hk with
    | 0, _ => exact H1.out.below hbl1
    | 1, _ => exact H2.out.below hbl2
    | 2, _ => exact H3.out.below hbl3
    | 3, _ => exact H4.out.below hbl4
    | 4, _ => exact H5.out.below hbl5
    | 5, _ => exact H6.out.below hbl6
    | 6, _ => exact H7.out.below hbl7
    | 7, _ => exact H8.out.below hbl8
  have hl : Below w.heap.size w W := b1.trans (hbl1.mono b1.size)
  have HA := Lib.hid hall
  have HS := Lib.hid hs
  clear hall hE hvs hW H1 H2 H3 H4 H5 H6 H7 H8 b1 b2 b3 b4 b5 b6 b7 b8 hbl1 hbl2 hbl3 hbl4 hbl5 hbl6 hbl7 hbl8
  go_loopw [1, 3] (fun nv iv wr => ∃ k : Nat, k ≤ 8 ∧ iv = .int .i64 k ∧ nv = .int .i64 (manyI (tabs09.take k)) ∧ Below W.heap.size W wr) (fun _ iv _ => 8 - (intOf iv).toNat)
  case atStart => exact ⟨0, Nat.zero_le _, rfl, rfl, Below.refl _ _⟩
  case round =>
    obtain ⟨k, hk, rfl, rfl, hbw⟩ := hrel
    obtain ⟨wo, hwo⟩ : ∃ wo, wo = wr := ⟨_, rfl⟩
    subst hwo
    by_cases hlt : k < 8
    · have hh := (HA.out k hlt).below hbw
      have hcx := (hbw.cell (p := ⟨w8.heap.size, k, none⟩) HS.out.lt).trans (tb_get HS.out k (by rw [hlen]; exact hlt))
      have hok := HOK.out k hlt
      have hst := HST.out k hlt
      have hbd := HBD.out k (by omega)
      obtain ⟨T, hT⟩ : ∃ T, T = tabs09.getD k [] := ⟨_, rfl⟩
      rw [← hT] at hh hok hst
      obtain ⟨ao, cap, hv, hc⟩ := id hh.view
      rw [hv] at hh hcx
      obtain ⟨N0, hN0⟩ : ∃ N0, N0 = manyI (tabs09.take k) := ⟨_, rfl⟩
      rw [← hN0] at hst hbd ⊢
      have HC := Lib.hid hc
      have HOT := Lib.hid hok
      have HSTK := Lib.hid hst
      have HCX := Lib.hid hcx
      have hTl := (tabOk_at hok).1
      have hgl := HS.out.lt
      have hgl2 := hbw.size
      clear hh hv hT hc hok hst hN0
      go_wp2
      go_loopw [1, 4] (fun nv jv wi => ∃ j : Nat, j ≤ T.length ∧ jv = .int .i64 j ∧ nv = .int .i64 (manyN T j N0) ∧ Below wo.heap.size wo wi) (fun _ jv _ => T.length - (intOf jv).toNat)
      case atStart => exact ⟨0, Nat.zero_le _, rfl, rfl, Below.refl _ _⟩
      case round =>
        obtain ⟨j, hj, rfl, rfl, hbi⟩ := hrel
        have hcx := (hbi.cell (p := ⟨w8.heap.size, k, none⟩) (by show w8.heap.size < _; omega)).trans HCX.out
        by_cases hlt2 : j < T.length
        · obtain ⟨b, off, rfl, hb, c0, c1⟩ := HC.out j hlt2
          have c0 := (hbi.cell (p := ⟨b, off + j * 2, none⟩) hb).trans c0
          have c1 := (hbi.cell (p := ⟨b, off + j * 2 + 1, none⟩) hb).trans c1
          obtain ⟨a1, a2, a3⟩ := (tabOk_at HOT.out).2 j hlt2
          obtain ⟨d1, d2⟩ := many_bd HOT.out N0 j (by omega)
          have hs2 := many_succ T j N0 hlt2
          obtain ⟨p, hp⟩ : ∃ p, p = T.getD j (0, 0) := ⟨_, rfl⟩
          rw [← hp] at c0 c1 a1 a2 a3 hs2
          obtain ⟨x, y⟩ := p
          simp only at c0 c1 a1 a2 a3 hs2
          obtain ⟨N, hN⟩ : ∃ N, N = manyN T j N0 := ⟨_, rfl⟩
          rw [← hN] at d1 d2 hs2 ⊢
          have HS2 := Lib.hid hs2
          clear hp hN hs2
          go_wp2_with fail
          go_quiet (fail)
          go_wp2
          go_roundw
          case rel => exact ⟨j + 1, by omega, by go_num, by rw [HS2.out], hbi.drewN _⟩
          case measure => simp [intOf] <;> omega
        · obtain rfl : j = T.length := by omega
          have hb2 := hbw.trans (hbi.mono hbw.size)
          go_wp2
          go_roundw
          case rel => exact ⟨k + 1, by omega, by go_num, by rw [HSTK.out], hb2⟩
          case measure => simp [intOf] <;> omega
    · obtain rfl : k = 8 := by omega
      have hfin := hl.trans (hbw.mono hl.size)
      go_wp2
      go_ret
      exact ⟨ret_eq (by rw [HF.out]; try rfl), hfin⟩
end Go.Proofs.Ytgoeacmpphmnoaa
