/- Contracts of spans: Sum. -/
import Derived.Test.YtmfoldohmbaikaaSpanN
import Derived.Test.YtmfoldohmbaikaaSpanI
namespace Go.Proofs.Ytmfoldohmbaikaa
open Go.RowKit Go.ChangeShapes Go.WideShapes
def HeldSS (w : World) (v : Value) (LL : List (List Sp)) : Prop :=
  ∃ ao cap, v = .slice ao LL.length cap ∧ ∀ i, i < LL.length → ∃ b off u, ao = some ⟨b, off, none⟩ ∧ b < w.heap.size ∧ w.cell? ⟨b, off + i, none⟩ = some u ∧ HeldS w u (LL.getD i [])
theorem HeldSS.below {w w' : World} {v : Value} {LL : List (List Sp)} (h : HeldSS w v LL) (hb : Below w.heap.size w w') : HeldSS w' v LL := by
  obtain ⟨ao, cap, rfl, hc⟩ := h
  refine ⟨ao, cap, rfl, fun i hi => ?_⟩
  obtain ⟨b, off, u, rfl, hlt, h1, h2⟩ := hc i hi
  exact ⟨b, off, u, rfl, by have := hb.size; omega, (hb.cell (p := ⟨b, _, none⟩) hlt).trans h1, h2.below hb⟩
theorem HeldSS.spots {w : World} {ao : Option Addr} {n cap : Nat} {LL : List (List Sp)} (h : HeldSS w (.slice ao n cap) LL) : ∀ i, i < LL.length → ∃ b off u, ao = some ⟨b, off, none⟩ ∧ b < w.heap.size ∧ w.cell? ⟨b, off + i, none⟩ = some u ∧ HeldS w u (LL.getD i []) := by
  obtain ⟨ao', cap', he, hc⟩ := h
  cases he
  exact hc
theorem HeldSS.len {w : World} {v : Value} {LL : List (List Sp)} (h : HeldSS w v LL) : ∃ ao cap, v = .slice ao LL.length cap := by
  obtain ⟨ao, cap, rfl, _⟩ := h
  exact ⟨ao, cap, rfl⟩
def turnsOf (T : List Sp) : List Tn := T.flatMap fun s => [(s.1, s.2.2), (s.2.1 + 1, -s.2.2)]
def tAll (LL : List (List Sp)) : List Tn := LL.flatMap turnsOf
theorem turnsOf_len (T : List Sp) : (turnsOf T).length = T.length * 2 := by
  induction T with
  | nil => rfl
  | cons s T ih => simp only [turnsOf, List.flatMap_cons, List.length_append, List.length_cons, List.length_nil] at *; omega
theorem turnsOf_app (T U : List Sp) : turnsOf (T ++ U) = turnsOf T ++ turnsOf U := by simp [turnsOf]
theorem tAll_app (T U : List (List Sp)) : tAll (T ++ U) = tAll T ++ tAll U := by simp [tAll]
theorem tnCells_app (T U : List Tn) : tnCells (T ++ U) = tnCells T ++ tnCells U := by simp [tnCells]
theorem take_one {α : Type} (T : List α) (k : Nat) (z : α) (h : k < T.length) : T.take (k + 1) = T.take k ++ [T.getD k z] := by
  rw [List.take_succ_eq_append_getElem h]; simp [List.getD, List.getElem?_eq_getElem h]
theorem right_mem {T : List Sp} (h : rightN T T.length = true) {s : Sp} (hs : s ∈ T) : 0 ≤ s.1 ∧ s.1 ≤ s.2.1 ∧ s.2.1 ≤ 1114111 ∧ 1 ≤ s.2.2 ∧ s.2.2 ≤ 65535 := by
  obtain ⟨i, hi, rfl⟩ := List.mem_iff_getElem.1 hs
  have h1 := right_at h hi
  have h2 := last_ge T i (right_down (Nat.le_of_lt hi) h)
  rw [getD_sp hi] at h1
  omega
theorem tAll_in {LL : List (List Sp)} (h : ∀ T ∈ LL, rightN T T.length = true) : ∀ t ∈ tAll LL, tnIn t := by
  intro t ht
  obtain ⟨T, hT, h1⟩ := List.mem_flatMap.1 ht
  obtain ⟨s, hs, h2⟩ := List.mem_flatMap.1 h1
  have := right_mem (h T hT) hs
  simp at h2
  unfold tnIn
  rcases h2 with rfl | rfl
  · simp only; omega
  · simp only; omega
theorem info_turn : (Try.prog.info? 98).map (fun i => (i.zero, i.size, i.bytes)) = some (some (.agg #[.int .i64 0, .int .i64 0]), 2, 16) := by kernel_rfl
def SumOk (w : World) (LL : List (List Sp)) (e : Ending) (w' : World) : Prop :=
  (∃ T, T ∈ LL ∧ rightN T T.length = false) ∧ PutOk w w.heap.size [] e w' ∨ (∀ T ∈ LL, rightN T T.length = true) ∧ ∃ L', L'.Perm (tAll LL) ∧ upT L' ∧ PutOk w w.heap.size (walkS [] 0 0 L') e w'
theorem own_mono {w : World} {B B' e size n : Nat} {v : Value} {xs : List Value} (h : w.ownsRow B' e size v n xs) (hB : B ≤ B') : w.ownsRow B e size v n xs := by
  refine ⟨h.1, ?_⟩
  rcases h.2 with hn | ⟨g, cap, cur, hv, hg, hrest⟩
  · exact .inl hn
  · exact .inr ⟨g, cap, cur, hv, Nat.le_trans hB hg, hrest⟩
theorem PutOk.mono {w w1 : World} {T : List Sp} {e : Ending} {w' : World} (h : PutOk w1 w1.heap.size T e w') (hb : Below w.heap.size w w1) : PutOk w w.heap.size T e w' := by
  obtain ⟨v', n, rfl, hn, ho, hb'⟩ := h
  exact ⟨v', n, rfl, hn, own_mono ho hb.size, hb.trans (hb'.mono hb.size)⟩
theorem getD_in {LL : List (List Sp)} {k : Nat} (h : k < LL.length) : LL.getD k [] ∈ LL := by
  have e : LL.getD k [] = LL[k] := by simp [List.getD, List.getElem?_eq_getElem h]
  rw [e]; exact List.getElem_mem h
theorem in_getD {LL : List (List Sp)} (h : ∀ j, j < LL.length → rightN (LL.getD j []) (LL.getD j []).length = true) : ∀ T ∈ LL, rightN T T.length = true := fun T hT => by
  obtain ⟨i, hi, rfl⟩ := List.mem_iff_getElem.1 hT
  have := h i hi
  rwa [show LL.getD i [] = LL[i] from by simp [List.getD, List.getElem?_eq_getElem hi]] at this
set_option maxRecDepth 100000 in
set_option maxHeartbeats 4000000 in
theorem sum_any (v : Value) (LL : List (List Sp)) (w : World) (hh : HeldSS w v LL) (hl : LL.length ≤ 1000) (hl2 : ∀ T ∈ LL, T.length ≤ 400) : Calls Try.prog 43 #[v] w (SumOk w LL) := by
  obtain ⟨ao, cap, rfl⟩ := hh.len
  have HH := Lib.hid hh
  have HL2 := Lib.hid hl2
  clear hh hl2
  go_enter Try.func43, Try.ntmps43
  go_wp2
  go_loopw [3, 10] (fun tv i wr => ∃ (k n : Nat) (L : List Tn), k ≤ LL.length ∧ i = .int .i64 k ∧ Go.RowKit.Hid (L = tAll (LL.take k)) ∧ Go.RowKit.Hid (n = L.length) ∧ n ≤ 800 * k ∧ wr.ownsRow w.heap.size 98 2 tv n (tnCells L) ∧ Go.RowKit.Hid (∀ j, j < k → rightN (LL.getD j []) (LL.getD j []).length = true) ∧ Below w.heap.size w wr) (fun _ i _ => LL.length - (intOf i).toNat)
  case atStart => exact ⟨0, 0, [], Nat.zero_le _, rfl, Lib.hid rfl, Lib.hid rfl, Nat.le_refl _, World.ownsRow_nil _ _ _ _, Lib.hid fun j hj => absurd hj (Nat.not_lt_zero _), Below.refl _ _⟩
  case round =>
    obtain ⟨k, n, L, hk, rfl, HLe, HN, hnk, hown, HR, hbw⟩ := hrel
    by_cases hlt : k < LL.length
    · obtain ⟨b, off, u, rfl, hb, c00, hT⟩ := HH.out.spots k hlt
      have c0 := (hbw.cell (p := ⟨b, off + k, none⟩) hb).trans c00
      have hmem := getD_in hlt
      have htk := take_one LL k [] hlt
      have htl := HL2.out _ hmem
      have hrs : rightN (LL.getD k []) (LL.getD k []).length = true → ∀ j, j < k + 1 → rightN (LL.getD j []) (LL.getD j []).length = true := fun h j hj => by
        rcases Nat.lt_or_ge j k with h1 | h1
        · exact HR.out j h1
        · have : j = k := by omega
          subst this; exact h
      obtain ⟨T, hTq⟩ : ∃ T, T = LL.getD k [] := ⟨_, rfl⟩
      rw [← hTq] at hT hmem htk htl hrs
      obtain ⟨ao', cap', rfl⟩ := hT.len
      have hL2 : tAll (LL.take (k + 1)) = L ++ turnsOf T := by rw [htk, tAll_app, ← HLe.out]; simp [tAll]
      have hrr := right_any _ T wr (hT.below hbw) (by omega)
      have HT := Lib.hid hT
      have HOW := Lib.hid hown
      have HB := Lib.hid hbw
      have HMEM := Lib.hid hmem
      have HRS := Lib.hid hrs
      have HL2' := Lib.hid hL2
      clear hT hTq hown hbw hmem htk hrs hL2 HR c00
      cases hr : rightN T T.length with
      | false =>
        rw [hr] at hrr
        have HRR := Lib.hid hrr
        have HF := Lib.hid hr
        clear hrr hr
        go_wp2_with (go_at_call 36; refine HRR.out.mono ?_; rintro e w1 ⟨rfl, hb1⟩)
        go_ret
        exact .inl ⟨⟨T, HMEM.out, HF.out⟩, _, 0, rfl, rfl, World.ownsRow_nil _ _ _ _, HB.out.trans (hb1.mono HB.out.size)⟩
      | true =>
        rw [hr] at hrr
        have HRR := Lib.hid hrr
        have HQ := Lib.hid hr
        clear hrr hr
        go_wp2_with (go_at_call 36; refine HRR.out.mono ?_; rintro e w1 ⟨rfl, hb1⟩)
        have HB1 := Lib.hid (HB.out.trans (hb1.mono HB.out.size))
        have HOW1 := Lib.hid (ownsRow_below HOW.out hb1)
        clear hb1
        go_loopw [3, 19] (fun tv i wr2 => ∃ (m n2 : Nat) (L2 : List Tn), m ≤ T.length ∧ i = .int .i64 m ∧ Go.RowKit.Hid (L2 = L ++ turnsOf (T.take m)) ∧ Go.RowKit.Hid (n2 = L2.length) ∧ n2 ≤ n + 2 * m ∧ wr2.ownsRow w.heap.size 98 2 tv n2 (tnCells L2) ∧ Below w.heap.size w wr2) (fun _ i _ => T.length - (intOf i).toNat)
        case atStart => exact ⟨0, n, L, Nat.zero_le _, rfl, Lib.hid (by simp [turnsOf]), HN, by omega, HOW1.out, HB1.out⟩
        case round =>
          obtain ⟨m, n2, L2, hm, rfl, HLe2, HN2, hn2, hown2, hb2⟩ := hrel
          by_cases hltm : m < T.length
          · obtain ⟨b2, off2, rfl, hbb, d0, d1, d2⟩ := (HT.out.below hb2).spots m hltm
            have hx := right_mem HQ.out (List.getElem_mem hltm)
            rw [← getD_sp hltm] at hx
            have htk2 := take_one T m z3 hltm
            obtain ⟨s, hs⟩ : ∃ s, s = T.getD m z3 := ⟨_, rfl⟩
            rw [← hs] at d0 d1 d2 hx htk2
            obtain ⟨lo, hi, val⟩ := s
            simp only at d0 d1 d2 hx
            have hS : L2 ++ [(lo, val), (hi + 1, -val)] = L ++ turnsOf (T.take (m + 1)) := by rw [htk2, turnsOf_app, HLe2.out, List.append_assoc]; rfl
            have hC : tnCells (L2 ++ [(lo, val), (hi + 1, -val)]) = tnCells L2 ++ [Value.int .i64 lo, .int .i64 val, .int .i64 (hi + 1), .int .i64 (-val)] := by rw [tnCells_app]; rfl
            have hNl : n2 + 2 = (L2 ++ [(lo, val), (hi + 1, -val)]).length := by rw [List.length_append, ← HN2.out]; rfl
            have r1 : IntKind.i64.wrap (hi + 1) = hi + 1 := by rw [IntKind.wrap_i64]; omega
            have r2 : IntKind.i64.wrap (-val) = -val := by rw [IntKind.wrap_i64]; omega
            have hown3 := hown2.alloc (.cells [Value.int .i64 lo, .int .i64 hi, .int .i64 val].toArray 61)
            have hb3 := hb2.alloc hb2.size (.cells [Value.int .i64 lo, .int .i64 hi, .int .i64 val].toArray 61)
            have hsz : (wr.alloc (.cells [Value.int .i64 lo, .int .i64 hi, .int .i64 val].toArray 61)).heap.size = wr.heap.size + 1 := by simp
            have hbz := hb3.size
            have HS := Lib.hid hS
            have HC := Lib.hid hC
            have HNL := Lib.hid hNl
            have HB3 := Lib.hid hb3
            clear hS hC hNl hs htk2 hown2 hb2 hb3 hx HN2 HLe2
            go_wp2_with (at_builtin; refine wpList_append_newK (wr.alloc (.cells [Value.int .i64 lo, .int .i64 hi, .int .i64 val].toArray 61)) rfl (.tmp 23) (.tmp 36) 96 rfl w.heap.size 98 (.agg #[.int .i64 0, .int .i64 0]) 2 16 Try.underlying96 info_turn rfl (by decide) u3 n2 (tnCells L2) rfl hown3 [.int .i64 lo, .int .i64 val, .int .i64 (hi + 1), .int .i64 (-val)] 2 2 (wr.heap.size + 1) hsz rfl rfl (by intro u hu; simp at hu; rcases hu with rfl | rfl | rfl | rfl <;> rfl) (by omega) (by omega) hbz ?_)
            intro v' w' hown' hb' hkp
            have HO' := Lib.hid hown'
            have HB' := Lib.hid hb'
            clear hkp hown' hb' hown3
            go_wp2
            go_roundw
            case rel => exact ⟨m + 1, n2 + 2, _, by omega, by go_num, HS, HNL, by omega, by rw [HC.out]; exact HO'.out, HB3.out.trans HB'.out⟩
            case measure => simp [intOf] <;> omega
          · obtain rfl : m = T.length := by omega
            have hle : L2 = tAll (LL.take (k + 1)) := by rw [HL2'.out, HLe2.out, List.take_length]
            have HLE := Lib.hid hle
            clear hle
            go_wp2
            go_roundw
            case rel => exact ⟨k + 1, n2, L2, by omega, by go_num, HLE, HN2, by omega, hown2, Lib.hid (HRS.out HQ.out), hb2⟩
            case measure => simp [intOf] <;> omega
    · obtain rfl : k = LL.length := by omega
      have hall := in_getD HR.out
      have hLe := HLe.out
      rw [List.take_length] at hLe
      have HA := Lib.hid hall
      have HLE := Lib.hid hLe
      have HB := Lib.hid hbw
      have HS := Lib.hid (sort_any _ L wr w.heap.size n HN.out hown hbw.size (by omega))
      have hnn : n ≤ 800000 := by omega
      clear hall hLe hown hbw
      go_wp2_with (go_at_call 68; refine HS.out.mono ?_; rintro e w1 ⟨L', rfl, hp, hu, ho, hb1⟩)
      have hb2 := HB.out.trans hb1
      have hlen := hp.length_eq
      rw [HLE.out] at hp
      refine (walk_any u3 L' w1 (heldN_of_owns ho) (by rw [hlen, ← HN.out]; omega) (fun t ht => tAll_in HA.out t (hp.mem_iff.1 ht))).mono ?_
      rintro e w2 hput
      have hput2 := PutOk.mono hput hb2
      obtain ⟨v', n', rfl, hn', ho', hb'⟩ := hput2
      have HN' := Lib.hid hn'
      have HO' := Lib.hid ho'
      clear hput hn' ho' ho hlen
      go_wp2
      go_ret
      exact .inr ⟨HA.out, L', hp, hu, v', n', rfl, HN'.out, HO'.out, hb'⟩
end Go.Proofs.Ytmfoldohmbaikaa
