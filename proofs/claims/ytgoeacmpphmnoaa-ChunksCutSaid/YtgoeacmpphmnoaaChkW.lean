/- works of layer 5; pieces put together are what was cut. -/
import Derived.Test.YtgoeacmpphmnoaaChkJ
import Derived.Test.YtgoeacmpphmnoaaUallQ
import Derived.Test.YtgoeacmpphmnoaaScalarR
import Derived.Test.YtgoeacmpphmnoaaRefPut
import Derived.Lib.SlBytesConst
import Derived.Lib.SmallJoins
namespace Go.Proofs.Ytgoeacmpphmnoaa
open Go.RowKit Go.ChangeShapes Go.WideShapes
open Go.Lib
theorem bytes_same (v u : Value) (L : List Int) (w : World) (hx : Held .u8 w v L) (hy : Held .u8 w u L) : Calls Try.prog 28 #[v, u] w fun e w' => e = .returned (.bool true) ∧ w = w' := by
  have := bytes_any v u L L w hx hy
  rw [beq_self_eq_true] at this
  exact this
theorem cut_flat_aux (b : List Int) : ∀ (P : List Int) (f : Int), 0 ≤ f → (∀ i, i < P.length → prevI f P i ≤ P.getD i 0 ∧ P.getD i 0 ≤ b.length) → P.getLast? = some (b.length : Int) → (cutP b f P).flatten = b.drop f.toNat
  | [], f, _, _, h => by simp at h
  | [p], f, h0, hi, h => by
    simp at h
    subst h
    have := hi 0 (by simp)
    have e : prevI f [(b.length : Int)] 0 = f := rfl
    rw [e] at this
    have e2 : [(b.length : Int)].getD 0 0 = b.length := rfl
    rw [e2] at this
    show pieceI b f b.length ++ [] = _
    rw [List.append_nil]
    unfold pieceI
    rw [List.take_of_length_le (by simp)]
  | p :: q :: ps, f, h0, hi, h => by
    have h1 := hi 0 (by simp)
    have e1 : prevI f (p :: q :: ps) 0 = f := rfl
    have e2 : (p :: q :: ps).getD 0 0 = p := rfl
    rw [e1, e2] at h1
    have ih := cut_flat_aux b (q :: ps) p (by omega) (fun i hl => by
      have := hi (i + 1) (by simp at hl ⊢; omega)
      have e3 : prevI f (p :: q :: ps) (i + 1) = prevI p (q :: ps) i := by
        unfold prevI
        rw [if_neg (by omega), Nat.add_sub_cancel]
        by_cases h0 : i = 0
        · subst h0; rfl
        · rw [if_neg h0]
          obtain ⟨j, rfl⟩ : ∃ j, i = j + 1 := ⟨i - 1, by omega⟩
          rfl
      rw [e3] at this
      exact this) (by simpa using h)
    show pieceI b f p ++ (cutP b p (q :: ps)).flatten = _
    rw [ih]
    unfold pieceI
    rw [show b.drop p.toNat = (b.drop f.toNat).drop (p.toNat - f.toNat) by rw [List.drop_drop]; congr 1; omega, List.take_append_drop]
theorem cut_flat (b at_ : List Int) : (cutB b at_).flatten = b := by
  unfold cutB
  rw [cut_flat_aux b _ 0 (Int.le_refl _) (fun i hi => (places_at b.length at_ i hi).2) (by unfold placesL; simp)]
  rfl
theorem cutB_len (b at_ : List Int) : (cutB b at_).length = at_.length + 1 := by unfold cutB; rw [cutP_len, places_len]
/-- A literal of rows. -/
theorem heldB_new (w : World) (us : List Value) (L : List (List Int)) (n cap : Nat) (hn : L.length = n) (hu : ∀ i, i < n → ∃ u, us[i]? = some u ∧ Held .u8 (w.alloc (.cells us.toArray 22)) u (L.getD i [])) : HeldB (w.alloc (.cells us.toArray 22)) (.slice (some ⟨w.heap.size, 0, none⟩) n cap) L := by
  subst hn
  refine ⟨_, cap, rfl, fun i hi => ?_⟩
  obtain ⟨u, h1, h2⟩ := hu i hi
  have := new_cells w us 22 i u h1
  rw [Addr.add_lit] at this
  exact ⟨_, _, u, rfl, by simp, this, h2⟩
theorem w5_cut : cutB [97, 98, 99, 100] [9, 1, -3] = [[], [97], [98, 99, 100], []] := by
  have h : isortL [4, 1, 0] = [0, 1, 4] := by simp [isortL, List.mergeSort]
  unfold cutB placesL
  rw [show (List.map (clampI ([97, 98, 99, 100] : List Int).length) [9, 1, -3]) = [4, 1, 0] by decide, h]
  decide
theorem w5_told : told ([[226], [], [130, 172]] : List (List Int)).flatten = [8364] := by decide
theorem w5_s1 : strOfNums (([[], [97], [98, 99, 100], []] : List (List Int)).getD 1 []) = ⟨#[97]⟩ := rfl
theorem w5_s2 : strOfNums (([[], [97], [98, 99, 100], []] : List (List Int)).getD 2 []) = ⟨#[98, 99, 100]⟩ := rfl
theorem w5_s3 : strOfNums (([[], [97], [98, 99, 100], []] : List (List Int)).flatten) = ⟨#[97, 98, 99, 100]⟩ := rfl
set_option maxRecDepth 100000 in
set_option maxHeartbeats 400000 in
theorem works5_any (w : World) : Calls Try.prog 25 #[] w (Yes w) := by
  have hcv := Go.Lib.run_convert_bytes_const (P := Try.prog) w 22 5 #[Value.int .u8 97, .int .u8 98, .int .u8 99, .int .u8 100] 4 4 Try.underlying22 Try.underlying5
  obtain ⟨W1, hW1⟩ : ∃ W1, W1 = w.alloc (.cells #[Value.int .u8 97, .int .u8 98, .int .u8 99, .int .u8 100] 5 (#[Value.int .u8 97, .int .u8 98, .int .u8 99, .int .u8 100].size, #[Value.int .u8 97, .int .u8 98, .int .u8 99, .int .u8 100].size + 1)) := ⟨_, rfl⟩
  have h1 : Held .u8 W1 (.slice (some ⟨w.heap.size, 0, none⟩) 4 4) [97, 98, 99, 100] := by
    rw [hW1]
    refine held_at (xs := [97, 98, 99, 100]) (by simp) fun i hi => ?_
    rw [Go.Joins.cell_alloc_mark_at w _ _ _ _ _ rfl]
    match i, hi with
    | 0, _ => rfl
    | 1, _ => rfl
    | 2, _ => rfl
    | 3, _ => rfl
  have b1 : Below w.heap.size w W1 := by rw [hW1]; exact (Below.refl _ _).alloc (Nat.le_refl _) _
  rw [← hW1] at hcv
  have E2 : W1.alloc (.cells #[Value.int .i64 9, .int .i64 1, .int .i64 (-3)] 3) = W1.alloc (.cells [Value.int .i64 9, .int .i64 1, .int .i64 (-3)].toArray 3) := rfl
  have b2 := b1.alloc b1.size (.cells [Value.int .i64 9, .int .i64 1, .int .i64 (-3)].toArray 3)
  have h2 := h1.below ((Below.refl W1.heap.size W1).alloc (Nat.le_refl _) (.cells [Value.int .i64 9, .int .i64 1, .int .i64 (-3)].toArray 3))
  have k2 := held_new .i64 W1 [Value.int .i64 9, .int .i64 1, .int .i64 (-3)] 3 3 3 [9, 1, -3] rfl rfl
  have HCT := Lib.hid (cut_any _ _ [97, 98, 99, 100] [9, 1, -3] _ h2 (capOk_of (Nat.le_refl _)) k2 (by decide) (by decide))
  have HB2 := Lib.hid b2
  have HW5 := Lib.hid w5_cut
  clear hW1 h1 b1 E2 b2 h2 k2
  go_enter Try.func25, Try.ntmps25
  go_wp2_with fail
  clear hcv
  refine HCT.out.mono ?_
  rintro e w1 ⟨v1, n1, rfl, hob, b3⟩
  rw [HW5.out] at hob
  have hb3 := HB2.out.trans (b3.mono HB2.out.size)
  have hhb := ownB_held hob
  obtain ⟨ao, cap, rfl⟩ := hhb.len
  obtain ⟨b, off, u1, rfl, hb, c1, hu1⟩ := hhb.spots 1 (by decide)
  obtain ⟨b', off', u2, e', _, c2, hu2⟩ := hhb.spots 2 (by decide)
  cases e'
  have t1 := held_text (P := Try.prog) hu1 22 5 9 Try.underlying22 Try.underlying5 Try.underlying9
  have t2 := held_text (P := Try.prog) hu2 22 5 9 Try.underlying22 Try.underlying5 Try.underlying9
  rw [w5_s1] at t1
  rw [w5_s2] at t2
  have HJ := Lib.hid (join_any _ _ w1 hhb (by decide) (by decide))
  have HB3 := Lib.hid hb3
  rw [show ([[], [97], [98, 99, 100], []] : List (List Int)).length = 4 from rfl] at HJ ⊢
  clear hob b3 hhb hu1 hu2 hb3
  go_wp2_with fail
  refine HJ.out.mono ?_
  rintro e w2 ⟨v2, rfl, ho2, b4⟩
  have hb4 := HB3.out.trans (b4.mono HB3.out.size)
  have h2 := held_of_owns ho2
  have t3 := held_text (P := Try.prog) h2 22 5 9 Try.underlying22 Try.underlying5 Try.underlying9
  rw [w5_s3] at t3
  obtain ⟨W3, hW3⟩ : ∃ W3, W3 = w2.alloc (.cells [Value.int .u8 226].toArray 5) := ⟨_, rfl⟩
  obtain ⟨W4, hW4⟩ : ∃ W4, W4 = W3.alloc (.cells [Value.int .u8 130, .int .u8 172].toArray 5) := ⟨_, rfl⟩
  have h3 : Held .u8 W3 (.slice (some ⟨w2.heap.size, 0, none⟩) 1 1) [226] := by rw [hW3]; exact held_new .u8 w2 _ 5 1 1 [226] rfl rfl
  have b3 : Below w2.heap.size w2 W3 := by rw [hW3]; exact (Below.refl _ _).alloc (Nat.le_refl _) _
  have h4 : Held .u8 W4 (.slice (some ⟨W3.heap.size, 0, none⟩) 2 2) [130, 172] := by rw [hW4]; exact held_new .u8 W3 _ 5 2 2 [130, 172] rfl rfl
  have b4' : Below W3.heap.size W3 W4 := by rw [hW4]; exact (Below.refl _ _).alloc (Nat.le_refl _) _
  have s3 : W3.heap.size = w2.heap.size + 1 := by rw [hW3]; simp
  have s4 : W4.heap.size = W3.heap.size + 1 := by rw [hW4]; simp
  have b5 := (Below.refl W4.heap.size W4).alloc (Nat.le_refl _) (.cells [Value.slice (some ⟨w2.heap.size, 0, none⟩) 1 1, .slice none 0 0, .slice (some ⟨W3.heap.size, 0, none⟩) 2 2].toArray 22)
  have hrows : HeldB (W4.alloc (.cells [Value.slice (some ⟨w2.heap.size, 0, none⟩) 1 1, .slice none 0 0, .slice (some ⟨W3.heap.size, 0, none⟩) 2 2].toArray 22)) (.slice (some ⟨W4.heap.size, 0, none⟩) 3 3) [[226], [], [130, 172]] := by
    refine heldB_new W4 _ _ 3 3 rfl fun i hi => ?_
    match i, hi with
    | 0, _ => exact ⟨_, rfl, (h3.below b4').below b5⟩
    | 1, _ => exact ⟨_, rfl, Held.nil .u8 _⟩
    | 2, _ => exact ⟨_, rfl, h4.below b5⟩
  have hb5 := ((hb4.trans (b3.mono hb4.size)).trans (b4'.mono (by have := hb4.size; omega))).trans (b5.mono (by have := hb4.size; omega))
  have HRD := Lib.hid (cread_any _ _ _ hrows (by decide) (by decide) (by decide))
  rw [w5_told, s4, s3] at HRD
  rw [s3] at hb5
  have E3 : w2.alloc (.cells #[Value.int .u8 226] 5) = W3 := hW3.symm
  have E4 : W3.alloc (.cells #[Value.int .u8 130, .int .u8 172] 5) = W4 := hW4.symm
  have HE3 := Lib.hid E3
  have HE4 := Lib.hid E4
  have HB5 := Lib.hid hb5
  have S3 := Lib.hid s3
  have S4 := Lib.hid s4
  clear s3 s4 hW3 hW4 h3 h4 b3 b4' b5 hrows hb5 E3 E4 ho2 h2 hb4 b4 HJ
  go_wp2_with fail
  rw [HE3.out, HE4.out]
  refine HRD.out.mono ?_
  rintro e w6 ⟨v6, rfl, h6, b6⟩
  have hb6 := HB5.out.trans (b6.mono HB5.out.size)
  have hs6 := same_any v6 _ [8364] [8364] _ (h6.below ((Below.refl w6.heap.size w6).alloc (Nat.le_refl _) (.cells [Value.int .i32 8364].toArray 21))) (held_new .i32 w6 [Value.int .i32 8364] 21 1 1 [8364] rfl rfl) (by decide)
  rw [sameB_self] at hs6
  have HS6 := Lib.hid hs6
  have hb7 := hb6.alloc hb6.size (.cells [Value.int .i32 8364].toArray 21)
  clear h6 b6 hs6 HRD hb6
  go_wp2_with fail
  refine HS6.out.mono ?_
  rintro e w8 ⟨rfl, b8⟩
  have hb8 := hb7.trans (b8.mono hb7.size)
  go_wp2
  go_ret
  exact ⟨(ret_eq (by first | rfl | (simp <;> omega))), hb8⟩
end Go.Proofs.Ytgoeacmpphmnoaa
