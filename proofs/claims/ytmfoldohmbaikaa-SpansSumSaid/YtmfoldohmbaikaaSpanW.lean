/- Contracts of layer 6's works. -/
import Derived.Test.YtmfoldohmbaikaaSpanO
import Derived.Test.YtmfoldohmbaikaaSpanF
import Derived.Test.YtmfoldohmbaikaaFrame
namespace Go.Proofs.Ytmfoldohmbaikaa
open Go.RowKit Go.ChangeShapes Go.WideShapes
theorem up_pair {L : List Tn} (h : upT L) : L.Pairwise fun a b => a.1 ≤ b.1 := by
  refine List.pairwise_iff_getElem.2 fun i j hi hj hij => ?_
  have := h i j hij hj
  rwa [show L.getD i (0, 0) = L[i] from by simp [List.getD, List.getElem?_eq_getElem hi], show L.getD j (0, 0) = L[j] from by simp [List.getD, List.getElem?_eq_getElem hj]] at this
theorem sorted6 {L' : List Tn} (hp : L'.Perm (tAll [[(1, 5, 1)], [(4, 8, 2)]])) (hu : upT L') : L' = [(1, 1), (4, 2), (6, -1), (9, -2)] := by
  have e : tAll [[(1, 5, 1)], [(4, 8, 2)]] = [(1, 1), (6, -1), (4, 2), (9, -2)] := by decide
  rw [e] at hp
  have hp2 : L'.Perm [(1, 1), (4, 2), (6, -1), (9, -2)] := hp.trans (by decide)
  refine List.Perm.eq_of_pairwise (le := fun a b : Tn => a.1 ≤ b.1) ?_ (up_pair hu) (by decide) hp2
  intro a b ha hb h1 h2
  have ha' := hp2.mem_iff.1 ha
  simp at ha' hb
  rcases ha' with rfl | rfl | rfl | rfl <;> rcases hb with rfl | rfl | rfl | rfl <;> first | rfl | (exfalso; simp only at h1 h2; omega)
set_option maxRecDepth 100000 in
theorem sum6 (w : World) :
    Calls Try.prog 43 #[.slice (some ⟨w.heap.size + 2, 0, none⟩) 2 2]
      (((w.alloc (.cells [Value.int .i64 1, .int .i64 5, .int .i64 1].toArray 61)).alloc (.cells [Value.int .i64 4, .int .i64 8, .int .i64 2].toArray 61)).alloc (.cells [Value.slice (some ⟨w.heap.size, 0, none⟩) 1 1, .slice (some ⟨w.heap.size + 1, 0, none⟩) 1 1].toArray 55))
      (PutOk w w.heap.size [(1, 3, 1), (4, 5, 3), (6, 8, 2)]) := by
  obtain ⟨W1, h1⟩ : ∃ W1, W1 = w.alloc (.cells [Value.int .i64 1, .int .i64 5, .int .i64 1].toArray 61) := ⟨_, rfl⟩
  have s1 : W1.heap.size = w.heap.size + 1 := by rw [h1]; simp
  have k1 : HeldS W1 (.slice (some ⟨w.heap.size, 0, none⟩) 1 1) [(1, 5, 1)] := by rw [h1]; exact heldS_new w _ _ 1 1 [(1, 5, 1)] rfl rfl
  have b1 : Below w.heap.size w W1 := by rw [h1]; exact (Below.refl _ _).alloc (Nat.le_refl _) _
  rw [← h1]
  obtain ⟨W2, h2⟩ : ∃ W2, W2 = W1.alloc (.cells [Value.int .i64 4, .int .i64 8, .int .i64 2].toArray 61) := ⟨_, rfl⟩
  have s2 : W2.heap.size = w.heap.size + 2 := by rw [h2]; simp [s1]
  have b2 : Below W1.heap.size W1 W2 := by rw [h2]; exact (Below.refl _ _).alloc (Nat.le_refl _) _
  have k2 : HeldS W2 (.slice (some ⟨w.heap.size + 1, 0, none⟩) 1 1) [(4, 8, 2)] := by rw [h2, ← s1]; exact heldS_new W1 _ _ 1 1 [(4, 8, 2)] rfl rfl
  rw [← h2]
  obtain ⟨W3, h3⟩ : ∃ W3, W3 = W2.alloc (.cells [Value.slice (some ⟨w.heap.size, 0, none⟩) 1 1, .slice (some ⟨w.heap.size + 1, 0, none⟩) 1 1].toArray 55) := ⟨_, rfl⟩
  have b3 : Below W2.heap.size W2 W3 := by rw [h3]; exact (Below.refl _ _).alloc (Nat.le_refl _) _
  have hg : Has W3 (w.heap.size + 2) [Value.slice (some ⟨w.heap.size, 0, none⟩) 1 1, .slice (some ⟨w.heap.size + 1, 0, none⟩) 1 1] 55 := by rw [h3, ← s2]; exact Has.new W2 _ _
  rw [← h3]
  have hh : HeldSS W3 (.slice (some ⟨w.heap.size + 2, 0, none⟩) 2 2) [[(1, 5, 1)], [(4, 8, 2)]] := by
    refine ⟨_, 2, rfl, fun i hi => ?_⟩
    have hi' : i < 2 := hi
    match i, hi' with
    | 0, _ => exact ⟨_, 0, _, rfl, hg.lt, hg.cell 0 _ rfl, (k1.below b2).below b3⟩
    | 1, _ => exact ⟨_, 0, _, rfl, hg.lt, hg.cell 1 _ rfl, k2.below b3⟩
  have hb3 : Below w.heap.size w W3 := b1.trans ((b2.mono (by omega)).trans (b3.mono (by omega)))
  refine (sum_any _ [[(1, 5, 1)], [(4, 8, 2)]] W3 hh (by decide) (by decide)).mono ?_
  rintro e w' (⟨⟨T, hT, hr⟩, _⟩ | ⟨_, L', hp, hu, hput⟩)
  · simp only [List.mem_cons, List.not_mem_nil, or_false] at hT
    rcases hT with rfl | rfl <;> exact absurd hr (by decide)
  · rw [sorted6 hp hu, show walkS [] 0 0 [(1, 1), (4, 2), (6, -1), (9, -2)] = [(1, 3, 1), (4, 5, 3), (6, 8, 2)] from by decide] at hput
    exact PutOk.mono hput hb3
set_option maxRecDepth 100000 in
set_option maxHeartbeats 1000000 in
theorem works6_any (w : World) : Calls Try.prog 34 #[] w (Yes w) := by
  have HS := Lib.hid (sum6 w)
  go_enter Try.func34, Try.ntmps34
  go_wp2_with (go_at_call 43; refine HS.out.mono ?_; rintro e w1 ⟨v', n', rfl, hn', ho', hb1⟩)
  have hh := heldS_of_owns ho'
  obtain ⟨ao, cap, rfl⟩ := hh.len
  have HH := Lib.hid hh
  have HB1 := Lib.hid hb1
  obtain ⟨W2, h2⟩ : ∃ W2, W2 = w1.alloc (.cells [Value.int .i64 1, .int .i64 3, .int .i64 1, .int .i64 4, .int .i64 5, .int .i64 3, .int .i64 6, .int .i64 8, .int .i64 2].toArray 61) := ⟨_, rfl⟩
  have hk : HeldS W2 (.slice (some ⟨w1.heap.size, 0, none⟩) 3 3) [(1, 3, 1), (4, 5, 3), (6, 8, 2)] := by rw [h2]; exact heldS_new w1 _ _ 3 3 [(1, 3, 1), (4, 5, 3), (6, 8, 2)] rfl rfl
  have b2 : Below w1.heap.size w1 W2 := by rw [h2]; exact (Below.refl _ _).alloc (Nat.le_refl _) _
  have hs := same_any _ _ _ _ W2 (hh.below b2) hk (by decide) (by decide)
  rw [show decide ([((1 : Int), (3 : Int), (1 : Int)), (4, 5, 3), (6, 8, 2)] = [(1, 3, 1), (4, 5, 3), (6, 8, 2)]) = true from by decide] at hs
  have HSM := Lib.hid hs
  have HB2 := Lib.hid b2
  clear hs hk b2 hh ho' hn' hb1
  go_wp2_with fail
  rw [← h2]
  refine HSM.out.mono ?_
  rintro e w2 ⟨rfl, b3⟩
  have hb3 := HB1.out.trans ((HB2.out.trans (b3.mono HB2.out.size)).mono HB1.out.size)
  have hh2 := HH.out.below (HB2.out.trans (b3.mono HB2.out.size))
  have hc := count_any _ _ w2 hh2 (by decide)
  rw [show (if rightN [((1 : Int), (3 : Int), (1 : Int)), (4, 5, 3), (6, 8, 2)] [((1 : Int), (3 : Int), (1 : Int)), (4, 5, 3), (6, 8, 2)].length = true then cntN [((1 : Int), (3 : Int), (1 : Int)), (4, 5, 3), (6, 8, 2)] [((1 : Int), (3 : Int), (1 : Int)), (4, 5, 3), (6, 8, 2)].length else 0) = 8 from by decide] at hc
  have HC := Lib.hid hc
  have HH2 := Lib.hid hh2
  have HB3 := Lib.hid hb3
  clear hc hh2 hb3 b3 h2
  go_wp2_with fail
  refine HC.out.mono ?_
  rintro e w3 ⟨rfl, b4⟩
  have hb4 := HB3.out.trans (b4.mono HB3.out.size)
  have hf := find_any _ _ 5 w3 (HH2.out.below b4) (by decide)
  rw [show (if rightN [((1 : Int), (3 : Int), (1 : Int)), (4, 5, 3), (6, 8, 2)] [((1 : Int), (3 : Int), (1 : Int)), (4, 5, 3), (6, 8, 2)].length = true then findS [((1 : Int), (3 : Int), (1 : Int)), (4, 5, 3), (6, 8, 2)] 5 else 0) = 3 from by decide] at hf
  have HF := Lib.hid hf
  have HB4 := Lib.hid hb4
  clear hf hb4 b4
  go_wp2_with fail
  refine HF.out.mono ?_
  rintro e w4 ⟨rfl, b5⟩
  have hb5 := HB4.out.trans (b5.mono HB4.out.size)
  go_wp2
  go_ret
  exact ⟨(ret_eq (by first | rfl | (simp <;> omega))), hb5⟩
end Go.Proofs.Ytmfoldohmbaikaa
