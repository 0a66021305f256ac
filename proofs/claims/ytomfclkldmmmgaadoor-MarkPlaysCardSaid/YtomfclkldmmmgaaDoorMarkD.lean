/- mark: At where there is no cluster; Add, Widen. -/
import Derived.Test.YtomfclkldmmmgaaDoorMarkC
import Derived.Deep.Cut
namespace Go.Proofs.YtomfclkldmmmgaaDoor
open Go.RowKit Go.ChangeShapes Go.WideShapes
abbrev noItem : Value := .tuple #[.int .i64 0, .agg #[.int .i64 0, .slice none 0 0], .bool false]
set_option maxRecDepth 100000 in
set_option maxHeartbeats 1000000 in
theorem mat_out (B g gc : Nat) (L : List Cl) (wrap : Bool) (col : Int) (w : World) (h : RowAt (fun _ => True) w B g gc L wrap) (hi : col < 0 ∨ (L.length : Int) ≤ col) : Calls Tryd.prog 82 #[.pointer (some ⟨g, 0, none⟩), .int .i64 col] w (Gives w noItem) := by
  obtain ⟨W0, hW0⟩ : ∃ W0, W0 = w.alloc (.cells #[.int .i64 0, .slice none 0 0] 113) := ⟨_, rfl⟩
  have hb0 : Below w.heap.size w W0 := by rw [hW0]; exact (Below.refl w.heap.size w).alloc (Nat.le_refl _) _
  have hr0 : Has W0 w.heap.size [.int .i64 0, .slice none 0 0] 113 := by rw [hW0]; exact Has.new w _ _
  have HC := Lib.hid (rcell_out _ _ _ _ _ _ col _ (h.below hb0) hi)
  have HB0 := Lib.hid hb0
  have HR0 := Lib.hid hr0
  subst hW0
  clear h hb0 hr0 hi
  go_enter Tryd.func82, Tryd.ntmps82
  go_wp2_with fail
  refine HC.out.mono ?_
  rintro e w1 ⟨rfl, b1⟩
  obtain ⟨W, hW⟩ : ∃ W, W = w1.alloc (.cells #[.int .i64 0, .slice none 0 0] 27) := ⟨_, rfl⟩
  have bW := b1.trans (show Below _ w1 W by rw [hW]; exact (Below.refl _ _).alloc b1.size _)
  have r2 := HR0.out.below bW HR0.out.lt
  have HB2 := Lib.hid (HB0.out.trans (bW.mono HB0.out.size))
  subst hW
  have k0 := r2.cell 0 _ rfl
  have k1 := r2.cell 1 _ rfl
  have f0 := r2.free 0
  have f1 := r2.free 1
  clear b1 bW r2
  go_wp2
  refine bodyPost_ret (v := noItem) (by simp [results, Tryd.results82, go_sem, k0, k1, f0, f1]) rfl ⟨rfl, ?_⟩
  exact ((HB2.out.setCell (by simp) _).setCell (by simp) _)
set_option maxRecDepth 100000 in
set_option maxHeartbeats 1000000 in
theorem mat_nil (col : Int) (w : World) : Calls Tryd.prog 82 #[.pointer none, .int .i64 col] w (Gives w noItem) := by
  obtain ⟨W0, hW0⟩ : ∃ W0, W0 = w.alloc (.cells #[.int .i64 0, .slice none 0 0] 113) := ⟨_, rfl⟩
  have hb0 : Below w.heap.size w W0 := by rw [hW0]; exact (Below.refl w.heap.size w).alloc (Nat.le_refl _) _
  have hr0 : Has W0 w.heap.size [.int .i64 0, .slice none 0 0] 113 := by rw [hW0]; exact Has.new w _ _
  have HC := Lib.hid (rcell_nil col W0)
  have HB0 := Lib.hid hb0
  have HR0 := Lib.hid hr0
  subst hW0
  clear hb0 hr0
  go_enter Tryd.func82, Tryd.ntmps82
  go_wp2_with fail
  refine HC.out.mono ?_
  rintro e w1 ⟨rfl, b1⟩
  obtain ⟨W, hW⟩ : ∃ W, W = w1.alloc (.cells #[.int .i64 0, .slice none 0 0] 27) := ⟨_, rfl⟩
  have bW := b1.trans (show Below _ w1 W by rw [hW]; exact (Below.refl _ _).alloc b1.size _)
  have r2 := HR0.out.below bW HR0.out.lt
  have HB2 := Lib.hid (HB0.out.trans (bW.mono HB0.out.size))
  subst hW
  have k0 := r2.cell 0 _ rfl
  have k1 := r2.cell 1 _ rfl
  have f0 := r2.free 0
  have f1 := r2.free 1
  clear b1 bW r2
  go_wp2
  refine bodyPost_ret (v := noItem) (by simp [results, Tryd.results82, go_sem, k0, k1, f0, f1]) rfl ⟨rfl, ?_⟩
  exact ((HB2.out.setCell (by simp) _).setCell (by simp) _)
set_option maxRecDepth 100000 in
set_option maxHeartbeats 1000000 in
theorem mat_blank (B g gc : Nat) (L : List Cl) (wrap : Bool) (k : Nat) (w : World) (h : RowAt (fun _ => True) w B g gc L wrap) (hk : k < L.length) (h0 : (L.getD k zc).1 = 0) : Calls Tryd.prog 82 #[.pointer (some ⟨g, 0, none⟩), .int .i64 k] w (Gives w noItem) := by
  obtain ⟨W0, hW0⟩ : ∃ W0, W0 = w.alloc (.cells #[.int .i64 0, .slice none 0 0] 113) := ⟨_, rfl⟩
  have hb0 : Below w.heap.size w W0 := by rw [hW0]; exact (Below.refl w.heap.size w).alloc (Nat.le_refl _) _
  have hr0 : Has W0 w.heap.size [.int .i64 0, .slice none 0 0] 113 := by rw [hW0]; exact Has.new w _ _
  have HC := Lib.hid (rcell_in _ _ _ _ _ _ k _ (h.below hb0) hk)
  have HB0 := Lib.hid hb0
  have HR0 := Lib.hid hr0
  generalize L.getD k zc = c at HC h0
  obtain ⟨K, T⟩ := c
  simp only at h0
  subst h0
  subst hW0
  clear h hb0 hr0 hk
  go_enter Tryd.func82, Tryd.ntmps82
  go_wp2_with fail
  refine HC.out.mono ?_
  rintro e w1 ⟨tv, rfl, ho1, b1⟩
  obtain ⟨ta, tc, rfl⟩ := ho1.len
  obtain ⟨W, hW⟩ : ∃ W, W = w1.alloc (.cells #[.int .i64 0, .slice ta T.length tc] 27) := ⟨_, rfl⟩
  have bW := b1.trans (show Below _ w1 W by rw [hW]; exact (Below.refl _ _).alloc b1.size _)
  have r2 := HR0.out.below bW HR0.out.lt
  have HB2 := Lib.hid (HB0.out.trans (bW.mono HB0.out.size))
  subst hW
  have k0 := r2.cell 0 _ rfl
  have k1 := r2.cell 1 _ rfl
  have f0 := r2.free 0
  have f1 := r2.free 1
  clear ho1 b1 bW r2
  go_wp2
  refine bodyPost_ret (v := noItem) (by simp [results, Tryd.results82, go_sem, k0, k1, f0, f1]) rfl ⟨rfl, ?_⟩
  exact ((HB2.out.setCell (by simp) _).setCell (by simp) _)
theorem mat_none (B g gc : Nat) (L : List Cl) (wrap : Bool) (col : Int) (w : World) (h : RowAt (fun _ => True) w B g gc L wrap) (hc : clAt L col < 0) : Calls Tryd.prog 82 #[.pointer (some ⟨g, 0, none⟩), .int .i64 col] w (Gives w noItem) := by
  by_cases ho : col < 0 ∨ (L.length : Int) ≤ col
  · exact mat_out B g gc L wrap col w h ho
  · obtain ⟨k, rfl⟩ := Int.eq_ofNat_of_zero_le (show 0 ≤ col by omega)
    have hk : k < L.length := by omega
    refine mat_blank B g gc L wrap k w h hk ?_
    have hs := h.len.2.2
    have hp := (sound_prop L).1 hs k hk
    by_cases h3 : (L.getD k zc).1 = 3
    · rw [cl_back hk h3] at hc
      have := (hp.2.2 h3).1
      omega
    · by_cases h0 : (L.getD k zc).1 = 0
      · exact h0
      · have e : clAt L (k : Int) = k := by
          rcases right_kinds hp.1 with h1 | h1
          · omega
          · exact cl_self hk h1.1
        omega
theorem mat_some (B g gc : Nat) (L : List Cl) (wrap : Bool) (col : Int) (w : World) (h : RowAt (fun _ => True) w B g gc L wrap) (k : Nat) (hk : k < L.length) (hc : ((L.getD k zc).1 = 1 ∧ col = k) ∨ ((L.getD k zc).1 = 2 ∧ k + 1 < L.length ∧ (col = k ∨ (col = k + 1 ∧ (L.getD (k + 1) zc).1 = 3)))) :
    Calls Tryd.prog 82 #[.pointer (some ⟨g, 0, none⟩), .int .i64 col] w (AtOwn w k (L.getD k zc)) := by
  rcases hc with ⟨h1, rfl⟩ | ⟨h2, h3, rfl | ⟨rfl, h4⟩⟩
  · exact mat_self B g gc L wrap k w h hk (.inl h1)
  · exact mat_self B g gc L wrap k w h hk (.inr h2)
  · exact mat_back B g gc L wrap k w h h3 h2 h4
end Go.Proofs.YtomfclkldmmmgaaDoor
