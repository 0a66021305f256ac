/- The works of layer 57. -/
import Derived.Test.YtgkcobmbdpgceaaTbsD
import Derived.Test.YtgkcobmbdpgceaaMg2
import Derived.Test.YtgkcobmbdpgceaaMg1
namespace Go.Proofs.Ytgkcobmbdpgceaa
open Go.RowKit Go.ChangeShapes Go.WideShapes
theorem tw_exp : expC (ofF (everyL 4)) [97, 9, 98] = [97, 32, 32, 32, 98] := by decide +kernel
theorem tw_next : nextF (ofF (everyL 4)) 4 = 8 := by decide +kernel
theorem tw_prev : prevF (ofF (everyL 4)) 4 = 0 := by decide +kernel
theorem allF_nodup (F : Nat → Bool) (k : Nat) : (allF F k).Nodup := by
  unfold allF
  exact List.Pairwise.map _ (fun a b h e => h (by omega)) ((List.nodup_range (n := k)).filter F)
theorem allF_mem (F : Nat → Bool) (k : Nat) (x : Int) : x ∈ allF F k ↔ ∃ i : Nat, i < k ∧ F i = true ∧ x = (i : Int) := by
  unfold allF
  rw [List.mem_map]
  constructor
  · rintro ⟨i, h1, h2⟩
    rw [List.mem_filter, List.mem_range] at h1
    exact ⟨i, h1.1, h1.2, h2.symm⟩
  · rintro ⟨i, h1, h2, h3⟩
    exact ⟨i, by rw [List.mem_filter, List.mem_range]; exact ⟨h1, h2⟩, h3.symm⟩
theorem mulL_mem (n j : Nat) (x : Int) : x ∈ mulL n j ↔ ∃ i : Nat, i < j ∧ x = (((i + 1) * n : Nat) : Int) := by
  unfold mulL
  rw [List.mem_map]
  constructor
  · rintro ⟨i, h1, h2⟩
    rw [List.mem_range] at h1
    exact ⟨i, h1, h2.symm⟩
  · rintro ⟨i, h1, h2⟩
    exact ⟨i, by rw [List.mem_range]; exact h1, h2.symm⟩
theorem mulL_nodup (n j : Nat) (h : 1 ≤ n) : (mulL n j).Nodup := by
  unfold mulL
  refine List.Pairwise.map _ (fun a b h2 e => h2 ?_) (List.nodup_range (n := j))
  have h3 : (a + 1) * n = (b + 1) * n := by omega
  have := Nat.eq_of_mul_eq_mul_right (by omega) h3
  omega
/-- As many stops as there are numbers, if these can be stops and differ. -/
theorem allF_of (l : List Int) (hn : l.Nodup) (hb : ∀ x ∈ l, 1 ≤ x ∧ x ≤ 1023) : (allF (ofF l) 1024).length = l.length := by
  refine List.Perm.length_eq ((List.perm_ext_iff_of_nodup (allF_nodup _ _) hn).2 fun x => ?_)
  rw [allF_mem]
  constructor
  · rintro ⟨i, h1, h2, rfl⟩
    exact ((ofF_iff l i).1 h2).1
  · intro h
    have h2 := hb x h
    exact ⟨x.toNat, by omega, (ofF_iff l _).2 ⟨by rw [show ((x.toNat : Nat) : Int) = x from by omega]; exact h, by omega, by omega⟩, by omega⟩
theorem everyL_bd (W : Int) : ∀ x ∈ everyL W, 1 ≤ x ∧ x ≤ 1023 := by
  intro x hx
  unfold everyL at hx
  obtain ⟨i, h1, rfl⟩ := (mulL_mem _ _ _).1 hx
  have hb := evN_bd W
  have h2 : (i + 1) * evN W ≤ 1023 := Nat.le_trans (Nat.mul_le_mul_right _ (by omega)) (Nat.div_mul_le_self 1023 (evN W))
  have h3 : 1 * 1 ≤ (i + 1) * evN W := Nat.mul_le_mul (by omega) hb.1
  omega
theorem every_all (W : Int) : (allF (ofF (everyL W)) 1024).length = (everyL W).length := allF_of _ (mulL_nodup _ _ (evN_bd W).1) (everyL_bd W)
theorem tw_all : (allF (ofF (everyL 4)) 1024).length = 255 := by
  rw [every_all]
  unfold everyL
  rw [mulL_len]
  decide +kernel
set_option maxRecDepth 100000 in
set_option maxHeartbeats 1600000 in
theorem works57_any (w : World) : Calls Try.prog 28 #[] w (Yes w) := by
  have H1 := Lib.hid (tevery_any 4 w)
  have HT := Lib.hid (And.intro tw_exp (And.intro tw_next (And.intro tw_prev tw_all)))
  obtain ⟨F, hF⟩ : ∃ F, F = ofF (everyL 4) := ⟨_, rfl⟩
  rw [← hF] at H1 HT
  clear hF
  go_enter Try.func28, Try.ntmps28
  go_wp2_with fail
  refine H1.out.mono ?_
  rintro e w1 ⟨g, rfl, hg, hst, b1⟩
  have HB1 := Lib.hid b1
  have hb2 := (Below.refl w1.heap.size w1).alloc (Nat.le_refl _) (.cells #[.int .i32 97, .int .i32 9, .int .i32 98] 21)
  have hst2 : StAt (w1.alloc (.cells #[.int .i32 97, .int .i32 9, .int .i32 98] 21)) g F := Has.below hst hb2 (Has.lt hst)
  have h2 := texp_any g F (.slice (some ⟨w1.heap.size, 0, none⟩) 3 3) [97, 9, 98] _ hst2 (held_new .i32 w1 [.int .i32 97, .int .i32 9, .int .i32 98] 21 3 3 [97, 9, 98] rfl rfl) (by decide)
  rw [HT.out.1] at h2
  have H2 := Lib.hid h2
  have HB2 := Lib.hid (HB1.out.trans (hb2.mono HB1.out.size))
  have HST := Lib.hid hst2
  clear hst b1 hb2 hst2 h2 H1 hg
  go_wp2_with fail
  refine H2.out.mono ?_
  rintro e w3 ⟨v3, rfl, ho3, b3⟩
  have HB3 := Lib.hid (HB2.out.trans (b3.mono HB2.out.size))
  have HST3 := Lib.hid (show StAt w3 g F from Has.below HST.out b3 (Has.lt HST.out))
  have hh3 := held_of_owns ho3
  obtain ⟨a3, c3, e3⟩ := hh3.len
  have e3 : v3 = .slice a3 5 c3 := e3
  subst e3
  have b4 := (Below.refl w3.heap.size w3).alloc (Nat.le_refl _) (.cells #[.int .i32 97, .int .i32 32, .int .i32 32, .int .i32 32, .int .i32 98] 21)
  have h4 := same_any (.slice a3 5 c3) (.slice (some ⟨w3.heap.size, 0, none⟩) 5 5) [97, 32, 32, 32, 98] [97, 32, 32, 32, 98] _ (hh3.below b4) (held_new .i32 w3 [.int .i32 97, .int .i32 32, .int .i32 32, .int .i32 32, .int .i32 98] 21 5 5 [97, 32, 32, 32, 98] rfl rfl) (by decide)
  rw [sameB_self] at h4
  have H4 := Lib.hid h4
  have HB4 := Lib.hid (HB3.out.trans (b4.mono HB3.out.size))
  have HST4 := Lib.hid (show StAt _ g F from Has.below HST3.out b4 (Has.lt HST3.out))
  clear h4 b4 hh3 ho3 b3 H2
  go_wp2_with fail
  refine H4.out.mono ?_
  rintro e w5 ⟨rfl, b5⟩
  have HB5 := Lib.hid (HB4.out.trans (b5.mono HB4.out.size))
  have HST5 := Lib.hid (show StAt w5 g F from Has.below HST4.out b5 (Has.lt HST4.out))
  have h6 := tnext_any g F 4 w5 HST5.out
  rw [HT.out.2.1] at h6
  clear b5 H4
  go_wp2_with fail
  refine h6.mono ?_
  clear h6
  rintro e w6 ⟨rfl, rfl⟩
  have h7 := tprev_any g F 4 w5 HST5.out
  rw [HT.out.2.2.1] at h7
  go_wp2_with fail
  refine h7.mono ?_
  clear h7
  rintro e w7 ⟨rfl, rfl⟩
  have h8 := tall_any g F w5 HST5.out
  go_wp2_with fail
  refine h8.mono ?_
  clear h8
  rintro e w8 ⟨v8, rfl, ho8, b8⟩
  have HF := Lib.hid (HB5.out.trans (b8.mono HB5.out.size))
  obtain ⟨a8, c8, e8⟩ := (ho8.held (Z := fun _ => True) (fun _ _ _ => trivial)).len
  rw [HT.out.2.2.2] at e8
  subst e8
  clear ho8 b8
  go_wp2
  go_ret
  exact ⟨(ret_eq (by first | rfl | (simp <;> omega))), HF.out⟩
end Go.Proofs.Ytgkcobmbdpgceaa
