/- erase: rows made blank. -/
import Derived.Test.YtomfclkldmmmgaaDoorEraM
import Derived.Test.YtomfclkldmmmgaaDoorRowQ
import Derived.Test.YtomfclkldmmmgaaDoorCellO
import Derived.Lib.MinMax
namespace Go.Proofs.YtomfclkldmmmgaaDoor
open Go.RowKit Go.ChangeShapes Go.WideShapes
set_option maxRecDepth 100000 in
set_option maxHeartbeats 3000000 in
theorem erange_any (B g gc : Nat) (L : List Cl) (wrap : Bool) (f t : Int) (w : World) (h : RowAt (fun _ => True) w B g gc L wrap) : Calls Tryd.prog 38 #[.pointer (some ⟨g, 0, none⟩), .int .i64 f, .int .i64 t] w (RowTurned (fun _ => True) w B g gc (eraL L f t) (eraW L wrap f t)) := by
  have HR := Lib.hid h
  have HW := Lib.hid (rwide_any _ B g gc L wrap w h)
  obtain ⟨hl0, hl1, _⟩ := h.len
  have hlt := h.lt
  have HGL := Lib.hid hlt
  clear h hlt
  by_cases hc : max f 0 < min t L.length
  · obtain ⟨a, q, m, e1, e2, hq, hm, hle, e3, e4⟩ := era_parts hc
    rw [e3, e4]
    have hd : decide ((a : Int) < (q : Int)) = true := by simp; omega
    have hdn : decide (a < q) = true := by simp; omega
    have hs : IntKind.i64.wrap ((q : Int) - a) = (m : Int) := by rw [IntKind.wrap_i64]; omega
    have HBM := Lib.hid (show blankN (m : Int) = m by unfold blankN; omega)
    clear e3 e4 hc hq
    go_enter Tryd.func38, Tryd.ntmps38
    go_wp2_with fail
    refine HW.out.mono ?_
    rintro e w1 ⟨rfl, rfl⟩
    go_wp2_with fail
    refine (blanks_any (fun b => b ≠ g ∧ b ≠ gc) _ w).mono ?_
    rintro e w1 ⟨v1, rfl, ho1, b1⟩
    rw [HBM.out] at ho1
    have HP := Lib.hid (rpaint_ok (fun _ => True) (fun b => b ≠ g ∧ b ≠ gc) B g gc L (List.replicate m zc) wrap v1 w1 (HR.out.below b1) (ho1.held (fun b hb _ => by have := HGL.out; exact ⟨by omega, by omega⟩)) (fun _ h => h) (fun _ _ => trivial) a (by rw [List.length_replicate]; exact hle) (blank_sound m) (by rw [List.length_replicate]; exact hm))
    have HU := Lib.hid (Upd.ofBelow (S := fun b => b = g ∨ b = gc) b1)
    clear ho1 b1
    go_wp2_with fail
    refine HP.out.mono ?_
    rintro e w2 ⟨rfl, hr2, u2⟩
    have HE := Lib.hid (And.intro hr2 (HU.out.trans u2))
    clear hr2 u2
    go_wp2
    exact bodyPost_end (by kernel_rfl) rfl ⟨rfl, HE.out.1, HE.out.2⟩
  · obtain ⟨e3, e4⟩ := era_not hc
    rw [e3, e4]
    obtain ⟨A, hA⟩ : ∃ A, max f 0 = A := ⟨_, rfl⟩
    obtain ⟨Q, hQ⟩ : ∃ Q, min t (L.length : Int) = Q := ⟨_, rfl⟩
    rw [hA, hQ] at hc
    have hd : decide (A < Q) = false := by simp; omega
    clear e3 e4 hc
    go_enter Tryd.func38, Tryd.ntmps38
    go_wp2_with fail
    refine HW.out.mono ?_
    rintro e w1 ⟨rfl, rfl⟩
    go_wp2
    exact bodyPost_end (by kernel_rfl) rfl ⟨rfl, HR.out, Upd.refl _ _⟩
theorem erange_nil (f t : Int) (w : World) : Calls Tryd.prog 38 #[.pointer none, .int .i64 f, .int .i64 t] w fun e w' => e = .returned (.tuple #[]) ∧ w = w' := by
  obtain ⟨A, hA⟩ : ∃ A, max f 0 = A := ⟨_, rfl⟩
  obtain ⟨Q, hQ⟩ : ∃ Q, min t (0 : Int) = Q := ⟨_, rfl⟩
  have hd : decide (A < Q) = false := by simp; omega
  go_enter Tryd.func38, Tryd.ntmps38
  go_wp2_with fail
  refine (rwide_nil _).mono ?_
  rintro e w' ⟨rfl, rfl⟩
  go_wp2
  exact bodyPost_end (by kernel_rfl) rfl ⟨rfl, rfl⟩
set_option maxRecDepth 100000 in
theorem eleft_any (B g gc : Nat) (L : List Cl) (wrap : Bool) (a b : Int) (w : World) (h : RowAt (fun _ => True) w B g gc L wrap) : Calls Tryd.prog 84 #[.pointer (some ⟨g, 0, none⟩), .int .i64 a] w (RowTurned (fun _ => True) w B g gc (actL L wrap 1 a b).1 (actL L wrap 1 a b).2) := by
  have HR := Lib.hid h
  have HW := Lib.hid (rwide_any _ B g gc L wrap w h)
  obtain ⟨hl0, hl1, _⟩ := h.len
  unfold actL
  rw [if_neg (by decide), if_pos rfl]
  by_cases h0 : a < 0
  · rw [if_pos h0]
    have hd : decide (0 ≤ a) = false := by simp; omega
    clear h
    go_enter Tryd.func84, Tryd.ntmps84
    go_wp2
    exact bodyPost_end (by kernel_rfl) rfl ⟨rfl, HR.out, Upd.refl _ _⟩
  · rw [if_neg h0]
    have hd : decide (0 ≤ a) = true := by simp; omega
    obtain ⟨M, hM⟩ : ∃ M, min a (L.length : Int) = M := ⟨_, rfl⟩
    rw [hM]
    have hw1 : IntKind.i64.wrap (M + 1) = M + 1 := by rw [IntKind.wrap_i64]; omega
    have HE := Lib.hid (erange_any B g gc L wrap 0 (M + 1) w h)
    clear h
    go_enter Tryd.func84, Tryd.ntmps84
    go_wp2_with fail
    refine HW.out.mono ?_
    rintro e w1 ⟨rfl, rfl⟩
    go_wp2_with fail
    refine HE.out.mono ?_
    rintro e w1 ⟨rfl, hr, hu⟩
    have HE2 := Lib.hid (And.intro hr hu)
    clear hr hu
    go_wp2
    exact bodyPost_end (by kernel_rfl) rfl ⟨rfl, HE2.out.1, HE2.out.2⟩
theorem eleft_nil (a : Int) (w : World) : Calls Tryd.prog 84 #[.pointer none, .int .i64 a] w fun e w' => e = .returned (.tuple #[]) ∧ w = w' := by
  by_cases h0 : a < 0
  · have hd : decide (0 ≤ a) = false := by simp; omega
    go_enter Tryd.func84, Tryd.ntmps84
    go_wp2
    exact bodyPost_end (by kernel_rfl) rfl ⟨rfl, rfl⟩
  · have hd : decide (0 ≤ a) = true := by simp; omega
    have hM : min a (0 : Int) = 0 := by omega
    go_enter Tryd.func84, Tryd.ntmps84
    go_wp2_with fail
    refine (rwide_nil _).mono ?_
    rintro e w' ⟨rfl, rfl⟩
    go_wp2_with fail
    refine (erange_nil _ _ _).mono ?_
    rintro e w' ⟨rfl, rfl⟩
    go_wp2
    exact bodyPost_end (by kernel_rfl) rfl ⟨rfl, rfl⟩
set_option maxRecDepth 100000 in
theorem eright_any (B g gc : Nat) (L : List Cl) (wrap : Bool) (a b : Int) (w : World) (h : RowAt (fun _ => True) w B g gc L wrap) : Calls Tryd.prog 85 #[.pointer (some ⟨g, 0, none⟩), .int .i64 a] w (RowTurned (fun _ => True) w B g gc (actL L wrap 2 a b).1 (actL L wrap 2 a b).2) := by
  have HW := Lib.hid (rwide_any _ B g gc L wrap w h)
  have HE := Lib.hid (erange_any B g gc L wrap a L.length w h)
  unfold actL
  rw [if_neg (by decide), if_neg (by decide), if_pos rfl]
  clear h
  go_enter Tryd.func85, Tryd.ntmps85
  go_wp2_with fail
  refine HW.out.mono ?_
  rintro e w1 ⟨rfl, rfl⟩
  go_wp2_with fail
  refine HE.out.mono ?_
  rintro e w1 ⟨rfl, hr, hu⟩
  have HE2 := Lib.hid (And.intro hr hu)
  clear hr hu
  go_wp2
  exact bodyPost_end (by kernel_rfl) rfl ⟨rfl, HE2.out.1, HE2.out.2⟩
theorem eright_nil (a : Int) (w : World) : Calls Tryd.prog 85 #[.pointer none, .int .i64 a] w fun e w' => e = .returned (.tuple #[]) ∧ w = w' := by
  go_enter Tryd.func85, Tryd.ntmps85
  go_wp2_with fail
  refine (rwide_nil _).mono ?_
  rintro e w' ⟨rfl, rfl⟩
  go_wp2_with fail
  refine (erange_nil _ _ _).mono ?_
  rintro e w' ⟨rfl, rfl⟩
  go_wp2
  exact bodyPost_end (by kernel_rfl) rfl ⟨rfl, rfl⟩
set_option maxRecDepth 100000 in
theorem eall_any (B g gc : Nat) (L : List Cl) (wrap : Bool) (a b : Int) (w : World) (h : RowAt (fun _ => True) w B g gc L wrap) : Calls Tryd.prog 86 #[.pointer (some ⟨g, 0, none⟩)] w (RowTurned (fun _ => True) w B g gc (actL L wrap 3 a b).1 (actL L wrap 3 a b).2) := by
  have HW := Lib.hid (rwide_any _ B g gc L wrap w h)
  have HE := Lib.hid (erange_any B g gc L wrap 0 L.length w h)
  unfold actL
  rw [if_neg (by decide), if_neg (by decide), if_neg (by decide), if_pos rfl]
  clear h
  go_enter Tryd.func86, Tryd.ntmps86
  go_wp2_with fail
  refine HW.out.mono ?_
  rintro e w1 ⟨rfl, rfl⟩
  go_wp2_with fail
  refine HE.out.mono ?_
  rintro e w1 ⟨rfl, hr, hu⟩
  have HE2 := Lib.hid hu
  have HG := Lib.hid (rgoon_any _ B g gc _ _ false w1 hr)
  clear hr hu
  go_wp2_with fail
  refine HG.out.mono ?_
  rintro e w2 ⟨rfl, hr, hu⟩
  have HE3 := Lib.hid (And.intro hr (HE2.out.trans hu))
  clear hr hu
  go_wp2
  exact bodyPost_end (by kernel_rfl) rfl ⟨rfl, HE3.out.1, HE3.out.2⟩
theorem eall_nil (w : World) : Calls Tryd.prog 86 #[.pointer none] w fun e w' => e = .returned (.tuple #[]) ∧ w = w' := by
  go_enter Tryd.func86, Tryd.ntmps86
  go_wp2_with fail
  refine (rwide_nil _).mono ?_
  rintro e w' ⟨rfl, rfl⟩
  go_wp2_with fail
  refine (erange_nil _ _ _).mono ?_
  rintro e w' ⟨rfl, rfl⟩
  go_wp2_with fail
  refine (rgoon_nil _ _).mono ?_
  rintro e w' ⟨rfl, rfl⟩
  go_wp2
  exact bodyPost_end (by kernel_rfl) rfl ⟨rfl, rfl⟩
set_option maxRecDepth 100000 in
set_option maxHeartbeats 3000000 in
theorem ecells_any (B g gc : Nat) (L : List Cl) (wrap : Bool) (k a b : Int) (hk : k ≠ 0 ∧ k ≠ 1 ∧ k ≠ 2 ∧ k ≠ 3) (w : World) (h : RowAt (fun _ => True) w B g gc L wrap) : Calls Tryd.prog 83 #[.pointer (some ⟨g, 0, none⟩), .int .i64 a, .int .i64 b] w (RowTurned (fun _ => True) w B g gc (actL L wrap k a b).1 (actL L wrap k a b).2) := by
  have HR := Lib.hid h
  have HW := Lib.hid (rwide_any _ B g gc L wrap w h)
  obtain ⟨hl0, hl1, _⟩ := h.len
  unfold actL
  rw [if_neg hk.1, if_neg hk.2.1, if_neg hk.2.2.1, if_neg hk.2.2.2]
  by_cases hbad : a < 0 ∨ b < 1 ∨ (L.length : Int) ≤ a
  · rw [if_pos hbad]
    clear h hk
    by_cases h0 : a < 0
    · have hd : decide (a < 0) = true := by simp; omega
      clear hbad
      go_enter Tryd.func83, Tryd.ntmps83
      go_wp2
      exact bodyPost_end (by kernel_rfl) rfl ⟨rfl, HR.out, Upd.refl _ _⟩
    · have hd : decide (a < 0) = false := by simp; omega
      by_cases h1 : (L.length : Int) ≤ a
      · have hd1 : decide ((L.length : Int) ≤ a) = true := by simp; omega
        clear hbad
        go_enter Tryd.func83, Tryd.ntmps83
        go_wp2_with fail
        refine HW.out.mono ?_
        rintro e w1 ⟨rfl, rfl⟩
        go_wp2
        exact bodyPost_end (by kernel_rfl) rfl ⟨rfl, HR.out, Upd.refl _ _⟩
      · have hd1 : decide ((L.length : Int) ≤ a) = false := by simp; omega
        have hd2 : decide (b < 1) = true := by simp; omega
        clear hbad
        go_enter Tryd.func83, Tryd.ntmps83
        go_wp2_with fail
        refine HW.out.mono ?_
        rintro e w1 ⟨rfl, rfl⟩
        go_wp2
        exact bodyPost_end (by kernel_rfl) rfl ⟨rfl, HR.out, Upd.refl _ _⟩
  · rw [if_neg hbad]
    have hd : decide (a < 0) = false := by simp; omega
    have hd1 : decide ((L.length : Int) ≤ a) = false := by simp; omega
    have hd2 : decide (b < 1) = false := by simp; omega
    obtain ⟨M, hM⟩ : ∃ M, min b (L.length : Int) = M := ⟨_, rfl⟩
    rw [hM]
    have hw1 : IntKind.i64.wrap (a + M) = a + M := by rw [IntKind.wrap_i64]; omega
    have HE := Lib.hid (erange_any B g gc L wrap a (a + M) w h)
    clear h hk hbad
    go_enter Tryd.func83, Tryd.ntmps83
    go_wp2_with fail
    refine HW.out.mono ?_
    rintro e w1 ⟨rfl, rfl⟩
    go_wp2_with fail
    refine HW.out.mono ?_
    rintro e w1 ⟨rfl, rfl⟩
    go_wp2_with fail
    refine HE.out.mono ?_
    rintro e w1 ⟨rfl, hr, hu⟩
    have HE2 := Lib.hid (And.intro hr hu)
    clear hr hu
    go_wp2
    exact bodyPost_end (by kernel_rfl) rfl ⟨rfl, HE2.out.1, HE2.out.2⟩
theorem ecells_nil (a b : Int) (w : World) : Calls Tryd.prog 83 #[.pointer none, .int .i64 a, .int .i64 b] w fun e w' => e = .returned (.tuple #[]) ∧ w = w' := by
  by_cases h0 : a < 0
  · have hd : decide (a < 0) = true := by simp; omega
    go_enter Tryd.func83, Tryd.ntmps83
    go_wp2
    exact bodyPost_ret (by kernel_rfl) rfl ⟨rfl, rfl⟩
  · have hd : decide (a < 0) = false := by simp; omega
    have hd1 : decide (0 ≤ a) = true := by simp; omega
    go_enter Tryd.func83, Tryd.ntmps83
    go_wp2_with fail
    refine (rwide_nil _).mono ?_
    rintro e w' ⟨rfl, rfl⟩
    go_wp2
    exact bodyPost_ret (by kernel_rfl) rfl ⟨rfl, rfl⟩
end Go.Proofs.YtomfclkldmmmgaaDoor
