/- The works of layer 33. -/
import Derived.Test.YteolfknlcnihaaaDoorScrQ
import Derived.Test.YteolfknlcnihaaaDoorMg1
import Derived.Test.YteolfknlcnihaaaDoorCellP
import Derived.Test.YteolfknlcnihaaaDoorGrdE
namespace Go.Proofs.YteolfknlcnihaaaDoor
open Go.RowKit Go.ChangeShapes Go.WideShapes
theorem two_lines {Z : Zone} {w : World} {B : Nat} {a b : Value} {x y : Bool} {la lb : List Cl} (ha : HeldE cellE Z w a la) (hb : HeldE cellE Z w b lb) (hB : B ≤ w.heap.size) (hz : ∀ b, B ≤ b → Z b) : HeldE lineE Z (w.alloc (.cells #[a, .bool x, b, .bool y] 52)) (.slice (some ⟨w.heap.size, 0, none⟩) 2 2) [(la, x), (lb, y)] := by
  refine (OwnE.lit w lineE [[a, .bool x], [b, .bool y]] [(la, x), (lb, y)] 2 rfl rfl hB (by decide) (fun i hi => ?_) _ rfl).held (fun b hb _ => hz b hb)
  match i, hi with
  | 0, _ => exact line_rep.2 ⟨_, rfl, ha⟩
  | 1, _ => exact line_rep.2 ⟨_, rfl, hb⟩
set_option maxRecDepth 100000 in
set_option maxHeartbeats 3000000 in
theorem works33_any (w : World) : Calls Tryd.prog 19 #[] w (Yes w) := by
  obtain ⟨W1, hW1⟩ : ∃ W1, W1 = w.alloc (.cells #[.int .i32 97] 21) := ⟨_, rfl⟩
  obtain ⟨W2, hW2⟩ : ∃ W2, W2 = W1.alloc (.cells #[.int .i64 1, .slice (some ⟨w.heap.size, 0, none⟩) 1 1] 27) := ⟨_, rfl⟩
  obtain ⟨W3, hW3⟩ : ∃ W3, W3 = W2.alloc (.cells #[.slice (some ⟨w.heap.size + 1, 0, none⟩) 1 1, .bool false] 52) := ⟨_, rfl⟩
  have s1 : W1.heap.size = w.heap.size + 1 := by rw [hW1]; simp
  have s2 : W2.heap.size = w.heap.size + 2 := by rw [hW2]; simp [s1]
  have b1 : Below w.heap.size w W1 := by rw [hW1]; exact (Below.refl _ _).alloc (Nat.le_refl _) _
  have b2 : Below W1.heap.size W1 W2 := by rw [hW2]; exact (Below.refl _ _).alloc (Nat.le_refl _) _
  have b3 : Below W2.heap.size W2 W3 := by rw [hW3]; exact (Below.refl _ _).alloc (Nat.le_refl _) _
  have ht1 : HeldE (intE .i32) (fun b => w.heap.size ≤ b) W1 (.slice (some ⟨w.heap.size, 0, none⟩) 1 1) [97] := by rw [hW1]; exact heldE_one (Y := fun _ => False) [.int .i32 97] 97 rfl (fun _ _ h => h.elim) (Nat.le_refl _)
  have hc2 : HeldE cellE (fun b => w.heap.size ≤ b) W2 (.slice (some ⟨w.heap.size + 1, 0, none⟩) 1 1) [(1, [97])] := by
    have := (strip1_own (fun b => w.heap.size ≤ b) W1 (B := w.heap.size) 1 _ [97] ht1 (by omega)).held (fun b h _ => h)
    rw [← hW2, s1] at this
    exact this
  have hH3 : Has W3 (w.heap.size + 2) [.slice (some ⟨w.heap.size + 1, 0, none⟩) 1 1, .bool false] 52 := by rw [hW3, ← s2]; exact Has.new W2 _ _
  have HC := Lib.hid (hc2.below b3)
  have HH := Lib.hid hH3
  have HB := Lib.hid ((b1.trans (b2.mono b1.size)).trans (b3.mono (by omega)))
  have HSZ := Lib.hid (show w.heap.size + 3 = W3.heap.size by rw [hW3]; simp [s2])
  have HW3 := Lib.hid (show W3 = ((w.alloc (.cells #[.int .i32 97] 21)).alloc (.cells #[.int .i64 1, .slice (some ⟨w.heap.size, 0, none⟩) 1 1] 27)).alloc (.cells #[.slice (some ⟨w.heap.size + 1, 0, none⟩) 1 1, .bool false] 52) by rw [hW3, hW2, hW1])
  obtain ⟨i0, hi, hz0, hz1, hz2⟩ := info_parts info_cell
  have HI := Lib.hid (And.intro hi (And.intro hz0 (And.intro hz1 hz2)))
  clear hW1 hW2 hW3 s1 s2 b1 b2 b3 ht1 hc2 hH3 hi hz0 hz1 hz2
  go_enter Tryd.func19, Tryd.ntmps19
  go_upto_region 2 with (fail)
  rw [← HW3.out]
  clear HW3
  obtain ⟨Erg, hErg⟩ : ∃ EE : Nat → Value → World → Prop, EE = fun jj xx ww => match jj with
      | 0 => (fun x w' => HeldE cellE (fun b => w.heap.size ≤ b) w' x [zc]) xx ww
      | 1 => (fun x w' => ∃ v9, x = .agg #[v9, .bool false] ∧ HeldE cellE (fun b => w.heap.size ≤ b) w' v9 [zc]) xx ww
      | 2 => xx = .agg #[.slice (some ⟨w.heap.size + 1, 0, none⟩) 1 1, .bool false]
      | 3 => (fun x w' => HeldE lineE (fun b => w.heap.size ≤ b) w' x [([zc], false), ([(1, [97])], false)]) xx ww
      | 4 => (fun x w' => ∃ B gg gr Rs, x = .tuple #[.pointer (some ⟨gg, 0, none⟩), .nilIface] ∧ GridAt w' B gg gr 1 Rs ∧ Rs.map lineOf = [([zc], false), ([(1, [97])], false)] ∧ W3.heap.size ≤ B) xx ww
      | 5 => (fun x w' => ∃ B gg gr Rs, x = .tuple #[.pointer (some ⟨gg, 0, none⟩), .nilIface] ∧ GridAt w' B gg gr 1 Rs ∧ Rs.map lineOf = [([zc], false), ([(1, [97])], false)] ∧ W3.heap.size ≤ B) xx ww
      | 6 => (fun x w' => ∃ B gg gr Rs, x = .pointer (some ⟨gg, 0, none⟩) ∧ GridAt w' B gg gr 1 Rs ∧ Rs.map lineOf = [([zc], false), ([(1, [97])], false)] ∧ W3.heap.size ≤ B) xx ww
      | 7 => xx = .nilIface
      | 8 => (fun x w' => ∃ B gg gr Rs, x = .pointer (some ⟨gg, 0, none⟩) ∧ GridAt w' B gg gr 1 Rs ∧ Rs.map lineOf = [([zc], false), ([(1, [97])], false)] ∧ W3.heap.size ≤ B) xx ww
      | 9 => xx = .nilIface
      | _ => True := ⟨_, rfl⟩
  have erg0 : ∀ xx ww, Erg 0 xx ww = ((fun x w' => HeldE cellE (fun b => w.heap.size ≤ b) w' x [zc]) xx ww) := fun xx ww => congrFun (congrFun (congrFun hErg 0) xx) ww
  have erg1 : ∀ xx ww, Erg 1 xx ww = ((fun x w' => ∃ v9, x = .agg #[v9, .bool false] ∧ HeldE cellE (fun b => w.heap.size ≤ b) w' v9 [zc]) xx ww) := fun xx ww => congrFun (congrFun (congrFun hErg 1) xx) ww
  have erg2 : ∀ xx ww, Erg 2 xx ww = (xx = .agg #[.slice (some ⟨w.heap.size + 1, 0, none⟩) 1 1, .bool false]) := fun xx ww => congrFun (congrFun (congrFun hErg 2) xx) ww
  have erg3 : ∀ xx ww, Erg 3 xx ww = ((fun x w' => HeldE lineE (fun b => w.heap.size ≤ b) w' x [([zc], false), ([(1, [97])], false)]) xx ww) := fun xx ww => congrFun (congrFun (congrFun hErg 3) xx) ww
  have erg4 : ∀ xx ww, Erg 4 xx ww = ((fun x w' => ∃ B gg gr Rs, x = .tuple #[.pointer (some ⟨gg, 0, none⟩), .nilIface] ∧ GridAt w' B gg gr 1 Rs ∧ Rs.map lineOf = [([zc], false), ([(1, [97])], false)] ∧ W3.heap.size ≤ B) xx ww) := fun xx ww => congrFun (congrFun (congrFun hErg 4) xx) ww
  have erg5 : ∀ xx ww, Erg 5 xx ww = ((fun x w' => ∃ B gg gr Rs, x = .tuple #[.pointer (some ⟨gg, 0, none⟩), .nilIface] ∧ GridAt w' B gg gr 1 Rs ∧ Rs.map lineOf = [([zc], false), ([(1, [97])], false)] ∧ W3.heap.size ≤ B) xx ww) := fun xx ww => congrFun (congrFun (congrFun hErg 5) xx) ww
  have erg6 : ∀ xx ww, Erg 6 xx ww = ((fun x w' => ∃ B gg gr Rs, x = .pointer (some ⟨gg, 0, none⟩) ∧ GridAt w' B gg gr 1 Rs ∧ Rs.map lineOf = [([zc], false), ([(1, [97])], false)] ∧ W3.heap.size ≤ B) xx ww) := fun xx ww => congrFun (congrFun (congrFun hErg 6) xx) ww
  have erg7 : ∀ xx ww, Erg 7 xx ww = (xx = .nilIface) := fun xx ww => congrFun (congrFun (congrFun hErg 7) xx) ww
  have erg8 : ∀ xx ww, Erg 8 xx ww = ((fun x w' => ∃ B gg gr Rs, x = .pointer (some ⟨gg, 0, none⟩) ∧ GridAt w' B gg gr 1 Rs ∧ Rs.map lineOf = [([zc], false), ([(1, [97])], false)] ∧ W3.heap.size ≤ B) xx ww) := fun xx ww => congrFun (congrFun (congrFun hErg 8) xx) ww
  have erg9 : ∀ xx ww, Erg 9 xx ww = (xx = .nilIface) := fun xx ww => congrFun (congrFun (congrFun hErg 9) xx) ww
  obtain ⟨Crg, hCrg⟩ : ∃ CC : Array Bool → World → Prop, CC = fun L8 w' => Below W3.heap.size W3 w' := ⟨_, rfl⟩
  have krg : ∀ i L w,  Crg L w → Crg (L.setIfInBounds i true) w := by
    intro i L w  h
    rw [hCrg] at h ⊢
    exact h
  obtain ⟨Xrg, hXrg⟩ : ∃ XX : World → World → Prop, XX = fun x y => Below x.heap.size x y := ⟨_, rfl⟩
  have xrg : ∀ w, Xrg w w := fun w => by rw [hXrg]; exact Below.refl _ _
  have strg : ∀ j x w w1, Xrg w w1 → Erg j x w → Erg j x w1 := by
    intro j x w w1 hx h
    rw [hXrg] at hx
    match j with
    | 0 => rw [erg0] at h ⊢; (first | exact HeldE.below h hx | (obtain ⟨v9, e9, h9⟩ := h; exact ⟨v9, e9, HeldE.below h9 hx⟩) | (obtain ⟨B, gg, gr, Rs, e9, h8, h9, h10⟩ := h; exact ⟨B, gg, gr, Rs, e9, h8.below hx, h9, h10⟩))
    | 1 => rw [erg1] at h ⊢; (first | exact HeldE.below h hx | (obtain ⟨v9, e9, h9⟩ := h; exact ⟨v9, e9, HeldE.below h9 hx⟩) | (obtain ⟨B, gg, gr, Rs, e9, h8, h9, h10⟩ := h; exact ⟨B, gg, gr, Rs, e9, h8.below hx, h9, h10⟩))
    | 2 => rw [erg2] at h ⊢; exact h
    | 3 => rw [erg3] at h ⊢; (first | exact HeldE.below h hx | (obtain ⟨v9, e9, h9⟩ := h; exact ⟨v9, e9, HeldE.below h9 hx⟩) | (obtain ⟨B, gg, gr, Rs, e9, h8, h9, h10⟩ := h; exact ⟨B, gg, gr, Rs, e9, h8.below hx, h9, h10⟩))
    | 4 => rw [erg4] at h ⊢; (first | exact HeldE.below h hx | (obtain ⟨v9, e9, h9⟩ := h; exact ⟨v9, e9, HeldE.below h9 hx⟩) | (obtain ⟨B, gg, gr, Rs, e9, h8, h9, h10⟩ := h; exact ⟨B, gg, gr, Rs, e9, h8.below hx, h9, h10⟩))
    | 5 => rw [erg5] at h ⊢; (first | exact HeldE.below h hx | (obtain ⟨v9, e9, h9⟩ := h; exact ⟨v9, e9, HeldE.below h9 hx⟩) | (obtain ⟨B, gg, gr, Rs, e9, h8, h9, h10⟩ := h; exact ⟨B, gg, gr, Rs, e9, h8.below hx, h9, h10⟩))
    | 6 => rw [erg6] at h ⊢; (first | exact HeldE.below h hx | (obtain ⟨v9, e9, h9⟩ := h; exact ⟨v9, e9, HeldE.below h9 hx⟩) | (obtain ⟨B, gg, gr, Rs, e9, h8, h9, h10⟩ := h; exact ⟨B, gg, gr, Rs, e9, h8.below hx, h9, h10⟩))
    | 7 => rw [erg7] at h ⊢; exact h
    | 8 => rw [erg8] at h ⊢; (first | exact HeldE.below h hx | (obtain ⟨v9, e9, h9⟩ := h; exact ⟨v9, e9, HeldE.below h9 hx⟩) | (obtain ⟨B, gg, gr, Rs, e9, h8, h9, h10⟩ := h; exact ⟨B, gg, gr, Rs, e9, h8.below hx, h9, h10⟩))
    | 9 => rw [erg9] at h ⊢; exact h
    | j + 10 => rw [hErg]; trivial
  have crg : Crg (Array.replicate 10 false) W3.drew := by rw [hCrg]; exact (Below.refl _ _).drew
  have brg : ∀ L w w1, Crg L w → Below w.heap.size w w1 → Crg L w1 := by
    intro L w w1 h hb
    rw [hCrg] at h ⊢
    exact h.trans (hb.mono h.size)
  have xbrg : ∀ w w1, Below w.heap.size w w1 → Xrg w w1 := by
    intro w w1 hb
    rw [hXrg]
    exact hb
  have Hrgb := Lib.hid brg
  have Hrgxb := Lib.hid xbrg
  clear brg xbrg
  clear hErg
  have Hrgk := Lib.hid krg
  have Hrgx := Lib.hid xrg
  have Hrgst := Lib.hid strg
  have Hrgc := Lib.hid crg
  have HrghC := Lib.hid hCrg
  have HrghX := Lib.hid hXrg
  have Hrge0 := Lib.hid erg0
  have Hrge1 := Lib.hid erg1
  have Hrge2 := Lib.hid erg2
  have Hrge3 := Lib.hid erg3
  have Hrge4 := Lib.hid erg4
  have Hrge5 := Lib.hid erg5
  have Hrge6 := Lib.hid erg6
  have Hrge7 := Lib.hid erg7
  have Hrge8 := Lib.hid erg8
  have Hrge9 := Lib.hid erg9
  clear krg xrg strg crg hCrg hXrg erg0 erg1 erg2 erg3 erg4 erg5 erg6 erg7 erg8 erg9
  go_wp2_with fail
  refine Reg.regionF Erg Crg Xrg Hrgst.out (by kernel_rfl) (by kernel_rfl) (by kernel_rfl) Hrgc.out (fun Frg hFrg => ?_)
  simp only [Reg.frame, Reg.dsts, List.map_cons, List.map_nil, Mix.put_lit, List.set_cons_succ, List.set_cons_zero, Nat.zero_add, Nat.reduceAdd] at hFrg
  refine ⟨?_, ?_⟩
  · refine ⟨?_, ?_, ?_, ?_, ?_, ?_, ?_, ?_, ?_, ?_, trivial⟩
    · intro Lq wq xq hh
      simp only [hFrg]
      refine .inl ⟨rfl, ?_⟩
      unfold Reg.upon
      have hc0 : Crg Lq wq := hh.cls
      rw [HrghC.out] at hc0
      obtain ⟨w9, hrun, r1, r2⟩ := run_make_full (P := Tryd.prog) wq wq.heap.size 22 27 i0 (.agg #[.int .i64 0, .slice none 0 0]) 2 Tryd.underlying22 HI.out.1 HI.out.2.1 HI.out.2.2.1 .i64 .i64 1 (by rw [HI.out.2.2.2]; omega) (by unfold maxLen; omega) (Nat.le_refl _)
      rw [show ((1 : Nat) : Int) = 1 from rfl] at hrun
      go_simp
      have hb9 : Below wq.heap.size wq w9 := (Below.refl _ _).grown r2 (Nat.le_refl _) (by intro k hk; cases hk)
      refine ⟨Hrgk.out 0 Lq w9 (Hrgb.out Lq wq w9 hh.cls hb9), ?_, Hrgxb.out wq w9 hb9⟩
      rw [Hrge0.out]
      exact (blank_held r1).zone (fun b _ e => by have := hc0.size; have := HSZ.out; omega)
    · intro Lq wq xq hh
      have d0 : Erg 0 (xq 0) wq := hh.val 0 (by kernel_rfl) (by kernel_rfl)
      rw [Hrge0.out] at d0
      simp only [hFrg]
      refine .inl ⟨rfl, ?_⟩
      unfold Reg.upon
      obtain ⟨a9, c9, e9⟩ := d0.len
      rw [e9] at d0 ⊢
      go_simp
      exact ⟨Hrgk.out 1 Lq wq hh.cls, (by rw [Hrge1.out]; exact ⟨_, rfl, d0⟩), Hrgx.out _⟩
    · intro Lq wq xq hh
      simp only [hFrg]
      refine .inl ⟨rfl, ?_⟩
      unfold Reg.upon
      have hc : Crg Lq wq := hh.cls
      rw [HrghC.out] at hc
      have hbx := HH.out.below hc (by have := HSZ.out; omega)
      have q0 := hbx.cell 0 _ rfl
      have q1 := hbx.cell 1 _ rfl
      clear hc
      have hk := Hrgk.out 2 Lq wq  hh.cls
      have hx := Hrgx.out wq
      have he : Erg 2 (.agg #[.slice (some ⟨w.heap.size + 1, 0, none⟩) 1 1, .bool false]) wq := by rw [Hrge2.out]
      have HK := Lib.hid (And.intro hk (And.intro he hx))
      clear hk hx he
      go_simp
      exact HK.out
    · intro Lq wq xq hh
      have d1 : Erg 1 (xq 1) wq := hh.val 1 (by kernel_rfl) (by kernel_rfl)
      rw [Hrge1.out] at d1
      have d2 : Erg 2 (xq 2) wq := hh.val 2 (by kernel_rfl) (by kernel_rfl)
      rw [Hrge2.out] at d2
      simp only [hFrg, d2]
      clear d2
      refine .inl ⟨rfl, ?_⟩
      unfold Reg.upon
      obtain ⟨v9, e9, h9⟩ := d1
      obtain ⟨a9, c9, e8⟩ := h9.len
      rw [e9]
      subst e8
      have hc3 : Crg Lq wq := hh.cls
      rw [HrghC.out] at hc3
      have hb1 := (Below.refl wq.heap.size wq).alloc (Nat.le_refl _) (.cells #[.slice a9 [zc].length c9, .bool false, .slice (some ⟨w.heap.size + 1, 0, none⟩) 1 1, .bool false] 52)
      have ho := two_lines (x := false) (y := false) (B := w.heap.size) h9 (HC.out.below hc3) (by have := hc3.size; have := HSZ.out; omega) (fun _ h => h)
      go_simp
      refine ⟨Hrgk.out 3 Lq _ (Hrgb.out Lq wq _ hh.cls hb1), ?_, Hrgxb.out wq _ hb1⟩
      rw [Hrge3.out]
      exact ho
    · intro Lq wq xq hh
      have d3 : Erg 3 (xq 3) wq := hh.val 3 (by kernel_rfl) (by kernel_rfl)
      rw [Hrge3.out] at d3
      simp only [hFrg]
      refine .inl ⟨rfl, ?_⟩
      unfold Reg.upon
      have hc : Crg Lq wq := hh.cls
      rw [HrghC.out] at hc
      go_simp
      refine (gof_good _ _ _ wq (by intro k hk; match k, hk with | 0, _ => rfl | 1, _ => rfl) d3 (by decide) (by decide)).mono ?_
      rintro e w2 ⟨gg, gr, Rs, rfl, hg, hm, hb⟩
      refine ⟨_, rfl, Hrgk.out 4 Lq w2 (Hrgb.out Lq wq w2 hh.cls hb), ?_, Hrgxb.out wq w2 hb⟩
      rw [Hrge4.out]
      exact ⟨_, gg, gr, Rs, rfl, hg, hm, hc.size⟩
    · intro Lq wq xq hh
      have d4 : Erg 4 (xq 4) wq := hh.val 4 (by kernel_rfl) (by kernel_rfl)
      rw [Hrge4.out] at d4
      simp only [hFrg]
      refine .inl ⟨rfl, ?_⟩
      unfold Reg.upon
      go_simp
      exact ⟨Hrgk.out 5 Lq wq hh.cls, (by rw [Hrge5.out]; exact d4), Hrgx.out _⟩
    · intro Lq wq xq hh
      have d5 : Erg 5 (xq 5) wq := hh.val 5 (by kernel_rfl) (by kernel_rfl)
      rw [Hrge5.out] at d5
      simp only [hFrg]
      refine .inl ⟨rfl, ?_⟩
      unfold Reg.upon
      obtain ⟨B, gg, gr, Rs, e9, h8, h9, h10⟩ := d5
      rw [e9]
      go_simp
      exact ⟨Hrgk.out 6 Lq wq hh.cls, (by rw [Hrge6.out]; exact ⟨B, gg, gr, Rs, rfl, h8, h9, h10⟩), Hrgx.out _⟩
    · intro Lq wq xq hh
      have d5 : Erg 5 (xq 5) wq := hh.val 5 (by kernel_rfl) (by kernel_rfl)
      rw [Hrge5.out] at d5
      simp only [hFrg]
      refine .inl ⟨rfl, ?_⟩
      unfold Reg.upon
      obtain ⟨B, gg, gr, Rs, e9, h8, h9, h10⟩ := d5
      rw [e9]
      go_simp
      exact ⟨Hrgk.out 7 Lq wq hh.cls, (by rw [Hrge7.out]), Hrgx.out _⟩
    · intro Lq wq xq hh
      have d6 : Erg 6 (xq 6) wq := hh.val 6 (by kernel_rfl) (by kernel_rfl)
      rw [Hrge6.out] at d6
      simp only [hFrg]
      refine .inl ⟨rfl, ?_⟩
      unfold Reg.upon
      go_simp
      exact ⟨Hrgk.out 8 Lq wq hh.cls, (by rw [Hrge8.out]; exact d6), Hrgx.out _⟩
    · intro Lq wq xq hh
      have d7 : Erg 7 (xq 7) wq := hh.val 7 (by kernel_rfl) (by kernel_rfl)
      rw [Hrge7.out] at d7
      simp only [hFrg, d7]
      clear d7
      refine .inl ⟨rfl, ?_⟩
      unfold Reg.upon
      have hk := Hrgk.out 9 Lq wq  hh.cls
      have hx := Hrgx.out wq
      have he : Erg 9 (.nilIface) wq := by rw [Hrge9.out]
      have HK := Lib.hid (And.intro hk (And.intro he hx))
      clear hk hx he
      go_simp
      exact HK.out
  intro xq wrg hcrg hvrg
  rw [HrghC.out] at hcrg
  simp only [hFrg]
  have vrg8 : Erg 8 (xq 8) wrg := hvrg 8 (by decide)
  rw [Hrge8.out] at vrg8
  have vrg9 : Erg 9 (xq 9) wrg := hvrg 9 (by decide)
  rw [Hrge9.out] at vrg9
  rw [vrg9]
  clear hvrg hFrg Hrgk Hrgx Hrgst Hrgc HrghC HrghX Hrgb Hrgxb Hrge0 Hrge1 Hrge2 Hrge3 Hrge4 Hrge5 Hrge6 Hrge7 Hrge8 Hrge9
  obtain ⟨B, gg, gr, Rs, e8, hg, hm, hB⟩ := vrg8
  rw [e8]
  clear e8
  have HB3 := Lib.hid (HB.out.trans (hcrg.mono (by have := HSZ.out; omega)))
  have HC3 := Lib.hid ((HC.out.zone (Y := fun b => w.heap.size ≤ b ∧ b < W3.heap.size) (fun b hb hz => ⟨hz, hb⟩)).below hcrg)
  have HH3 := Lib.hid (HH.out.below hcrg (by have := HSZ.out; omega))
  have HG := Lib.hid hg
  have HM := Lib.hid hm
  have HBB := Lib.hid hB
  have hrl : Rs.length = 2 := by have := congrArg List.length hm; simpa using this
  have HRL := Lib.hid hrl
  have hup := scup_good B gg gr 1 0 2 1 Rs 0 2 1 wrg hg (by rw [hrl]; rfl) (by rw [hrl]; rfl) (by rw [hrl]; rfl) (by decide)
  clear hcrg hg hm hB hrl
  go_wp2_with fail
  refine hup.mono ?_
  rintro e w4 ⟨rfl, Ns, ⟨hn1, hn2⟩, hg4, hu4⟩
  have hln := up_lines HM.out (f := 0) (t := 2) (q := 1) (wd := 1) (by decide) (by rw [HRL.out]; decide) (by decide) hn1 (fun i hi => HG.out.sizes.2.2.2.2 i hi)
  have hlt := HG.out.lt
  have hgb : ∀ b, GridB wrg gr Rs b → W3.heap.size ≤ b := fun b hb => by
    have := HBB.out
    rcases hb with e | ⟨i, hi, e⟩ | e
    · have := hlt.2.2.1; omega
    · have := hlt.2.2.2.2.2 i hi; omega
    · have := hlt.2.1; omega
  have hb4 : Below W3.heap.size wrg w4 := hu4.below (by have := HBB.out; have := hlt.2.1; omega) hgb
  obtain ⟨R4, hR4⟩ : ∃ R4, R4 = (if (0 : Nat) = 0 then Rs.take 0 ++ upMid Rs Ns 0 2 1 ++ Rs.drop (0 + (upMid Rs Ns 0 2 1).length) else offAt (Rs.take 0 ++ upMid Rs Ns 0 2 1 ++ Rs.drop (0 + (upMid Rs Ns 0 2 1).length)) (0 - 1)) := ⟨_, rfl⟩
  rw [← hR4] at hg4 hln
  have HG4 := Lib.hid hg4
  have HL4 := Lib.hid (show R4.map lineOf = [([(1, [97])], false), ([zc], false)] from hln)
  have HC4 := Lib.hid (HC3.out.upd hu4 (fun b hz h => by have := hgb b h; omega))
  have HH4 := Lib.hid (HH3.out.below hb4 (by have := HSZ.out; omega))
  have HB4 := Lib.hid (HB3.out.trans (hb4.mono (by have := HSZ.out; omega)))
  have HZ4 := Lib.hid (show w.heap.size ≤ w4.heap.size from HB4.out.size)
  clear hup hn1 hn2 hg4 hu4 hln hlt hR4 hgb hb4 HB3 HC3 HH3 HG HM HBB HRL HB HC HH
  go_upto_region 6 with (fail)
  obtain ⟨Ergb, hErgb⟩ : ∃ EE : Nat → Value → World → Prop, EE = fun jj xx ww => match jj with
      | 0 => xx = .pointer (some ⟨gg, 0, none⟩)
      | 1 => (fun x w' => HeldE lineE (fun b => w.heap.size ≤ b) w' x [([(1, [97])], false), ([zc], false)]) xx ww
      | 2 => xx = .agg #[.slice (some ⟨w.heap.size + 1, 0, none⟩) 1 1, .bool false]
      | 3 => (fun x w' => HeldE cellE (fun b => w.heap.size ≤ b) w' x [zc]) xx ww
      | 4 => (fun x w' => ∃ v9, x = .agg #[v9, .bool false] ∧ HeldE cellE (fun b => w.heap.size ≤ b) w' v9 [zc]) xx ww
      | 5 => (fun x w' => HeldE lineE (fun b => w.heap.size ≤ b) w' x [([(1, [97])], false), ([zc], false)]) xx ww
      | 6 => xx = .bool true
      | 7 => xx = .bool true
      | _ => True := ⟨_, rfl⟩
  have ergb0 : ∀ xx ww, Ergb 0 xx ww = (xx = .pointer (some ⟨gg, 0, none⟩)) := fun xx ww => congrFun (congrFun (congrFun hErgb 0) xx) ww
  have ergb1 : ∀ xx ww, Ergb 1 xx ww = ((fun x w' => HeldE lineE (fun b => w.heap.size ≤ b) w' x [([(1, [97])], false), ([zc], false)]) xx ww) := fun xx ww => congrFun (congrFun (congrFun hErgb 1) xx) ww
  have ergb2 : ∀ xx ww, Ergb 2 xx ww = (xx = .agg #[.slice (some ⟨w.heap.size + 1, 0, none⟩) 1 1, .bool false]) := fun xx ww => congrFun (congrFun (congrFun hErgb 2) xx) ww
  have ergb3 : ∀ xx ww, Ergb 3 xx ww = ((fun x w' => HeldE cellE (fun b => w.heap.size ≤ b) w' x [zc]) xx ww) := fun xx ww => congrFun (congrFun (congrFun hErgb 3) xx) ww
  have ergb4 : ∀ xx ww, Ergb 4 xx ww = ((fun x w' => ∃ v9, x = .agg #[v9, .bool false] ∧ HeldE cellE (fun b => w.heap.size ≤ b) w' v9 [zc]) xx ww) := fun xx ww => congrFun (congrFun (congrFun hErgb 4) xx) ww
  have ergb5 : ∀ xx ww, Ergb 5 xx ww = ((fun x w' => HeldE lineE (fun b => w.heap.size ≤ b) w' x [([(1, [97])], false), ([zc], false)]) xx ww) := fun xx ww => congrFun (congrFun (congrFun hErgb 5) xx) ww
  have ergb6 : ∀ xx ww, Ergb 6 xx ww = (xx = .bool true) := fun xx ww => congrFun (congrFun (congrFun hErgb 6) xx) ww
  have ergb7 : ∀ xx ww, Ergb 7 xx ww = (xx = .bool true) := fun xx ww => congrFun (congrFun (congrFun hErgb 7) xx) ww
  obtain ⟨Crgb, hCrgb⟩ : ∃ CC : Array Bool → World → Prop, CC = fun L8 w' => Below w4.heap.size w4 w' := ⟨_, rfl⟩
  have krgb : ∀ i L w,  Crgb L w → Crgb (L.setIfInBounds i true) w := by
    intro i L w  h
    rw [hCrgb] at h ⊢
    exact h
  obtain ⟨Xrgb, hXrgb⟩ : ∃ XX : World → World → Prop, XX = fun x y => Below x.heap.size x y := ⟨_, rfl⟩
  have xrgb : ∀ w, Xrgb w w := fun w => by rw [hXrgb]; exact Below.refl _ _
  have strgb : ∀ j x w w1, Xrgb w w1 → Ergb j x w → Ergb j x w1 := by
    intro j x w w1 hx h
    rw [hXrgb] at hx
    match j with
    | 0 => rw [ergb0] at h ⊢; exact h
    | 1 => rw [ergb1] at h ⊢; (first | exact HeldE.below h hx | (obtain ⟨v9, e9, h9⟩ := h; exact ⟨v9, e9, HeldE.below h9 hx⟩))
    | 2 => rw [ergb2] at h ⊢; exact h
    | 3 => rw [ergb3] at h ⊢; (first | exact HeldE.below h hx | (obtain ⟨v9, e9, h9⟩ := h; exact ⟨v9, e9, HeldE.below h9 hx⟩))
    | 4 => rw [ergb4] at h ⊢; (first | exact HeldE.below h hx | (obtain ⟨v9, e9, h9⟩ := h; exact ⟨v9, e9, HeldE.below h9 hx⟩))
    | 5 => rw [ergb5] at h ⊢; (first | exact HeldE.below h hx | (obtain ⟨v9, e9, h9⟩ := h; exact ⟨v9, e9, HeldE.below h9 hx⟩))
    | 6 => rw [ergb6] at h ⊢; exact h
    | 7 => rw [ergb7] at h ⊢; exact h
    | j + 8 => rw [hErgb]; trivial
  have crgb : Crgb (Array.replicate 8 false) w4.drew := by rw [hCrgb]; exact (Below.refl _ _).drew
  have brgb : ∀ L w w1, Crgb L w → Below w.heap.size w w1 → Crgb L w1 := by
    intro L w w1 h hb
    rw [hCrgb] at h ⊢
    exact h.trans (hb.mono h.size)
  have xbrgb : ∀ w w1, Below w.heap.size w w1 → Xrgb w w1 := by
    intro w w1 hb
    rw [hXrgb]
    exact hb
  have Hrgbb := Lib.hid brgb
  have Hrgbxb := Lib.hid xbrgb
  clear brgb xbrgb
  clear hErgb
  have Hrgbk := Lib.hid krgb
  have Hrgbx := Lib.hid xrgb
  have Hrgbst := Lib.hid strgb
  have Hrgbc := Lib.hid crgb
  have HrgbhC := Lib.hid hCrgb
  have HrgbhX := Lib.hid hXrgb
  have Hrgbe0 := Lib.hid ergb0
  have Hrgbe1 := Lib.hid ergb1
  have Hrgbe2 := Lib.hid ergb2
  have Hrgbe3 := Lib.hid ergb3
  have Hrgbe4 := Lib.hid ergb4
  have Hrgbe5 := Lib.hid ergb5
  have Hrgbe6 := Lib.hid ergb6
  have Hrgbe7 := Lib.hid ergb7
  clear krgb xrgb strgb crgb hCrgb hXrgb ergb0 ergb1 ergb2 ergb3 ergb4 ergb5 ergb6 ergb7
  go_wp2_with fail
  refine Reg.regionF Ergb Crgb Xrgb Hrgbst.out (by kernel_rfl) (by kernel_rfl) (by kernel_rfl) Hrgbc.out (fun Frgb hFrgb => ?_)
  simp only [Reg.frame, Reg.dsts, List.map_cons, List.map_nil, Mix.put_lit, List.set_cons_succ, List.set_cons_zero, Nat.zero_add, Nat.reduceAdd] at hFrgb
  refine ⟨?_, ?_⟩
  · refine ⟨?_, ?_, ?_, ?_, ?_, ?_, ?_, ?_, trivial⟩
    · intro Lq wq xq hh
      simp only [hFrgb]
      refine .inl ⟨rfl, ?_⟩
      unfold Reg.upon
      have hk := Hrgbk.out 0 Lq wq  hh.cls
      have hx := Hrgbx.out wq
      have he : Ergb 0 (.pointer (some ⟨gg, 0, none⟩)) wq := by rw [Hrgbe0.out]
      have HK := Lib.hid (And.intro hk (And.intro he hx))
      clear hk hx he
      go_simp
      exact HK.out
    · intro Lq wq xq hh
      have d0 : Ergb 0 (xq 0) wq := hh.val 0 (by kernel_rfl) (by kernel_rfl)
      rw [Hrgbe0.out] at d0
      simp only [hFrgb, d0]
      clear d0
      refine .inl ⟨rfl, ?_⟩
      unfold Reg.upon
      have hc : Crgb Lq wq := hh.cls
      rw [HrgbhC.out] at hc
      go_simp
      refine (glines_any B gg gr 1 R4 wq (HG4.out.below hc)).mono ?_
      rintro e w2 ⟨v2, rfl, ho2, hb⟩
      refine ⟨_, rfl, Hrgbk.out 1 Lq w2 (Hrgbb.out Lq wq w2 hh.cls hb), ?_, Hrgbxb.out wq w2 hb⟩
      rw [Hrgbe1.out, ← HL4.out]
      have hz9 := Nat.le_trans HZ4.out hc.size
      exact (ho2.zone (Y := fun b => w.heap.size ≤ b) (fun b _ h => Nat.le_trans hz9 h)).held (fun b h _ => Nat.le_trans hz9 h)
    · intro Lq wq xq hh
      simp only [hFrgb]
      refine .inl ⟨rfl, ?_⟩
      unfold Reg.upon
      have hc : Crgb Lq wq := hh.cls
      rw [HrgbhC.out] at hc
      have hbx := HH4.out.below hc HH4.out.lt
      have q0 := hbx.cell 0 _ rfl
      have q1 := hbx.cell 1 _ rfl
      clear hc
      have hk := Hrgbk.out 2 Lq wq  hh.cls
      have hx := Hrgbx.out wq
      have he : Ergb 2 (.agg #[.slice (some ⟨w.heap.size + 1, 0, none⟩) 1 1, .bool false]) wq := by rw [Hrgbe2.out]
      have HK := Lib.hid (And.intro hk (And.intro he hx))
      clear hk hx he
      go_simp
      exact HK.out
    · intro Lq wq xq hh
      simp only [hFrgb]
      refine .inl ⟨rfl, ?_⟩
      unfold Reg.upon
      have hc0 : Crgb Lq wq := hh.cls
      rw [HrgbhC.out] at hc0
      obtain ⟨w9, hrun, r1, r2⟩ := run_make_full (P := Tryd.prog) wq wq.heap.size 22 27 i0 (.agg #[.int .i64 0, .slice none 0 0]) 2 Tryd.underlying22 HI.out.1 HI.out.2.1 HI.out.2.2.1 .i64 .i64 1 (by rw [HI.out.2.2.2]; omega) (by unfold maxLen; omega) (Nat.le_refl _)
      rw [show ((1 : Nat) : Int) = 1 from rfl] at hrun
      go_simp
      have hb9 : Below wq.heap.size wq w9 := (Below.refl _ _).grown r2 (Nat.le_refl _) (by intro k hk; cases hk)
      refine ⟨Hrgbk.out 3 Lq w9 (Hrgbb.out Lq wq w9 hh.cls hb9), ?_, Hrgbxb.out wq w9 hb9⟩
      rw [Hrgbe3.out]
      exact (blank_held r1).zone (fun b _ e => by have := hc0.size; have := HZ4.out; omega)
    · intro Lq wq xq hh
      have d3 : Ergb 3 (xq 3) wq := hh.val 3 (by kernel_rfl) (by kernel_rfl)
      rw [Hrgbe3.out] at d3
      simp only [hFrgb]
      refine .inl ⟨rfl, ?_⟩
      unfold Reg.upon
      obtain ⟨a9, c9, e9⟩ := d3.len
      rw [e9] at d3 ⊢
      go_simp
      exact ⟨Hrgbk.out 4 Lq wq hh.cls, (by rw [Hrgbe4.out]; exact ⟨_, rfl, d3⟩), Hrgbx.out _⟩
    · intro Lq wq xq hh
      have d2 : Ergb 2 (xq 2) wq := hh.val 2 (by kernel_rfl) (by kernel_rfl)
      rw [Hrgbe2.out] at d2
      have d4 : Ergb 4 (xq 4) wq := hh.val 4 (by kernel_rfl) (by kernel_rfl)
      rw [Hrgbe4.out] at d4
      simp only [hFrgb, d2]
      clear d2
      refine .inl ⟨rfl, ?_⟩
      unfold Reg.upon
      obtain ⟨v9, e9, h9⟩ := d4
      obtain ⟨a9, c9, e8⟩ := h9.len
      rw [e9]
      subst e8
      have hc3 : Crgb Lq wq := hh.cls
      rw [HrgbhC.out] at hc3
      have hb1 := (Below.refl wq.heap.size wq).alloc (Nat.le_refl _) (.cells #[.slice (some ⟨w.heap.size + 1, 0, none⟩) 1 1, .bool false, .slice a9 [zc].length c9, .bool false] 52)
      have ho := two_lines (x := false) (y := false) (B := w.heap.size) ((HC4.out.zone (Y := fun b => w.heap.size ≤ b) (fun b _ h => h.1)).below hc3) h9 (by have := hc3.size; have := HZ4.out; omega) (fun _ h => h)
      go_simp
      refine ⟨Hrgbk.out 5 Lq _ (Hrgbb.out Lq wq _ hh.cls hb1), ?_, Hrgbxb.out wq _ hb1⟩
      rw [Hrgbe5.out]
      exact ho
    · intro Lq wq xq hh
      have d1 : Ergb 1 (xq 1) wq := hh.val 1 (by kernel_rfl) (by kernel_rfl)
      rw [Hrgbe1.out] at d1
      have d5 : Ergb 5 (xq 5) wq := hh.val 5 (by kernel_rfl) (by kernel_rfl)
      rw [Hrgbe5.out] at d5
      simp only [hFrgb]
      refine .inl ⟨rfl, ?_⟩
      unfold Reg.upon
      have hc : Crgb Lq wq := hh.cls
      rw [HrgbhC.out] at hc
      go_simp
      refine (rlsame_any _ _ _ _ _ _ wq d1 d5).mono ?_
      rintro e w2 ⟨rfl, hb⟩
      refine ⟨_, rfl, Hrgbk.out 6 Lq w2 (Hrgbb.out Lq wq w2 hh.cls hb), ?_, Hrgbxb.out wq w2 hb⟩
      rw [Hrgbe6.out, sameL_self]
    · intro Lq wq xq hh
      have d6 : Ergb 6 (xq 6) wq := hh.val 6 (by kernel_rfl) (by kernel_rfl)
      rw [Hrgbe6.out] at d6
      simp only [hFrgb, d6]
      clear d6
      refine .inl ⟨rfl, ?_⟩
      unfold Reg.upon
      have hk := Hrgbk.out 7 Lq wq  hh.cls
      have hx := Hrgbx.out wq
      have he : Ergb 7 (.bool true) wq := by rw [Hrgbe7.out]
      have HK := Lib.hid (And.intro hk (And.intro he hx))
      clear hk hx he
      go_simp
      exact HK.out
  intro xq wrgb hcrgb hvrgb
  rw [HrgbhC.out] at hcrgb
  simp only [hFrgb]
  have vrgb7 : Ergb 7 (xq 7) wrgb := hvrgb 7 (by decide)
  rw [Hrgbe7.out] at vrgb7
  rw [vrgb7]
  clear hvrgb hFrgb Hrgbk Hrgbx Hrgbst Hrgbc HrgbhC HrgbhX Hrgbb Hrgbxb Hrgbe0 Hrgbe1 Hrgbe2 Hrgbe3 Hrgbe4 Hrgbe5 Hrgbe6 Hrgbe7
  have HE := Lib.hid (HB4.out.trans (hcrgb.mono HB4.out.size))
  go_wp2
  go_ret
  exact ⟨(ret_eq (by first | rfl | (simp <;> omega))), HE.out⟩
end Go.Proofs.YteolfknlcnihaaaDoor
