/- edit.moveRows, edit.change. -/
import Derived.Test.YtgndolgihplngaaGreatDoorMg7
namespace Go.Proofs.YtgndolgihplngaaGreatDoor
open Go.RowKit Go.ChangeShapes Go.WideShapes
theorem op_box (w : World) (k a b : Int) (bo : Option Addr) (bn bk : Nat) : ∃ W, W = w.alloc (.cells #[.int .i64 k, .int .i64 a, .int .i64 b, .slice bo bn bk] 43) ∧ Has W w.heap.size [.int .i64 k, .int .i64 a, .int .i64 b, .slice bo bn bk] 43 ∧ Below w.heap.size w W :=
  ⟨_, rfl, Has.new w _ _, (Below.refl _ _).alloc (Nat.le_refl _) _⟩
set_option maxRecDepth 100000 in
set_option maxHeartbeats 2000000 in
theorem emove_8 (B gp gg gr wd : Nat) (Rs : List Rw) (Ls : List Ln) (r : Nat) (c : Int) (pd au : Bool) (a b : Int) (bo : Option Addr) (bn bk : Nat) (w : World) (h : PenAt w B gp gg gr wd Rs Ls r c pd au) : Calls Tryz.prog 35 #[.pointer (some ⟨gp, 0, none⟩), .agg #[.int .i64 8, .int .i64 a, .int .i64 b, .slice bo bn bk]] w (fun e w' => e = .returned (.tuple #[]) ∧ PDo w B gp gg gr wd Rs (mvd Ls r Ls.length a false) r 0 false au w') := by
  obtain ⟨W1, hW1, hx, hb⟩ := op_box w 8 a b bo bn bk
  have h1 := (PAt.start h).below hb
  have hlen := h1.len
  obtain ⟨hh, hhe⟩ : ∃ hh, hh = Ls.length := ⟨_, rfl⟩
  have HHG := Lib.hid (show Calls Tryz.prog 33 #[.pointer (some ⟨gg, 0, none⟩)] W1 (fun e w2 => e = .returned (.int .i64 hh) ∧ W1 = w2) from by have h9 := ghigh_any B gg gr wd Rs W1 h1.1.2.2.1; rw [hlen, ← hhe] at h9; exact h9)
  have HUP := Lib.hid (show ∀ u : Growth W1, _ from fun u => scdown_all B gg gr wd Rs Ls r hh a (ext W1 u) (h1.below u.ok).1.2.2.1 (h1.below u.ok).1.2.2.2)
  have H1 := Lib.hid h1
  have c0 := h1.1.1.cell 0 _ rfl
  have e0 := ext_cell c0
  have e1 := ext_cell (h1.1.1.cell 1 _ rfl)
  have x0 := hx.cell 0 _ rfl
  have x1 := ext_cell (hx.cell 1 _ rfl)
  rw [← hhe]
  clear h h1 hx hb hlen hhe
  go_enter Tryz.func35, Tryz.ntmps35
  go_upto_region 1 with (fail)
  rw [← hW1]
  clear hW1
  go_wp2_with fail
  refine HHG.out.mono ?_
  rintro e w2 ⟨rfl, rfl⟩
  clear HHG
  go_wp2_with fail
  refine wp_region_ext_tail 12 (by kernel_rfl) (by simp) (by kernel_rfl) (by kernel_rfl) (by kernel_rfl) (by kernel_rfl) (by kernel_rfl) ?_
  simp only [List.take_succ_cons, List.take_zero, List.drop_succ_cons, List.drop_zero]
  repeat (go_big_quiet_step ((fail)))
  refine wpQuiet_nil ?_
  intro _ hw'
  obtain ⟨u, hw''⟩ := hw'
  subst hw''
  have H2 := Lib.hid (H1.out.below u.ok)
  have hup := HUP.out u
  clear x0 x1 c0 e0 e1
  go_wp2_with fail
  refine hup.mono ?_
  rintro e w7 ⟨rfl, R7, hg7, hm7, hu7, hf7⟩
  have h7 := H2.out.grid hg7 hm7 hu7 hf7
  have H7 := Lib.hid h7
  have q1 := h7.1.1.cell 1 _ rfl
  have q2 := h7.1.1.cell 2 _ rfl
  have q3 := h7.1.1.cell 3 _ rfl
  clear h7 hg7 hm7 hu7 hf7 hup
  go_wp2_with fail
  refine (cret_any r c pd w7).mono ?_
  rintro e w8 ⟨rfl, b8⟩
  have h8 := H7.out.below b8
  have p1 := h8.1.1.cell 1 _ rfl
  have p2 := h8.1.1.cell 2 _ rfl
  have p3 := h8.1.1.cell 3 _ rfl
  have f1 := h8.1.1.free 1
  have f2 := h8.1.1.free 2
  have f3 := h8.1.1.free 3
  have HF := Lib.hid (h8.turn r 0 false).done
  clear h8 b8 q1 q2 q3
  go_wp2
  exact bodyPost_end (by kernel_rfl) rfl ⟨rfl, HF.out⟩
set_option maxRecDepth 100000 in
set_option maxHeartbeats 2000000 in
theorem emove_9 (B gp gg gr wd : Nat) (Rs : List Rw) (Ls : List Ln) (r : Nat) (c : Int) (pd au : Bool) (a b : Int) (bo : Option Addr) (bn bk : Nat) (w : World) (h : PenAt w B gp gg gr wd Rs Ls r c pd au) : Calls Tryz.prog 35 #[.pointer (some ⟨gp, 0, none⟩), .agg #[.int .i64 9, .int .i64 a, .int .i64 b, .slice bo bn bk]] w (fun e w' => e = .returned (.tuple #[]) ∧ PDo w B gp gg gr wd Rs (mvd Ls r Ls.length a true) r 0 false au w') := by
  obtain ⟨W1, hW1, hx, hb⟩ := op_box w 9 a b bo bn bk
  have h1 := (PAt.start h).below hb
  have hlen := h1.len
  obtain ⟨hh, hhe⟩ : ∃ hh, hh = Ls.length := ⟨_, rfl⟩
  have HHG := Lib.hid (show Calls Tryz.prog 33 #[.pointer (some ⟨gg, 0, none⟩)] W1 (fun e w2 => e = .returned (.int .i64 hh) ∧ W1 = w2) from by have h9 := ghigh_any B gg gr wd Rs W1 h1.1.2.2.1; rw [hlen, ← hhe] at h9; exact h9)
  have HUP := Lib.hid (show ∀ u : Growth W1, _ from fun u => scup_all B gg gr wd Rs Ls r hh a (ext W1 u) (h1.below u.ok).1.2.2.1 (h1.below u.ok).1.2.2.2)
  have H1 := Lib.hid h1
  have c0 := h1.1.1.cell 0 _ rfl
  have e0 := ext_cell c0
  have e1 := ext_cell (h1.1.1.cell 1 _ rfl)
  have x0 := hx.cell 0 _ rfl
  have x1 := ext_cell (hx.cell 1 _ rfl)
  rw [← hhe]
  clear h h1 hx hb hlen hhe
  go_enter Tryz.func35, Tryz.ntmps35
  go_upto_region 1 with (fail)
  rw [← hW1]
  clear hW1
  go_wp2_with fail
  refine HHG.out.mono ?_
  rintro e w2 ⟨rfl, rfl⟩
  clear HHG
  go_wp2_with fail
  refine wp_region_ext_tail 12 (by kernel_rfl) (by simp) (by kernel_rfl) (by kernel_rfl) (by kernel_rfl) (by kernel_rfl) (by kernel_rfl) ?_
  simp only [List.take_succ_cons, List.take_zero, List.drop_succ_cons, List.drop_zero]
  repeat (go_big_quiet_step ((fail)))
  refine wpQuiet_nil ?_
  intro _ hw'
  obtain ⟨u, hw''⟩ := hw'
  subst hw''
  have H2 := Lib.hid (H1.out.below u.ok)
  have hup := HUP.out u
  clear x0 x1 c0 e0 e1
  go_wp2_with fail
  refine hup.mono ?_
  rintro e w7 ⟨rfl, R7, hg7, hm7, hu7, hf7⟩
  have h7 := H2.out.grid hg7 hm7 hu7 hf7
  have H7 := Lib.hid h7
  have q1 := h7.1.1.cell 1 _ rfl
  have q2 := h7.1.1.cell 2 _ rfl
  have q3 := h7.1.1.cell 3 _ rfl
  clear h7 hg7 hm7 hu7 hf7 hup
  go_wp2_with fail
  refine (cret_any r c pd w7).mono ?_
  rintro e w8 ⟨rfl, b8⟩
  have h8 := H7.out.below b8
  have p1 := h8.1.1.cell 1 _ rfl
  have p2 := h8.1.1.cell 2 _ rfl
  have p3 := h8.1.1.cell 3 _ rfl
  have f1 := h8.1.1.free 1
  have f2 := h8.1.1.free 2
  have f3 := h8.1.1.free 3
  have HF := Lib.hid (h8.turn r 0 false).done
  clear h8 b8 q1 q2 q3
  go_wp2
  exact bodyPost_end (by kernel_rfl) rfl ⟨rfl, HF.out⟩
set_option maxRecDepth 100000 in
set_option maxHeartbeats 2000000 in
theorem emove_10 (B gp gg gr wd : Nat) (Rs : List Rw) (Ls : List Ln) (r : Nat) (c : Int) (pd au : Bool) (a b : Int) (bo : Option Addr) (bn bk : Nat) (w : World) (h : PenAt w B gp gg gr wd Rs Ls r c pd au) : Calls Tryz.prog 35 #[.pointer (some ⟨gp, 0, none⟩), .agg #[.int .i64 10, .int .i64 a, .int .i64 b, .slice bo bn bk]] w (fun e w' => e = .returned (.tuple #[]) ∧ PDo w B gp gg gr wd Rs (mvd Ls 0 Ls.length a true) r c pd au w') := by
  obtain ⟨W1, hW1, hx, hb⟩ := op_box w 10 a b bo bn bk
  have h1 := (PAt.start h).below hb
  have hlen := h1.len
  obtain ⟨hh, hhe⟩ : ∃ hh, hh = Ls.length := ⟨_, rfl⟩
  have HHG := Lib.hid (show Calls Tryz.prog 33 #[.pointer (some ⟨gg, 0, none⟩)] W1 (fun e w2 => e = .returned (.int .i64 hh) ∧ W1 = w2) from by have h9 := ghigh_any B gg gr wd Rs W1 h1.1.2.2.1; rw [hlen, ← hhe] at h9; exact h9)
  have HUP := Lib.hid (show ∀ u : Growth W1, _ from fun u => scup_all B gg gr wd Rs Ls 0 hh a (ext W1 u) (h1.below u.ok).1.2.2.1 (h1.below u.ok).1.2.2.2)
  have H1 := Lib.hid h1
  have c0 := h1.1.1.cell 0 _ rfl
  have e0 := ext_cell c0
  have x0 := hx.cell 0 _ rfl
  have x1 := ext_cell (hx.cell 1 _ rfl)
  rw [← hhe]
  clear h h1 hx hb hlen hhe
  go_enter Tryz.func35, Tryz.ntmps35
  go_upto_region 1 with (fail)
  rw [← hW1]
  clear hW1
  go_wp2_with fail
  refine HHG.out.mono ?_
  rintro e w2 ⟨rfl, rfl⟩
  clear HHG
  go_wp2_with fail
  refine wp_region_ext_tail 7 (by kernel_rfl) (by simp) (by kernel_rfl) (by kernel_rfl) (by kernel_rfl) (by kernel_rfl) (by kernel_rfl) ?_
  simp only [List.take_succ_cons, List.take_zero, List.drop_succ_cons, List.drop_zero]
  repeat (go_big_quiet_step ((fail)))
  refine wpQuiet_nil ?_
  intro _ hw'
  obtain ⟨u, hw''⟩ := hw'
  subst hw''
  have H2 := Lib.hid (H1.out.below u.ok)
  have hup := HUP.out u
  clear x0 x1 c0 e0 
  go_wp2_with fail
  refine hup.mono ?_
  rintro e w7 ⟨rfl, R7, hg7, hm7, hu7, hf7⟩
  have h7 := H2.out.grid hg7 hm7 hu7 hf7
  have HF := Lib.hid h7.done
  clear h7 hg7 hm7 hu7 hf7 hup
  go_wp2
  exact bodyPost_end (by kernel_rfl) rfl ⟨rfl, HF.out⟩
set_option maxRecDepth 100000 in
set_option maxHeartbeats 2000000 in
theorem emove_11 (B gp gg gr wd : Nat) (Rs : List Rw) (Ls : List Ln) (r : Nat) (c : Int) (pd au : Bool) (a b : Int) (bo : Option Addr) (bn bk : Nat) (w : World) (h : PenAt w B gp gg gr wd Rs Ls r c pd au) : Calls Tryz.prog 35 #[.pointer (some ⟨gp, 0, none⟩), .agg #[.int .i64 11, .int .i64 a, .int .i64 b, .slice bo bn bk]] w (fun e w' => e = .returned (.tuple #[]) ∧ PDo w B gp gg gr wd Rs (mvd Ls 0 Ls.length a false) r c pd au w') := by
  obtain ⟨W1, hW1, hx, hb⟩ := op_box w 11 a b bo bn bk
  have h1 := (PAt.start h).below hb
  have hlen := h1.len
  obtain ⟨hh, hhe⟩ : ∃ hh, hh = Ls.length := ⟨_, rfl⟩
  have HHG := Lib.hid (show Calls Tryz.prog 33 #[.pointer (some ⟨gg, 0, none⟩)] W1 (fun e w2 => e = .returned (.int .i64 hh) ∧ W1 = w2) from by have h9 := ghigh_any B gg gr wd Rs W1 h1.1.2.2.1; rw [hlen, ← hhe] at h9; exact h9)
  have HUP := Lib.hid (show ∀ u : Growth W1, _ from fun u => scdown_all B gg gr wd Rs Ls 0 hh a (ext W1 u) (h1.below u.ok).1.2.2.1 (h1.below u.ok).1.2.2.2)
  have H1 := Lib.hid h1
  have c0 := h1.1.1.cell 0 _ rfl
  have e0 := ext_cell c0
  have x0 := hx.cell 0 _ rfl
  have x1 := ext_cell (hx.cell 1 _ rfl)
  rw [← hhe]
  clear h h1 hx hb hlen hhe
  go_enter Tryz.func35, Tryz.ntmps35
  go_upto_region 1 with (fail)
  rw [← hW1]
  clear hW1
  go_wp2_with fail
  refine HHG.out.mono ?_
  rintro e w2 ⟨rfl, rfl⟩
  clear HHG
  go_wp2_with fail
  refine wp_region_ext_tail 7 (by kernel_rfl) (by simp) (by kernel_rfl) (by kernel_rfl) (by kernel_rfl) (by kernel_rfl) (by kernel_rfl) ?_
  simp only [List.take_succ_cons, List.take_zero, List.drop_succ_cons, List.drop_zero]
  repeat (go_big_quiet_step ((fail)))
  refine wpQuiet_nil ?_
  intro _ hw'
  obtain ⟨u, hw''⟩ := hw'
  subst hw''
  have H2 := Lib.hid (H1.out.below u.ok)
  have hup := HUP.out u
  clear x0 x1 c0 e0 
  go_wp2_with fail
  refine hup.mono ?_
  rintro e w7 ⟨rfl, R7, hg7, hm7, hu7, hf7⟩
  have h7 := H2.out.grid hg7 hm7 hu7 hf7
  have HF := Lib.hid h7.done
  clear h7 hg7 hm7 hu7 hf7 hup
  go_wp2
  exact bodyPost_end (by kernel_rfl) rfl ⟨rfl, HF.out⟩
set_option maxRecDepth 100000 in
set_option maxHeartbeats 2000000 in
theorem echange_3 (B gp gg gr wd : Nat) (Rs : List Rw) (Ls : List Ln) (r : Nat) (c : Int) (pd au : Bool) (a b : Int) (bo : Option Addr) (bn bk : Nat) (w : World) (h : PenAt w B gp gg gr wd Rs Ls r c pd au) (hr : r < Ls.length) (hm : a = 0 ∨ a = 1 ∨ a = 2) : Calls Tryz.prog 36 #[.pointer (some ⟨gp, 0, none⟩), .agg #[.int .i64 3, .int .i64 a, .int .i64 b, .slice bo bn bk]] w (fun e w' => e = .returned (.tuple #[]) ∧ PDo w B gp gg gr wd Rs (edN Ls r c a) r c pd au w') := by
  obtain ⟨W1, hW1, hx, hb⟩ := op_box w 3 a b bo bn bk
  have h1 := (PAt.start h).below hb
  have hi : r < Rs.length := by rw [h1.len]; exact hr
  have hwd := h1.wid r hr
  obtain ⟨gk, hgk⟩ : ∃ gk, gk = (Rs.getD r r0).g := ⟨_, rfl⟩
  have HG := Lib.hid (show ∀ u : Growth W1, Calls Tryz.prog 46 #[.pointer (some ⟨gg, 0, none⟩), .int .i64 r] (ext W1 u) (fun e w' => e = .returned (.pointer (some ⟨gk, 0, none⟩)) ∧ ext W1 u = w') from fun u => by rw [hgk]; exact grow_in B gg gr wd Rs r _ (h1.below u.ok).1.2.2.1 hi)
  have HE := Lib.hid (show ∀ u : Growth W1, Calls Tryz.prog 60 #[.pointer (some ⟨gp, 0, none⟩), .int .i64 a] (ext W1 u) (fun e w2 => e = .returned (.tuple #[]) ∧ ∃ R2, PAt w B gp gg gr wd Rs R2 (edN Ls r c a) r c pd au w2) from fun u => (eeline_any B gp gg gr wd Rs Ls r c pd au a (ext W1 u) (h1.below u.ok).1 hr hm).mono (by rintro e w2 ⟨rfl, k2⟩; exact ⟨rfl, (h1.below u.ok).go k2⟩))
  have c0 := h1.1.1.cell 0 _ rfl
  have e0 := ext_cell (h1.1.1.cell 0 _ rfl)
  have e1 := ext_cell (h1.1.1.cell 1 _ rfl)
  have e2 := ext_cell (h1.1.1.cell 2 _ rfl)
  have HX := Lib.hid hx
  clear h h1 hx hb hi hwd hgk hr hm
  go_enter Tryz.func36, Tryz.ntmps36
  go_upto_region 1 with (fail)
  rw [← hW1]
  clear hW1
  refine wp_region_ext (by kernel_rfl) (by kernel_rfl) ?_
  repeat (go_big_quiet_step ((go_at_call 46; exact callx_same (HG.out _))))
  refine wpQuiet_nil ?_
  intro _ hw'
  obtain ⟨u, hw''⟩ := hw'
  subst hw''
  have heu := HE.out u
  obtain ⟨W2, hW2⟩ : ∃ W2, W2 = ext W1 u := ⟨_, rfl⟩
  rw [← hW2] at heu ⊢
  have hx2 : Has W2 w.heap.size [.int .i64 3, .int .i64 a, .int .i64 b, .slice bo bn bk] 43 := by rw [hW2]; exact HX.out.below u.ok HX.out.lt
  have HEU := Lib.hid heu
  have x0 := hx2.cell 0 _ rfl
  have x1 := hx2.cell 1 _ rfl
  clear e0 e1 e2 hx2 c0 heu hW2
  go_wp2_with fail
  refine HEU.out.mono ?_
  rintro e w2 ⟨rfl, R2, h2⟩
  have HF := Lib.hid h2.done
  clear h2 x0 x1
  go_wp2
  exact bodyPost_end (by kernel_rfl) rfl ⟨rfl, HF.out⟩
set_option maxRecDepth 100000 in
set_option maxHeartbeats 2000000 in
theorem echange_4 (B gp gg gr wd : Nat) (Rs : List Rw) (Ls : List Ln) (r : Nat) (c : Int) (pd au : Bool) (a b : Int) (bo : Option Addr) (bn bk : Nat) (w : World) (h : PenAt w B gp gg gr wd Rs Ls r c pd au) (hr : r < Ls.length) (hm : a = 0 ∨ a = 1 ∨ a = 2) : Calls Tryz.prog 36 #[.pointer (some ⟨gp, 0, none⟩), .agg #[.int .i64 4, .int .i64 a, .int .i64 b, .slice bo bn bk]] w (fun e w' => e = .returned (.tuple #[]) ∧ PDo w B gp gg gr wd Rs (edS Ls r c a) r c pd au w') := by
  obtain ⟨W1, hW1, hx, hb⟩ := op_box w 4 a b bo bn bk
  have h1 := (PAt.start h).below hb
  have hi : r < Rs.length := by rw [h1.len]; exact hr
  have hwd := h1.wid r hr
  obtain ⟨gk, hgk⟩ : ∃ gk, gk = (Rs.getD r r0).g := ⟨_, rfl⟩
  have HG := Lib.hid (show ∀ u : Growth W1, Calls Tryz.prog 46 #[.pointer (some ⟨gg, 0, none⟩), .int .i64 r] (ext W1 u) (fun e w' => e = .returned (.pointer (some ⟨gk, 0, none⟩)) ∧ ext W1 u = w') from fun u => by rw [hgk]; exact grow_in B gg gr wd Rs r _ (h1.below u.ok).1.2.2.1 hi)
  have HE := Lib.hid (show ∀ u : Growth W1, Calls Tryz.prog 61 #[.pointer (some ⟨gp, 0, none⟩), .int .i64 a] (ext W1 u) (fun e w2 => e = .returned (.tuple #[]) ∧ ∃ R2, PAt w B gp gg gr wd Rs R2 (edS Ls r c a) r c pd au w2) from fun u => (eescreen_any B gp gg gr wd Rs Ls r c pd au a (ext W1 u) (h1.below u.ok).1 hr hm).mono (by rintro e w2 ⟨rfl, k2⟩; exact ⟨rfl, (h1.below u.ok).go k2⟩))
  have c0 := h1.1.1.cell 0 _ rfl
  have e0 := ext_cell (h1.1.1.cell 0 _ rfl)
  have e1 := ext_cell (h1.1.1.cell 1 _ rfl)
  have e2 := ext_cell (h1.1.1.cell 2 _ rfl)
  have HX := Lib.hid hx
  clear h h1 hx hb hi hwd hgk hr hm
  go_enter Tryz.func36, Tryz.ntmps36
  go_upto_region 1 with (fail)
  rw [← hW1]
  clear hW1
  refine wp_region_ext (by kernel_rfl) (by kernel_rfl) ?_
  repeat (go_big_quiet_step ((go_at_call 46; exact callx_same (HG.out _))))
  refine wpQuiet_nil ?_
  intro _ hw'
  obtain ⟨u, hw''⟩ := hw'
  subst hw''
  have heu := HE.out u
  obtain ⟨W2, hW2⟩ : ∃ W2, W2 = ext W1 u := ⟨_, rfl⟩
  rw [← hW2] at heu ⊢
  have hx2 : Has W2 w.heap.size [.int .i64 4, .int .i64 a, .int .i64 b, .slice bo bn bk] 43 := by rw [hW2]; exact HX.out.below u.ok HX.out.lt
  have HEU := Lib.hid heu
  have x0 := hx2.cell 0 _ rfl
  have x1 := hx2.cell 1 _ rfl
  clear e0 e1 e2 hx2 c0 heu hW2
  go_wp2_with fail
  refine HEU.out.mono ?_
  rintro e w2 ⟨rfl, R2, h2⟩
  have HF := Lib.hid h2.done
  clear h2 x0 x1
  go_wp2
  exact bodyPost_end (by kernel_rfl) rfl ⟨rfl, HF.out⟩
set_option maxRecDepth 100000 in
set_option maxHeartbeats 2000000 in
theorem echange_5 (B gp gg gr wd : Nat) (Rs : List Rw) (Ls : List Ln) (r : Nat) (c : Int) (pd au : Bool) (a b : Int) (bo : Option Addr) (bn bk : Nat) (w : World) (h : PenAt w B gp gg gr wd Rs Ls r c pd au) (hr : r < Ls.length) : Calls Tryz.prog 36 #[.pointer (some ⟨gp, 0, none⟩), .agg #[.int .i64 5, .int .i64 a, .int .i64 b, .slice bo bn bk]] w (fun e w' => e = .returned (.tuple #[]) ∧ PDo w B gp gg gr wd Rs (edA Ls r 4 c a) r c pd au w') := by
  obtain ⟨W1, hW1, hx, hb⟩ := op_box w 5 a b bo bn bk
  have h1 := (PAt.start h).below hb
  have hi : r < Rs.length := by rw [h1.len]; exact hr
  have hwd := h1.wid r hr
  obtain ⟨gk, hgk⟩ : ∃ gk, gk = (Rs.getD r r0).g := ⟨_, rfl⟩
  have HG := Lib.hid (show ∀ u : Growth W1, Calls Tryz.prog 46 #[.pointer (some ⟨gg, 0, none⟩), .int .i64 r] (ext W1 u) (fun e w' => e = .returned (.pointer (some ⟨gk, 0, none⟩)) ∧ ext W1 u = w') from fun u => by rw [hgk]; exact grow_in B gg gr wd Rs r _ (h1.below u.ok).1.2.2.1 hi)
  have HE := Lib.hid (show ∀ u : Growth W1, Calls Tryz.prog 62 #[.pointer (some ⟨gk, 0, none⟩), .int .i64 c, .int .i64 a] (ext W1 u) (fun e w2 => e = .returned (.tuple #[]) ∧ ∃ R2, PAt w B gp gg gr wd Rs R2 (edA Ls r 4 c a) r c pd au w2) from fun u => by
    rw [hgk]
    exact prow_any (h1.below u.ok) r _ hi (by rw [act_len]; exact hwd) fun Z hZ hr => ecells_z Z B _ _ _ _ 4 c a (by decide) _ hZ hr)
  have c0 := h1.1.1.cell 0 _ rfl
  have e0 := ext_cell (h1.1.1.cell 0 _ rfl)
  have e1 := ext_cell (h1.1.1.cell 1 _ rfl)
  have e2 := ext_cell (h1.1.1.cell 2 _ rfl)
  have HX := Lib.hid hx
  clear h h1 hx hb hi hwd hgk hr
  go_enter Tryz.func36, Tryz.ntmps36
  go_upto_region 1 with (fail)
  rw [← hW1]
  clear hW1
  refine wp_region_ext (by kernel_rfl) (by kernel_rfl) ?_
  repeat (go_big_quiet_step ((go_at_call 46; exact callx_same (HG.out _))))
  refine wpQuiet_nil ?_
  intro _ hw'
  obtain ⟨u, hw''⟩ := hw'
  subst hw''
  have heu := HE.out u
  obtain ⟨W2, hW2⟩ : ∃ W2, W2 = ext W1 u := ⟨_, rfl⟩
  rw [← hW2] at heu ⊢
  have hx2 : Has W2 w.heap.size [.int .i64 5, .int .i64 a, .int .i64 b, .slice bo bn bk] 43 := by rw [hW2]; exact HX.out.below u.ok HX.out.lt
  have HEU := Lib.hid heu
  have x0 := hx2.cell 0 _ rfl
  have x1 := hx2.cell 1 _ rfl
  clear e0 e1 e2 hx2 c0 heu hW2
  go_wp2_with fail
  refine HEU.out.mono ?_
  rintro e w2 ⟨rfl, R2, h2⟩
  have HF := Lib.hid h2.done
  clear h2 x0 x1
  go_wp2
  exact bodyPost_end (by kernel_rfl) rfl ⟨rfl, HF.out⟩
set_option maxRecDepth 100000 in
set_option maxHeartbeats 2000000 in
theorem echange_6 (B gp gg gr wd : Nat) (Rs : List Rw) (Ls : List Ln) (r : Nat) (c : Int) (pd au : Bool) (a b : Int) (bo : Option Addr) (bn bk : Nat) (w : World) (h : PenAt w B gp gg gr wd Rs Ls r c pd au) (hr : r < Ls.length) : Calls Tryz.prog 36 #[.pointer (some ⟨gp, 0, none⟩), .agg #[.int .i64 6, .int .i64 a, .int .i64 b, .slice bo bn bk]] w (fun e w' => e = .returned (.tuple #[]) ∧ PDo w B gp gg gr wd Rs (edI Ls r c a) r c pd au w') := by
  obtain ⟨W1, hW1, hx, hb⟩ := op_box w 6 a b bo bn bk
  have h1 := (PAt.start h).below hb
  have hi : r < Rs.length := by rw [h1.len]; exact hr
  have hwd := h1.wid r hr
  obtain ⟨gk, hgk⟩ : ∃ gk, gk = (Rs.getD r r0).g := ⟨_, rfl⟩
  have HG := Lib.hid (show ∀ u : Growth W1, Calls Tryz.prog 46 #[.pointer (some ⟨gg, 0, none⟩), .int .i64 r] (ext W1 u) (fun e w' => e = .returned (.pointer (some ⟨gk, 0, none⟩)) ∧ ext W1 u = w') from fun u => by rw [hgk]; exact grow_in B gg gr wd Rs r _ (h1.below u.ok).1.2.2.1 hi)
  have HE := Lib.hid (show ∀ u : Growth W1, Calls Tryz.prog 63 #[.pointer (some ⟨gk, 0, none⟩), .int .i64 c, .int .i64 a] (ext W1 u) (fun e w2 => e = .returned (.tuple #[]) ∧ ∃ R2, PAt w B gp gg gr wd Rs R2 (edI Ls r c a) r c pd au w2) from fun u => by
    rw [hgk]
    exact prow_any (h1.below u.ok) r _ hi (by rw [insA_len]; exact hwd) fun Z hZ hr => sins_z Z B _ _ _ _ c a _ hZ hr)
  have c0 := h1.1.1.cell 0 _ rfl
  have e0 := ext_cell (h1.1.1.cell 0 _ rfl)
  have e1 := ext_cell (h1.1.1.cell 1 _ rfl)
  have e2 := ext_cell (h1.1.1.cell 2 _ rfl)
  have HX := Lib.hid hx
  clear h h1 hx hb hi hwd hgk hr
  go_enter Tryz.func36, Tryz.ntmps36
  go_upto_region 1 with (fail)
  rw [← hW1]
  clear hW1
  refine wp_region_ext (by kernel_rfl) (by kernel_rfl) ?_
  repeat (go_big_quiet_step ((go_at_call 46; exact callx_same (HG.out _))))
  refine wpQuiet_nil ?_
  intro _ hw'
  obtain ⟨u, hw''⟩ := hw'
  subst hw''
  have heu := HE.out u
  obtain ⟨W2, hW2⟩ : ∃ W2, W2 = ext W1 u := ⟨_, rfl⟩
  rw [← hW2] at heu ⊢
  have hx2 : Has W2 w.heap.size [.int .i64 6, .int .i64 a, .int .i64 b, .slice bo bn bk] 43 := by rw [hW2]; exact HX.out.below u.ok HX.out.lt
  have HEU := Lib.hid heu
  have x0 := hx2.cell 0 _ rfl
  have x1 := hx2.cell 1 _ rfl
  clear e0 e1 e2 hx2 c0 heu hW2
  go_wp2_with fail
  refine HEU.out.mono ?_
  rintro e w2 ⟨rfl, R2, h2⟩
  have HF := Lib.hid h2.done
  clear h2 x0 x1
  go_wp2
  exact bodyPost_end (by kernel_rfl) rfl ⟨rfl, HF.out⟩
set_option maxRecDepth 100000 in
set_option maxHeartbeats 2000000 in
theorem echange_7 (B gp gg gr wd : Nat) (Rs : List Rw) (Ls : List Ln) (r : Nat) (c : Int) (pd au : Bool) (a b : Int) (bo : Option Addr) (bn bk : Nat) (w : World) (h : PenAt w B gp gg gr wd Rs Ls r c pd au) (hr : r < Ls.length) : Calls Tryz.prog 36 #[.pointer (some ⟨gp, 0, none⟩), .agg #[.int .i64 7, .int .i64 a, .int .i64 b, .slice bo bn bk]] w (fun e w' => e = .returned (.tuple #[]) ∧ PDo w B gp gg gr wd Rs (edD Ls r c a) r c pd au w') := by
  obtain ⟨W1, hW1, hx, hb⟩ := op_box w 7 a b bo bn bk
  have h1 := (PAt.start h).below hb
  have hi : r < Rs.length := by rw [h1.len]; exact hr
  have hwd := h1.wid r hr
  obtain ⟨gk, hgk⟩ : ∃ gk, gk = (Rs.getD r r0).g := ⟨_, rfl⟩
  have HG := Lib.hid (show ∀ u : Growth W1, Calls Tryz.prog 46 #[.pointer (some ⟨gg, 0, none⟩), .int .i64 r] (ext W1 u) (fun e w' => e = .returned (.pointer (some ⟨gk, 0, none⟩)) ∧ ext W1 u = w') from fun u => by rw [hgk]; exact grow_in B gg gr wd Rs r _ (h1.below u.ok).1.2.2.1 hi)
  have HE := Lib.hid (show ∀ u : Growth W1, Calls Tryz.prog 64 #[.pointer (some ⟨gk, 0, none⟩), .int .i64 c, .int .i64 a] (ext W1 u) (fun e w2 => e = .returned (.tuple #[]) ∧ ∃ R2, PAt w B gp gg gr wd Rs R2 (edD Ls r c a) r c pd au w2) from fun u => by
    rw [hgk]
    exact prow_any (h1.below u.ok) r _ hi (by rw [delA_len]; exact hwd) fun Z hZ hr => sdel_z Z B _ _ _ _ c a _ hZ hr)
  have c0 := h1.1.1.cell 0 _ rfl
  have e0 := ext_cell (h1.1.1.cell 0 _ rfl)
  have e1 := ext_cell (h1.1.1.cell 1 _ rfl)
  have e2 := ext_cell (h1.1.1.cell 2 _ rfl)
  have HX := Lib.hid hx
  clear h h1 hx hb hi hwd hgk hr
  go_enter Tryz.func36, Tryz.ntmps36
  go_upto_region 1 with (fail)
  rw [← hW1]
  clear hW1
  refine wp_region_ext (by kernel_rfl) (by kernel_rfl) ?_
  repeat (go_big_quiet_step ((go_at_call 46; exact callx_same (HG.out _))))
  refine wpQuiet_nil ?_
  intro _ hw'
  obtain ⟨u, hw''⟩ := hw'
  subst hw''
  have heu := HE.out u
  obtain ⟨W2, hW2⟩ : ∃ W2, W2 = ext W1 u := ⟨_, rfl⟩
  rw [← hW2] at heu ⊢
  have hx2 : Has W2 w.heap.size [.int .i64 7, .int .i64 a, .int .i64 b, .slice bo bn bk] 43 := by rw [hW2]; exact HX.out.below u.ok HX.out.lt
  have HEU := Lib.hid heu
  have x0 := hx2.cell 0 _ rfl
  have x1 := hx2.cell 1 _ rfl
  clear e0 e1 e2 hx2 c0 heu hW2
  go_wp2_with fail
  refine HEU.out.mono ?_
  rintro e w2 ⟨rfl, R2, h2⟩
  have HF := Lib.hid h2.done
  clear h2 x0 x1
  go_wp2
  exact bodyPost_end (by kernel_rfl) rfl ⟨rfl, HF.out⟩
end Go.Proofs.YtgndolgihplngaaGreatDoor
