/- Texts put together: PlcD, PlcE, PlcU, PlcV. -/
import Derived.Test.YtoeggiplcaegoaaGreatDoorPlcC
import Derived.Test.YtoeggiplcaegoaaGreatDoorMg5
import Derived.Test.YtoeggiplcaegoaaGreatDoorMg8
/- A pen's goOn, makeRoom, NewLine. -/
namespace Go.Proofs.YtoeggiplcaegoaaGreatDoor
open Go.RowKit Go.ChangeShapes Go.WideShapes
variable {Yo : Zone}
/-- A pen on its way. -/
def PAtY (Yo : Zone) (w0 : World) (B gp gg gr wd : Nat) (Rs R1 : List Rw) (Ls : List Ln) (r c : Int) (pd au : Bool) (w1 : World) : Prop := PenY Yo w1 B gp gg gr wd R1 Ls r c pd au ∧ Upd (PZ w0 gp gr Rs) w0 w1 ∧ RowsFrom w0 Rs R1
section
variable {w0 w1 w2 : World} {B gp gg gr wd : Nat} {Rs R1 R2 : List Rw} {Ls L2 : List Ln} {r c r2 c2 : Int} {pd au pd2 au2 : Bool}
theorem PAtY.start (h : PenY Yo w0 B gp gg gr wd Rs Ls r c pd au) : PAtY Yo w0 B gp gg gr wd Rs Rs Ls r c pd au w0 := ⟨h, .refl _ _, RowsFrom.self _ _⟩
theorem PAtY.below (h : PAtY Yo w0 B gp gg gr wd Rs R1 Ls r c pd au w1) (hb : Below w1.heap.size w1 w2) : PAtY Yo w0 B gp gg gr wd Rs R1 Ls r c pd au w2 := ⟨h.1.below hb, h.2.1.trans ((Upd.ofBelow (S := fun _ => False) hb).mono fun _ _ e => e.elim), h.2.2⟩
theorem PAtY.turn (h : PAtY Yo w0 B gp gg gr wd Rs R1 Ls r c pd au w1) (r2 c2 : Int) (pd2 : Bool) : PAtY Yo w0 B gp gg gr wd Rs R1 Ls r2 c2 pd2 au (((w1.setCell ⟨gp, 1, none⟩ (.int .i64 r2)).setCell ⟨gp, 2, none⟩ (.int .i64 c2)).setCell ⟨gp, 3, none⟩ (.bool pd2)) := by
  have h2 := pen_set3 h.1.1 (.int .i64 r2) (.int .i64 c2) (.bool pd2)
  exact ⟨h.1.turn h2.1 h2.2, h.2.1.trans (h2.2.mono fun b _ e => .inl e), h.2.2⟩
theorem PAtY.grid (h : PAtY Yo w0 B gp gg gr wd Rs R1 Ls r c pd au w1) (hg : GridY Yo w2 B gg gr wd R2) (hm : R2.map lineOf = L2) (hu : Upd (GridB w1 gr R1) w1 w2) (hf : RowsFrom w1 R1 R2) : PAtY Yo w0 B gp gg gr wd Rs R2 L2 r c pd au w2 :=
  ⟨h.1.grid hg hm hu, h.2.1.trans (hu.mono fun b _ e => PZ.from h.2.2 h.2.1.size b (.inr e)), h.2.2.trans hf h.2.1.size⟩
theorem PAtY.go (h : PAtY Yo w0 B gp gg gr wd Rs R1 Ls r c pd au w1) (k : PDoY Yo w1 B gp gg gr wd R1 L2 r2 c2 pd2 au2 w2) : ∃ R2, PAtY Yo w0 B gp gg gr wd Rs R2 L2 r2 c2 pd2 au2 w2 := by
  obtain ⟨R2, h1, h2, h3⟩ := k
  exact ⟨R2, h1, h.2.1.trans (h2.mono fun b _ hb => PZ.from h.2.2 h.2.1.size b hb), h.2.2.trans h3 h.2.1.size⟩
theorem PAtY.done (h : PAtY Yo w0 B gp gg gr wd Rs R1 Ls r c pd au w1) : PDoY Yo w0 B gp gg gr wd Rs Ls r c pd au w1 := ⟨R1, h⟩
theorem row_line {Rs : List Rw} {Ls : List Ln} (h : Rs.map lineOf = Ls) (i : Nat) (hi : i < Rs.length) : (Rs.getD i r0).L = (Ls.getD i zl).1 ∧ (Rs.getD i r0).wrap = (Ls.getD i zl).2 := by
  have := lines_at_i h i hi
  exact ⟨congrArg Prod.fst this, congrArg Prod.snd this⟩
/-- A row of a pen's grid goes on. -/
theorem PAtY.mark (h : PAtY Yo w0 B gp gg gr wd Rs R1 Ls r c pd au w1) (i : Nat) (hi : i < R1.length) (hg : GridY Yo w2 B gg gr wd (R1.set i ⟨(R1.getD i r0).g, (R1.getD i r0).gc, (R1.getD i r0).L, true⟩)) (hu : Upd (fun x => x = (R1.getD i r0).g ∨ x = (R1.getD i r0).gc) w1 w2) : PAtY Yo w0 B gp gg gr wd Rs (R1.set i ⟨(R1.getD i r0).g, (R1.getD i r0).gc, (R1.getD i r0).L, true⟩) (markL Ls i) r c pd au w2 :=
  h.grid hg (by rw [set_lines h.1.2.2.2]; unfold markL; rw [(row_line h.1.2.2.2 i hi).1]) (hu.mono fun b _ e => .inr (.inl ⟨i, hi, e⟩)) (rows_set _ _ _ _)
/-- A row of a pen's grid was painted. -/
theorem PAtY.paint (h : PAtY Yo w0 B gp gg gr wd Rs R1 Ls r c pd au w1) (i k : Nat) (p : List Cl) (hi : i < R1.length) (hg : GridY Yo w2 B gg gr wd (R1.set i ⟨(R1.getD i r0).g, (R1.getD i r0).gc, paintL (R1.getD i r0).L p k, (R1.getD i r0).wrap && !lastHit (R1.getD i r0).L p k⟩)) (hu : Upd (fun x => x = (R1.getD i r0).g ∨ x = (R1.getD i r0).gc) w1 w2) : PAtY Yo w0 B gp gg gr wd Rs (R1.set i ⟨(R1.getD i r0).g, (R1.getD i r0).gc, paintL (R1.getD i r0).L p k, (R1.getD i r0).wrap && !lastHit (R1.getD i r0).L p k⟩) (pntL Ls i k p) r c pd au w2 :=
  h.grid hg (by rw [set_lines h.1.2.2.2]; unfold pntL; rw [(row_line h.1.2.2.2 i hi).1, (row_line h.1.2.2.2 i hi).2]) (hu.mono fun b _ e => .inr (.inl ⟨i, hi, e⟩)) (rows_set _ _ _ _)
end
set_option maxRecDepth 100000 in
set_option maxHeartbeats 2000000 in
theorem pgo_any (B gp gg gr wd : Nat) (Rs : List Rw) (Ls : List Ln) (r : Nat) (c : Int) (pd au : Bool) (w : World) (h : PenY Yo w B gp gg gr wd Rs Ls r c pd au) (hr : r < Ls.length) : Calls Tryz.prog 113 #[.pointer (some ⟨gp, 0, none⟩)] w (fun e w' => e = .returned (.tuple #[]) ∧ PDoY Yo w B gp gg gr wd Rs (goL Ls r) (downR Ls r : Nat) 0 false au w') := by
  have hrl := h.sizes.2.2.2.2.1
  have e0 := ext_cell (h.1.cell 0 _ rfl)
  have e1 := ext_cell (h.1.cell 1 _ rfl)
  have hi : r < Rs.length := by omega
  obtain ⟨gk, hgk⟩ : ∃ gk, gk = (Rs.getD r r0).g := ⟨_, rfl⟩
  have HG := Lib.hid (show ∀ u : Growth w, Calls Tryz.prog 62 #[.pointer (some ⟨gg, 0, none⟩), .int .i64 r] (ext w u) (fun e w' => e = .returned (.pointer (some ⟨gk, 0, none⟩)) ∧ ext w u = w') from fun u => by rw [hgk]; exact grow_in B gg gr wd Rs r _ (h.2.2.1.below u.ok) hi)
  have HGO := Lib.hid (show ∀ u : Growth w, Calls Tryz.prog 71 #[.pointer (some ⟨gk, 0, none⟩), .bool true] (ext w u) _ from fun u => by rw [hgk]; exact ggoon_any B gg gr wd r Rs true (ext w u) (h.2.2.1.below u.ok) hi)
  have H := Lib.hid (PAtY.start h)
  have hdr : downR (markL Ls r) r = downR Ls r := by unfold downR; rw [mark_len]
  have hml : r < (markL Ls r).length := by rw [mark_len]; exact hr
  have HDR := Lib.hid hdr
  have HML := Lib.hid hml
  clear h hrl hr hdr hml hgk
  go_enter Tryz.func113, Tryz.ntmps113
  go_wp2_with fail
  refine wp_region_ext_tail 10 (by kernel_rfl) (by simp) (by kernel_rfl) (by kernel_rfl) (by kernel_rfl) (by kernel_rfl) (by kernel_rfl) ?_
  simp only [List.take_succ_cons, List.take_zero, List.drop_succ_cons, List.drop_zero]
  repeat (go_big_quiet_step ((go_at_call 62; exact callx_same (HG.out _))))
  refine wpQuiet_nil ?_
  intro _ hw'
  obtain ⟨u, hw''⟩ := hw'
  subst hw''
  have H1 := Lib.hid (H.out.below u.ok)
  have hg1 := HGO.out u
  go_wp2_with fail
  refine hg1.mono ?_
  rintro e w2 ⟨rfl, hg2, hu2⟩
  have h2 := H1.out.mark r hi hg2 hu2
  have H2 := Lib.hid h2
  have q1 := h2.1.1.cell 1 _ rfl
  have q2 := h2.1.1.cell 2 _ rfl
  have q3 := h2.1.1.cell 3 _ rfl
  clear hg1 hg2 hu2 h2 e0 e1
  go_wp2_with fail
  refine (cret_any r c pd w2).mono ?_
  rintro e w3 ⟨rfl, b3⟩
  have h3 := H2.out.below b3
  have p1 := h3.1.1.cell 1 _ rfl
  have p2 := h3.1.1.cell 2 _ rfl
  have p3 := h3.1.1.cell 3 _ rfl
  have f1 := h3.1.1.free 1
  have f2 := h3.1.1.free 2
  have f3 := h3.1.1.free 3
  have h4 := h3.turn r 0 false
  obtain ⟨W4, hW4⟩ : ∃ W4, W4 = (((w3.setCell ⟨gp, 1, none⟩ (.int .i64 r)).setCell ⟨gp, 2, none⟩ (.int .i64 0)).setCell ⟨gp, 3, none⟩ (.bool false)) := ⟨_, rfl⟩
  rw [← hW4] at h4
  have H4 := Lib.hid h4
  have HW4 := Lib.hid hW4
  clear h3 h4 b3 q1 q2 q3 hW4
  go_upto_region 2 with (fail)
  rw [← HW4.out]
  clear HW4 p1 p2 p3 f1 f2 f3
  have hd := pdown_any B gp gg gr wd _ (markL Ls r) r 0 false au W4 H4.out.1 HML.out
  rw [HDR.out] at hd
  go_wp2_with fail
  refine hd.mono ?_
  rintro e w5 ⟨rfl, k5⟩
  obtain ⟨R5, h5⟩ := H4.out.go k5
  have HF := Lib.hid h5.done
  clear hd k5 h5
  go_wp2
  exact bodyPost_end (by kernel_rfl) rfl ⟨rfl, HF.out⟩
/-- Room, where rows don't go on by themselves. -/
theorem proom_off (B gp gg gr wd : Nat) (Rs : List Rw) (Ls : List Ln) (r c : Nat) (pd : Bool) (w : World) (h : PenY Yo w B gp gg gr wd Rs Ls r ((c : Int) + 1) pd false) (hc : c ≤ 2000) : Calls Tryz.prog 114 #[.pointer (some ⟨gp, 0, none⟩)] w (fun e w' => e = .returned (.tuple #[]) ∧ PDoY Yo w B gp gg gr wd Rs Ls r c false false w') := by
  have q1 := h.1.cell 1 _ rfl
  have q2 := h.1.cell 2 _ rfl
  have q3 := h.1.cell 3 _ rfl
  have q4 := h.1.cell 4 _ rfl
  have H := Lib.hid (PAtY.start h)
  have HC := Lib.hid hc
  clear h hc
  go_enter Tryz.func114, Tryz.ntmps114
  go_wp2_with fail
  refine (cback_any r c pd w HC.out).mono ?_
  rintro e w3 ⟨rfl, b3⟩
  have h3 := H.out.below b3
  have p1 := h3.1.1.cell 1 _ rfl
  have p2 := h3.1.1.cell 2 _ rfl
  have p3 := h3.1.1.cell 3 _ rfl
  have f1 := h3.1.1.free 1
  have f2 := h3.1.1.free 2
  have f3 := h3.1.1.free 3
  have HF := Lib.hid (h3.turn r c false).done
  clear h3 b3
  go_wp2
  exact bodyPost_ret (v := .tuple #[]) (by simp [results, Tryz.results114, go_sem]) rfl ⟨rfl, HF.out⟩
set_option maxRecDepth 100000 in
/-- Row.Paint of a row of a pen's grid. -/
theorem ppaint_any {w0 w : World} {B gp gg gr wd : Nat} {Rs R1 : List Rw} {Ls : List Ln} {r c : Int} {pd au : Bool} (h : PAtY Yo w0 B gp gg gr wd Rs R1 Ls r c pd au w) (i a : Nat) (hi : i < R1.length) (p : List Cl) (v : Value) (Y : Zone) (hv : HeldE cellE Y w v p) (hY : ∀ b, Y b → w0.heap.size ≤ b ∧ b ≠ (R1.getD i r0).g ∧ b ≠ (R1.getD i r0).gc) (hle : a + p.length ≤ wd) (hp : soundB p = true) :
    Calls Tryz.prog 188 #[.pointer (some ⟨(R1.getD i r0).g, 0, none⟩), .int .i64 a, v] w (fun e w2 => e = .returned .nilIface ∧ (∃ R2, PAtY Yo w0 B gp gg gr wd Rs R2 (pntL Ls i a p) r c pd au w2) ∧ Upd (fun x => x = (R1.getD i r0).g ∨ x = (R1.getD i r0).gc) w w2) := by
  have hs := h.1.2.2.1.sizes.2.2.2.2 i hi
  refine (h.1.2.2.1.painted (L := paintL (R1.getD i r0).L p a) (b := (R1.getD i r0).wrap && !lastHit (R1.getD i r0).L p a) hi (by rw [paint_len]; exact hs) (fun Z hZ hr => rpaint_good Z Y B _ _ _ p _ v w hr hv (fun b hb => (hY b hb).2) hZ a (by omega) hp)).mono ?_
  rintro e w2 ⟨rfl, hg, hu⟩
  exact ⟨rfl, ⟨_, h.paint i a p hi hg hu⟩, hu⟩
set_option maxRecDepth 100000 in
/-- mark.Put in a row of a pen's grid. -/
theorem pmark_any {w0 w : World} {B gp gg gr wd : Nat} {Rs R1 : List Rw} {Ls : List Ln} {r c : Int} {pd au : Bool} (h : PAtY Yo w0 B gp gg gr wd Rs R1 Ls r c pd au w) (i a : Nat) (k : Int) (hi : i < R1.length) (xs : List Int) (v : Value) (Y : Zone) (hv : HeldE (intE .i32) Y w v xs) (hw : wrongI wd (a : Int) (ofC k xs) = 0) :
    Calls Tryz.prog 115 #[.pointer (some ⟨(R1.getD i r0).g, 0, none⟩), .int .i64 a, .int .i64 k, v] w (fun e w2 => e = .returned .nilIface ∧ ∃ R2, PAtY Yo w0 B gp gg gr wd Rs R2 (pntL Ls i a (ofC k xs)) r c pd au w2) := by
  have hs := h.1.2.2.1.sizes.2.2.2.2 i hi
  refine (h.1.2.2.1.painted (L := paintL (R1.getD i r0).L (ofC k xs) a) (b := (R1.getD i r0).wrap && !lastHit (R1.getD i r0).L (ofC k xs) a) hi (by rw [paint_len]; exact hs) (fun Z hZ hr => by
    have := mput_z Z Y B _ _ _ (R1.getD i r0).wrap (a : Int) k v xs w hZ hr hv (by rw [hs]; exact hw)
    rwa [Int.toNat_natCast] at this)).mono ?_
  rintro e w2 ⟨rfl, hg, hu⟩
  exact ⟨rfl, _, h.paint i a _ hi hg hu⟩
end Go.Proofs.YtoeggiplcaegoaaGreatDoor
/- A pen's makeRoom where rows go on by themselves; NewLine; New. -/
namespace Go.Proofs.YtoeggiplcaegoaaGreatDoor
open Go.RowKit Go.ChangeShapes Go.WideShapes
variable {Yo : Zone}
set_option maxRecDepth 100000 in
set_option maxHeartbeats 3000000 in
theorem proom_on (B gp gg gr wd : Nat) (Rs : List Rw) (Ls : List Ln) (r c : Nat) (pd : Bool) (w : World) (h : PenY Yo w B gp gg gr wd Rs Ls r c pd true) (hr : r < Ls.length) (hc : c < wd) : Calls Tryz.prog 114 #[.pointer (some ⟨gp, 0, none⟩)] w (fun e w' => e = .returned (.tuple #[]) ∧ PDoY Yo w B gp gg gr wd Rs (goL (pntL Ls r c [zc]) r) (downR Ls r : Nat) 0 false true w') := by
  have hrl := h.sizes.2.2.2.2.1
  have q4 := h.1.cell 4 _ rfl
  have hi : r < Rs.length := by omega
  have hlt := h.2.2.1.lt.2.2.2.2.2 r hi
  obtain ⟨gk, hgk⟩ : ∃ gk, gk = (Rs.getD r r0).g := ⟨_, rfl⟩
  have HLT := Lib.hid hlt
  have HI := Lib.hid hi
  have H := Lib.hid (PAtY.start h)
  have hdr : downR (pntL Ls r c [zc]) r = downR Ls r := by unfold downR; rw [pnt_len]
  have hml : r < (pntL Ls r c [zc]).length := by rw [pnt_len]; exact hr
  have HDR := Lib.hid hdr
  have HML := Lib.hid hml
  have HGK := Lib.hid hgk
  have HC := Lib.hid hc
  clear h hrl hr hdr hml hgk hlt hi hc
  go_enter Tryz.func114, Tryz.ntmps114
  obtain ⟨Erg, hErg⟩ : ∃ EE : Nat → Value → World → Prop, EE = fun jj xx ww => match jj with
      | 0 => xx = .pointer (some ⟨gp, 0, none⟩)
      | 1 => xx = .pointer (some ⟨gp, 0, none⟩)
      | 2 => xx = .pointer (some ⟨gp, 0, none⟩)
      | 3 => xx = .pointer (some ⟨gg, 0, none⟩)
      | 4 => xx = .pointer (some ⟨gp, 0, none⟩)
      | 5 => xx = .pointer (some ⟨gp, 0, none⟩)
      | 6 => xx = .pointer (some ⟨gp, 1, none⟩)
      | 7 => xx = .pointer (some ⟨gp, 1, none⟩)
      | 8 => xx = .int .i64 r
      | 9 => xx = .pointer (some ⟨gk, 0, none⟩)
      | 10 => xx = .pointer (some ⟨gp, 0, none⟩)
      | 11 => xx = .pointer (some ⟨gp, 0, none⟩)
      | 12 => xx = .pointer (some ⟨gp, 1, none⟩)
      | 13 => xx = .pointer (some ⟨gp, 2, none⟩)
      | 14 => xx = .int .i64 c
      | 15 => (fun x w' => HeldE cellE (fun b => w.heap.size ≤ b) w' x [zc]) xx ww
      | 16 => xx = .nilIface
      | _ => True := ⟨_, rfl⟩
  have erg0 : ∀ xx ww, Erg 0 xx ww = (xx = .pointer (some ⟨gp, 0, none⟩)) := fun xx ww => congrFun (congrFun (congrFun hErg 0) xx) ww
  have erg1 : ∀ xx ww, Erg 1 xx ww = (xx = .pointer (some ⟨gp, 0, none⟩)) := fun xx ww => congrFun (congrFun (congrFun hErg 1) xx) ww
  have erg2 : ∀ xx ww, Erg 2 xx ww = (xx = .pointer (some ⟨gp, 0, none⟩)) := fun xx ww => congrFun (congrFun (congrFun hErg 2) xx) ww
  have erg3 : ∀ xx ww, Erg 3 xx ww = (xx = .pointer (some ⟨gg, 0, none⟩)) := fun xx ww => congrFun (congrFun (congrFun hErg 3) xx) ww
  have erg4 : ∀ xx ww, Erg 4 xx ww = (xx = .pointer (some ⟨gp, 0, none⟩)) := fun xx ww => congrFun (congrFun (congrFun hErg 4) xx) ww
  have erg5 : ∀ xx ww, Erg 5 xx ww = (xx = .pointer (some ⟨gp, 0, none⟩)) := fun xx ww => congrFun (congrFun (congrFun hErg 5) xx) ww
  have erg6 : ∀ xx ww, Erg 6 xx ww = (xx = .pointer (some ⟨gp, 1, none⟩)) := fun xx ww => congrFun (congrFun (congrFun hErg 6) xx) ww
  have erg7 : ∀ xx ww, Erg 7 xx ww = (xx = .pointer (some ⟨gp, 1, none⟩)) := fun xx ww => congrFun (congrFun (congrFun hErg 7) xx) ww
  have erg8 : ∀ xx ww, Erg 8 xx ww = (xx = .int .i64 r) := fun xx ww => congrFun (congrFun (congrFun hErg 8) xx) ww
  have erg9 : ∀ xx ww, Erg 9 xx ww = (xx = .pointer (some ⟨gk, 0, none⟩)) := fun xx ww => congrFun (congrFun (congrFun hErg 9) xx) ww
  have erg10 : ∀ xx ww, Erg 10 xx ww = (xx = .pointer (some ⟨gp, 0, none⟩)) := fun xx ww => congrFun (congrFun (congrFun hErg 10) xx) ww
  have erg11 : ∀ xx ww, Erg 11 xx ww = (xx = .pointer (some ⟨gp, 0, none⟩)) := fun xx ww => congrFun (congrFun (congrFun hErg 11) xx) ww
  have erg12 : ∀ xx ww, Erg 12 xx ww = (xx = .pointer (some ⟨gp, 1, none⟩)) := fun xx ww => congrFun (congrFun (congrFun hErg 12) xx) ww
  have erg13 : ∀ xx ww, Erg 13 xx ww = (xx = .pointer (some ⟨gp, 2, none⟩)) := fun xx ww => congrFun (congrFun (congrFun hErg 13) xx) ww
  have erg14 : ∀ xx ww, Erg 14 xx ww = (xx = .int .i64 c) := fun xx ww => congrFun (congrFun (congrFun hErg 14) xx) ww
  have erg15 : ∀ xx ww, Erg 15 xx ww = ((fun x w' => HeldE cellE (fun b => w.heap.size ≤ b) w' x [zc]) xx ww) := fun xx ww => congrFun (congrFun (congrFun hErg 15) xx) ww
  have erg16 : ∀ xx ww, Erg 16 xx ww = (xx = .nilIface) := fun xx ww => congrFun (congrFun (congrFun hErg 16) xx) ww
  obtain ⟨Crg, hCrg⟩ : ∃ CC : Array Bool → World → Prop, CC = fun L8 w' => (Mix.one L8 16 = 0 → Below w.heap.size w w') ∧ (Mix.one L8 16 = 1 → ∃ R2, PAtY Yo w B gp gg gr wd Rs R2 (pntL Ls r c [zc]) r c pd true w') := ⟨_, rfl⟩
  have krg : ∀ i L w, i ≠ 16 →  Crg L w → Crg (L.setIfInBounds i true) w := by
    intro i L w q16 h
    rw [hCrg] at h ⊢
    simp only [Mix.one_ne q16]; exact h
  obtain ⟨Xrg, hXrg⟩ : ∃ XX : World → World → Prop, XX = fun x y => Upd (fun b => b < w.heap.size) x y := ⟨_, rfl⟩
  have xrg : ∀ w, Xrg w w := fun w => by rw [hXrg]; exact Upd.refl _ _
  have strg : ∀ j x w w1, Xrg w w1 → Erg j x w → Erg j x w1 := by
    intro j x w w1 hx h
    rw [hXrg] at hx
    match j with
    | 0 => rw [erg0] at h ⊢; exact h
    | 1 => rw [erg1] at h ⊢; exact h
    | 2 => rw [erg2] at h ⊢; exact h
    | 3 => rw [erg3] at h ⊢; exact h
    | 4 => rw [erg4] at h ⊢; exact h
    | 5 => rw [erg5] at h ⊢; exact h
    | 6 => rw [erg6] at h ⊢; exact h
    | 7 => rw [erg7] at h ⊢; exact h
    | 8 => rw [erg8] at h ⊢; exact h
    | 9 => rw [erg9] at h ⊢; exact h
    | 10 => rw [erg10] at h ⊢; exact h
    | 11 => rw [erg11] at h ⊢; exact h
    | 12 => rw [erg12] at h ⊢; exact h
    | 13 => rw [erg13] at h ⊢; exact h
    | 14 => rw [erg14] at h ⊢; exact h
    | 15 => rw [erg15] at h ⊢; (exact HeldE.upd h hx (fun b hb e => by omega))
    | 16 => rw [erg16] at h ⊢; exact h
    | j + 17 => rw [hErg]; trivial
  have crg : Crg (Array.replicate 17 false) w.drew := by rw [hCrg]; exact ⟨fun _ => (Below.refl _ _).drew, fun e => absurd e (by decide)⟩
  have brg : ∀ L w w1, Crg L w → Below w.heap.size w w1 → Crg L w1 := by
    intro L w w1 h hb
    rw [hCrg] at h ⊢
    (obtain ⟨q1, q2⟩ := h; exact ⟨fun e => (q1 e).trans (hb.mono (q1 e).size), fun e => by obtain ⟨R2, h2⟩ := q2 e; exact ⟨R2, h2.below hb⟩⟩)
  have xbrg : ∀ w w1, Below w.heap.size w w1 → Xrg w w1 := by
    intro w w1 hb
    rw [hXrg]
    exact Upd.ofBelow hb
  have Hrgb := Lib.hid brg
  have Hrgxb := Lib.hid xbrg
  clear brg xbrg
  clear hErg
  have Hrgk := Lib.hid krg
  have Hrgx := Lib.hid xrg
  have Hrgst := Lib.hid strg
  have Hrgc := Lib.hid crg
  have HrghC := Lib.hid hCrg
  have HrghX := Lib.hid hXrg
  have Hrge0 := Lib.hid erg0
  have Hrge1 := Lib.hid erg1
  have Hrge2 := Lib.hid erg2
  have Hrge3 := Lib.hid erg3
  have Hrge4 := Lib.hid erg4
  have Hrge5 := Lib.hid erg5
  have Hrge6 := Lib.hid erg6
  have Hrge7 := Lib.hid erg7
  have Hrge8 := Lib.hid erg8
  have Hrge9 := Lib.hid erg9
  have Hrge10 := Lib.hid erg10
  have Hrge11 := Lib.hid erg11
  have Hrge12 := Lib.hid erg12
  have Hrge13 := Lib.hid erg13
  have Hrge14 := Lib.hid erg14
  have Hrge15 := Lib.hid erg15
  have Hrge16 := Lib.hid erg16
  clear krg xrg strg crg hCrg hXrg erg0 erg1 erg2 erg3 erg4 erg5 erg6 erg7 erg8 erg9 erg10 erg11 erg12 erg13 erg14 erg15 erg16
  go_wp2_with fail
  refine Reg.regionF Erg Crg Xrg Hrgst.out (by kernel_rfl) (by kernel_rfl) (by kernel_rfl) Hrgc.out (fun Frg hFrg => ?_)
  simp only [Reg.frame, Reg.dsts, List.map_cons, List.map_nil, Mix.put_lit, List.set_cons_succ, List.set_cons_zero, Nat.zero_add, Nat.reduceAdd] at hFrg
  refine ⟨?_, ?_⟩
  · refine ⟨?_, ?_, ?_, ?_, ?_, ?_, ?_, ?_, ?_, ?_, ?_, ?_, ?_, ?_, ?_, ?_, ?_, trivial⟩
    · intro Lq wq xq hh
      simp only [hFrg]
      refine .inl ⟨rfl, ?_⟩
      unfold Reg.upon
      have hk := Hrgk.out 0 Lq wq (by decide)  hh.cls
      have hx := Hrgx.out wq
      have he : Erg 0 (.pointer (some ⟨gp, 0, none⟩)) wq := by rw [Hrge0.out]
      have HK := Lib.hid (And.intro hk (And.intro he hx))
      clear hk hx he
      go_simp
      exact HK.out
    · intro Lq wq xq hh
      have d0 : Erg 0 (xq 0) wq := hh.val 0 (by kernel_rfl) (by kernel_rfl)
      rw [Hrge0.out] at d0
      simp only [hFrg, d0]
      clear d0
      refine .inl ⟨rfl, ?_⟩
      unfold Reg.upon
      have hk := Hrgk.out 1 Lq wq (by decide)  hh.cls
      have hx := Hrgx.out wq
      have he : Erg 1 (.pointer (some ⟨gp, 0, none⟩)) wq := by rw [Hrge1.out]
      have HK := Lib.hid (And.intro hk (And.intro he hx))
      clear hk hx he
      go_simp
      exact HK.out
    · intro Lq wq xq hh
      have d1 : Erg 1 (xq 1) wq := hh.val 1 (by kernel_rfl) (by kernel_rfl)
      rw [Hrge1.out] at d1
      simp only [hFrg, d1]
      clear d1
      refine .inl ⟨rfl, ?_⟩
      unfold Reg.upon
      have hk := Hrgk.out 2 Lq wq (by decide)  hh.cls
      have hx := Hrgx.out wq
      have he : Erg 2 (.pointer (some ⟨gp, 0, none⟩)) wq := by rw [Hrge2.out]
      have HK := Lib.hid (And.intro hk (And.intro he hx))
      clear hk hx he
      go_simp
      exact HK.out
    · intro Lq wq xq hh
      have d2 : Erg 2 (xq 2) wq := hh.val 2 (by kernel_rfl) (by kernel_rfl)
      rw [Hrge2.out] at d2
      simp only [hFrg, d2]
      clear d2
      refine .inl ⟨rfl, ?_⟩
      unfold Reg.upon
      have hc : Crg Lq wq := hh.cls
      rw [HrghC.out] at hc
      have hp := H.out.below (hc.1 (Mix.one_un (hh.notYet 16 (by kernel_rfl))))
      have q0 := hp.1.1.cell 0 _ rfl
      clear hc
      have hk := Hrgk.out 3 Lq wq (by decide)  hh.cls
      have hx := Hrgx.out wq
      have he : Erg 3 (.pointer (some ⟨gg, 0, none⟩)) wq := by rw [Hrge3.out]
      have HK := Lib.hid (And.intro hk (And.intro he hx))
      clear hk hx he
      go_simp
      exact HK.out
    · intro Lq wq xq hh
      simp only [hFrg]
      refine .inl ⟨rfl, ?_⟩
      unfold Reg.upon
      have hk := Hrgk.out 4 Lq wq (by decide)  hh.cls
      have hx := Hrgx.out wq
      have he : Erg 4 (.pointer (some ⟨gp, 0, none⟩)) wq := by rw [Hrge4.out]
      have HK := Lib.hid (And.intro hk (And.intro he hx))
      clear hk hx he
      go_simp
      exact HK.out
    · intro Lq wq xq hh
      have d4 : Erg 4 (xq 4) wq := hh.val 4 (by kernel_rfl) (by kernel_rfl)
      rw [Hrge4.out] at d4
      simp only [hFrg, d4]
      clear d4
      refine .inl ⟨rfl, ?_⟩
      unfold Reg.upon
      have hk := Hrgk.out 5 Lq wq (by decide)  hh.cls
      have hx := Hrgx.out wq
      have he : Erg 5 (.pointer (some ⟨gp, 0, none⟩)) wq := by rw [Hrge5.out]
      have HK := Lib.hid (And.intro hk (And.intro he hx))
      clear hk hx he
      go_simp
      exact HK.out
    · intro Lq wq xq hh
      have d5 : Erg 5 (xq 5) wq := hh.val 5 (by kernel_rfl) (by kernel_rfl)
      rw [Hrge5.out] at d5
      simp only [hFrg, d5]
      clear d5
      refine .inl ⟨rfl, ?_⟩
      unfold Reg.upon
      have hk := Hrgk.out 6 Lq wq (by decide)  hh.cls
      have hx := Hrgx.out wq
      have he : Erg 6 (.pointer (some ⟨gp, 1, none⟩)) wq := by rw [Hrge6.out]
      have HK := Lib.hid (And.intro hk (And.intro he hx))
      clear hk hx he
      go_simp
      exact HK.out
    · intro Lq wq xq hh
      have d6 : Erg 6 (xq 6) wq := hh.val 6 (by kernel_rfl) (by kernel_rfl)
      rw [Hrge6.out] at d6
      simp only [hFrg, d6]
      clear d6
      refine .inl ⟨rfl, ?_⟩
      unfold Reg.upon
      have hk := Hrgk.out 7 Lq wq (by decide)  hh.cls
      have hx := Hrgx.out wq
      have he : Erg 7 (.pointer (some ⟨gp, 1, none⟩)) wq := by rw [Hrge7.out]
      have HK := Lib.hid (And.intro hk (And.intro he hx))
      clear hk hx he
      go_simp
      exact HK.out
    · intro Lq wq xq hh
      have d7 : Erg 7 (xq 7) wq := hh.val 7 (by kernel_rfl) (by kernel_rfl)
      rw [Hrge7.out] at d7
      simp only [hFrg, d7]
      clear d7
      refine .inl ⟨rfl, ?_⟩
      unfold Reg.upon
      have hc : Crg Lq wq := hh.cls
      rw [HrghC.out] at hc
      have hp := H.out.below (hc.1 (Mix.one_un (hh.notYet 16 (by kernel_rfl))))
      have q0 := hp.1.1.cell 1 _ rfl
      clear hc
      have hk := Hrgk.out 8 Lq wq (by decide)  hh.cls
      have hx := Hrgx.out wq
      have he : Erg 8 (.int .i64 r) wq := by rw [Hrge8.out]
      have HK := Lib.hid (And.intro hk (And.intro he hx))
      clear hk hx he
      go_simp
      exact HK.out
    · intro Lq wq xq hh
      have d3 : Erg 3 (xq 3) wq := hh.val 3 (by kernel_rfl) (by kernel_rfl)
      rw [Hrge3.out] at d3
      have d8 : Erg 8 (xq 8) wq := hh.val 8 (by kernel_rfl) (by kernel_rfl)
      rw [Hrge8.out] at d8
      simp only [hFrg, d3, d8]
      clear d3 d8
      refine .inl ⟨rfl, ?_⟩
      unfold Reg.upon
      have hc : Crg Lq wq := hh.cls
      rw [HrghC.out] at hc
      go_simp
      refine (show Calls Tryz.prog 62 #[.pointer (some ⟨gg, 0, none⟩), .int .i64 r] wq (fun e w' => e = .returned (.pointer (some ⟨gk, 0, none⟩)) ∧ wq = w') from by rw [HGK.out]; exact grow_in B gg gr wd Rs r wq (H.out.below (hc.1 (Mix.one_un (hh.notYet 16 (by kernel_rfl))))).1.2.2.1 HI.out).mono ?_
      rintro e w2 ⟨rfl, rfl⟩
      exact ⟨_, rfl, Hrgk.out 9 Lq wq (by decide)  hh.cls, (by rw [Hrge9.out]; try rfl), Hrgx.out _⟩
    · intro Lq wq xq hh
      simp only [hFrg]
      refine .inl ⟨rfl, ?_⟩
      unfold Reg.upon
      have hk := Hrgk.out 10 Lq wq (by decide)  hh.cls
      have hx := Hrgx.out wq
      have he : Erg 10 (.pointer (some ⟨gp, 0, none⟩)) wq := by rw [Hrge10.out]
      have HK := Lib.hid (And.intro hk (And.intro he hx))
      clear hk hx he
      go_simp
      exact HK.out
    · intro Lq wq xq hh
      have d10 : Erg 10 (xq 10) wq := hh.val 10 (by kernel_rfl) (by kernel_rfl)
      rw [Hrge10.out] at d10
      simp only [hFrg, d10]
      clear d10
      refine .inl ⟨rfl, ?_⟩
      unfold Reg.upon
      have hk := Hrgk.out 11 Lq wq (by decide)  hh.cls
      have hx := Hrgx.out wq
      have he : Erg 11 (.pointer (some ⟨gp, 0, none⟩)) wq := by rw [Hrge11.out]
      have HK := Lib.hid (And.intro hk (And.intro he hx))
      clear hk hx he
      go_simp
      exact HK.out
    · intro Lq wq xq hh
      have d11 : Erg 11 (xq 11) wq := hh.val 11 (by kernel_rfl) (by kernel_rfl)
      rw [Hrge11.out] at d11
      simp only [hFrg, d11]
      clear d11
      refine .inl ⟨rfl, ?_⟩
      unfold Reg.upon
      have hk := Hrgk.out 12 Lq wq (by decide)  hh.cls
      have hx := Hrgx.out wq
      have he : Erg 12 (.pointer (some ⟨gp, 1, none⟩)) wq := by rw [Hrge12.out]
      have HK := Lib.hid (And.intro hk (And.intro he hx))
      clear hk hx he
      go_simp
      exact HK.out
    · intro Lq wq xq hh
      have d12 : Erg 12 (xq 12) wq := hh.val 12 (by kernel_rfl) (by kernel_rfl)
      rw [Hrge12.out] at d12
      simp only [hFrg, d12]
      clear d12
      refine .inl ⟨rfl, ?_⟩
      unfold Reg.upon
      have hk := Hrgk.out 13 Lq wq (by decide)  hh.cls
      have hx := Hrgx.out wq
      have he : Erg 13 (.pointer (some ⟨gp, 2, none⟩)) wq := by rw [Hrge13.out]
      have HK := Lib.hid (And.intro hk (And.intro he hx))
      clear hk hx he
      go_simp
      exact HK.out
    · intro Lq wq xq hh
      have d13 : Erg 13 (xq 13) wq := hh.val 13 (by kernel_rfl) (by kernel_rfl)
      rw [Hrge13.out] at d13
      simp only [hFrg, d13]
      clear d13
      refine .inl ⟨rfl, ?_⟩
      unfold Reg.upon
      have hc : Crg Lq wq := hh.cls
      rw [HrghC.out] at hc
      have hp := H.out.below (hc.1 (Mix.one_un (hh.notYet 16 (by kernel_rfl))))
      have q0 := hp.1.1.cell 2 _ rfl
      clear hc
      have hk := Hrgk.out 14 Lq wq (by decide)  hh.cls
      have hx := Hrgx.out wq
      have he : Erg 14 (.int .i64 c) wq := by rw [Hrge14.out]
      have HK := Lib.hid (And.intro hk (And.intro he hx))
      clear hk hx he
      go_simp
      exact HK.out
    · intro Lq wq xq hh
      simp only [hFrg]
      refine .inl ⟨rfl, ?_⟩
      unfold Reg.upon
      have hc : Crg Lq wq := hh.cls
      rw [HrghC.out] at hc
      go_simp
      refine (blanks_any (fun b => w.heap.size ≤ b) 1 wq).mono ?_
      rintro e w2 ⟨v2, rfl, ho2, hb2⟩
      refine ⟨_, rfl, Hrgk.out 15 Lq w2 (by decide) (Hrgb.out Lq wq w2 hh.cls hb2), ?_, Hrgxb.out wq w2 hb2⟩
      rw [Hrge15.out]
      exact ho2.held (fun b hb _ => Nat.le_trans (hc.1 (Mix.one_un (hh.notYet 16 (by kernel_rfl)))).size hb)
    · intro Lq wq xq hh
      have d9 : Erg 9 (xq 9) wq := hh.val 9 (by kernel_rfl) (by kernel_rfl)
      rw [Hrge9.out] at d9
      have d14 : Erg 14 (xq 14) wq := hh.val 14 (by kernel_rfl) (by kernel_rfl)
      rw [Hrge14.out] at d14
      have d15 : Erg 15 (xq 15) wq := hh.val 15 (by kernel_rfl) (by kernel_rfl)
      rw [Hrge15.out] at d15
      simp only [hFrg, d9, d14]
      clear d9 d14
      refine .inl ⟨rfl, ?_⟩
      unfold Reg.upon
      have hc : Crg Lq wq := hh.cls
      rw [HrghC.out] at hc
      go_simp
      refine (show Calls Tryz.prog 188 #[.pointer (some ⟨gk, 0, none⟩), .int .i64 c, xq 15] wq _ from by rw [HGK.out]; exact ppaint_any (H.out.below (hc.1 hh.un)) r c HI.out [zc] (xq 15) _ d15 (fun b hb => ⟨hb, by have := HLT.out; omega, by have := HLT.out; omega⟩) (by have := HC.out; simp only [List.length_singleton]; omega) (by decide)).mono ?_
      rintro e w2 ⟨rfl, h2, u2⟩
      refine ⟨_, rfl, ?_, (by rw [Hrge16.out]), by rw [HrghX.out]; exact u2.mono fun b _ e => by have := HLT.out; rcases e with e | e <;> omega⟩
      rw [HrghC.out]
      exact ⟨fun e => (by rw [Mix.one_set (by rw [hh.size]; decide)] at e; exact absurd e (by decide)), fun _ => h2⟩
  intro xq wrg hcrg hvrg
  rw [HrghC.out] at hcrg
  simp only [hFrg]
  clear hvrg hFrg Hrgk Hrgx Hrgst Hrgc HrghC HrghX Hrgb Hrgxb Hrge0 Hrge1 Hrge2 Hrge3 Hrge4 Hrge5 Hrge6 Hrge7 Hrge8 Hrge9 Hrge10 Hrge11 Hrge12 Hrge13 Hrge14 Hrge15 Hrge16
  obtain ⟨R2, h2⟩ := hcrg.2 (by kernel_rfl)
  have H2 := Lib.hid h2
  clear hcrg h2 q4
  have hd := pgo_any B gp gg gr wd _ (pntL Ls r c [zc]) r c pd true wrg H2.out.1 HML.out
  rw [HDR.out] at hd
  go_wp2_with fail
  refine hd.mono ?_
  rintro e w5 ⟨rfl, k5⟩
  obtain ⟨R5, h5⟩ := H2.out.go k5
  have HF := Lib.hid h5.done
  clear hd k5 h5
  go_wp2
  exact bodyPost_end (by kernel_rfl) rfl ⟨rfl, HF.out⟩
/-- A new pen. -/
theorem pnew_any (a b : Int) (w : World) : Calls Tryz.prog 31 #[.int .i64 a, .int .i64 b] w (fun e w' => ∃ gp gg gr Rs, e = .returned (.pointer (some ⟨gp, 0, none⟩)) ∧ PenAt w' w.heap.size gp gg gr (rowN a) Rs (List.replicate (rowN b) (List.replicate (rowN a) zc, false)) 0 0 false true ∧ Below w.heap.size w w') := by
  go_enter Tryz.func31, Tryz.ntmps31
  go_wp2_with fail
  refine (gnew_any a b w).mono ?_
  rintro e w1 ⟨gg, gr, Rs, rfl, hg, hm, b1⟩
  have hb := (Below.refl w1.heap.size w1).alloc (Nat.le_refl _) (.cells [Value.pointer (some ⟨gg, 0, none⟩), .int .i64 0, .int .i64 0, .bool false, .bool true].toArray 42)
  have hn := Has.new w1 [Value.pointer (some ⟨gg, 0, none⟩), .int .i64 0, .int .i64 0, .bool false, .bool true] 42
  have HF := Lib.hid (show PenAt (w1.alloc (.cells [Value.pointer (some ⟨gg, 0, none⟩), .int .i64 0, .int .i64 0, .bool false, .bool true].toArray 42)) w.heap.size w1.heap.size gg gr (rowN a) Rs (List.replicate (rowN b) (List.replicate (rowN a) zc, false)) 0 0 false true from ⟨hn, b1.size, hg.below hb, hm⟩)
  have HB := Lib.hid (b1.trans (hb.mono b1.size))
  clear hg hm b1 hb hn
  go_wp2
  go_ret
  exact ⟨_, gg, gr, Rs, (ret_eq (by first | rfl | (simp <;> omega))), HF.out, HB.out⟩
end Go.Proofs.YtoeggiplcaegoaaGreatDoor
/- The reference's pen: NewLine, GoOn. -/
namespace Go.Proofs.YtoeggiplcaegoaaGreatDoor
open Go.RowKit Go.ChangeShapes Go.WideShapes
set_option maxRecDepth 100000 in
set_option maxHeartbeats 3000000 in
theorem rpnl_any (Z : Zone) (v : Value) (Ls : List Ln) (r c : Int) (pd au : Bool) (w : World) (wd : Nat) (hv : HeldE lineE Z w v Ls) (hZ : ∀ b, Z b → b < w.heap.size) (hev : Even Ls wd) (r2 c2 : Nat) (hr2 : inI r (sideI Ls.length) = (r2 : Int)) (hc2 : inI c (sideI wd) = (c2 : Int)) (hlt : r2 < Ls.length) :
    Calls Tryz.prog 162 #[.agg #[v, .int .i64 r, .int .i64 c, .bool pd, .bool au]] w (RPen Z w (downL Ls r2) (downR Ls r2 : Nat) c2 false au) := by
  obtain ⟨ao, ca, rfl⟩ := hv.len
  obtain ⟨W, hW, hb, hr, hl0⟩ := pboxes w (.slice ao Ls.length ca) (.int .i64 r) (.int .i64 c) (.bool pd) (.bool au) (.slice none 0 0) (.int .i64 0) (.int .i64 0) (.bool false) (.bool false)
  have hs : W.heap.size = w.heap.size + 2 := by rw [hW]; simp
  have HV := Lib.hid (hv.below hl0)
  have HH := Lib.hid (rph_any Z (.slice ao Ls.length ca) Ls r c pd au W (hv.below hl0) hev.1 wd (hev.2.2.2.2 0 hev.1))
  rw [hr2, hc2] at HH
  obtain ⟨pd2, hpd⟩ : ∃ pd2, pd2 = holdP c pd wd := ⟨_, rfl⟩
  rw [← hpd] at HH
  have HB := Lib.hid hb
  have HR := Lib.hid hr
  have HL := Lib.hid hl0
  have HS := Lib.hid hs
  have HZ := Lib.hid hZ
  have HEV := Lib.hid hev
  obtain ⟨n, hn⟩ : ∃ n, n = Ls.length := ⟨_, rfl⟩
  have HN := Lib.hid hn
  rw [← hn] at hW hb HB HH HV hlt ⊢
  have c0 := hb.cell 0 _ rfl
  have c1 := hb.cell 1 _ rfl
  have c2' := hb.cell 2 _ rfl
  have c3 := hb.cell 3 _ rfl
  have c4 := hb.cell 4 _ rfl
  have hn1000 : n ≤ 1000 := by have := hev.2.1; omega
  clear hv hZ hev hr2 hc2 hb hr hl0 hs hpd hn
  go_enter Tryz.func162, Tryz.ntmps162
  go_upto_region 1 with (fail)
  rw [← hW]
  clear hW
  go_wp2_with fail
  refine HH.out.mono ?_
  rintro e w1 ⟨rfl, b1⟩
  clear c0 c1 c2' c3 c4
  have h1 := HB.out.below b1 HB.out.lt
  have r1 := HR.out.below b1 HR.out.lt
  have l1 : Below w.heap.size w w1 := HL.out.trans (b1.mono HL.out.size)
  have hs1 := b1.size
  have c0 := h1.cell 0 _ rfl
  have c1 := h1.cell 1 _ rfl
  have c2' := h1.cell 2 _ rfl
  have c3 := h1.cell 3 _ rfl
  have c4 := h1.cell 4 _ rfl
  have f0 := h1.free 0
  have f1 := h1.free 1
  have f2 := h1.free 2
  have f3 := h1.free 3
  have f4 := h1.free 4
  have hv2 := ((HV.out.below b1).upd (pres_upd w.heap.size (.slice ao n ca) (.int .i64 r2) (.int .i64 c2) (.bool pd2) (.bool au)) (fun x hx e => by have := HZ.out x hx; omega))
  have h2 := pres_has h1 (.slice ao n ca) (.int .i64 r2) (.int .i64 c2) (.bool pd2) (.bool au)
  have r2' := (pres_upd (W := w1) w.heap.size (.slice ao n ca) (.int .i64 r2) (.int .i64 c2) (.bool pd2) (.bool au)).keep.has r1 (fun e => by omega)
  have l2 := pres (g := w.heap.size) l1 (Nat.le_refl _) (.slice ao n ca) (.int .i64 r2) (.int .i64 c2) (.bool pd2) (.bool au)
  have hsz2 := (pres_upd (W := w1) w.heap.size (.slice ao n ca) (.int .i64 r2) (.int .i64 c2) (.bool pd2) (.bool au)).size
  obtain ⟨W2, hW2⟩ : ∃ W2, W2 = (((((w1.setCell ⟨w.heap.size, 0, none⟩ (.slice ao n ca)).setCell ⟨w.heap.size, 1, none⟩ (.int .i64 r2)).setCell ⟨w.heap.size, 2, none⟩ (.int .i64 c2)).setCell ⟨w.heap.size, 3, none⟩ (.bool pd2)).setCell ⟨w.heap.size, 4, none⟩ (.bool au)) := ⟨_, rfl⟩
  rw [← hW2] at hv2 h2 r2' l2 hsz2
  have hu3 := (Upd.refl (fun x => x = w.heap.size) W2).setCell (p := ⟨w.heap.size, 3, none⟩) (.inl rfl) (.bool false)
  have HV3 := Lib.hid (hv2.upd hu3 (fun x hx e => by have := HZ.out x hx; omega))
  have HB3 := Lib.hid (show Has (W2.setCell ⟨w.heap.size, 3, none⟩ (.bool false)) w.heap.size [.slice ao n ca, .int .i64 r2, .int .i64 c2, .bool false, .bool au] 43 from h2.set 3 _)
  have HR3 := Lib.hid (hu3.keep.has r2' (fun e => by omega))
  have HL3 := Lib.hid (l2.trans (((Upd.refl (fun b => w.heap.size ≤ b) W2).setCell (p := ⟨w.heap.size, 3, none⟩) (.inl (Nat.le_refl _)) (.bool false)).below l2.size fun _ e => e))
  have HS3 := Lib.hid (show w.heap.size + 2 ≤ (W2.setCell ⟨w.heap.size, 3, none⟩ (.bool false)).heap.size from by have := hu3.size; have := HS.out; omega)
  have p3 := h2.cell 3 _ rfl
  have s3 := h2.free 3
  clear h1 r1 l1 hv2 h2 r2' l2 hu3 b1 HB HR HV HL
  go_upto_region 2 with (fail)
  rw [← hW2]
  clear c0 c1 c2' c3 c4 f0 f1 f2 f3 f4 hW2
  go_upto_region 3 with (fail)
  obtain ⟨W3, hW3⟩ : ∃ W3, W3 = W2.setCell ⟨w.heap.size, 3, none⟩ (.bool false) := ⟨_, rfl⟩
  rw [← hW3] at HV3 HB3 HR3 HL3 HS3 ⊢
  clear hW3 p3 s3
  have q0 := HB3.out.cell 0 _ rfl
  have q1 := HB3.out.cell 1 _ rfl
  have s0 := HB3.out.free 0
  have s1 := HB3.out.free 1
  by_cases hm : r2 + 1 < n
  · have g1 : decide ((r2 : Int) + 1 < (n : Int)) = true := by rw [decide_eq_true_eq]; omega
    have hwr : IntKind.i64.wrap ((r2 : Int) + 1) = (r2 : Int) + 1 := by rw [IntKind.wrap_i64]; omega
    have HE := Lib.hid (down_more (show r2 + 1 < Ls.length from by rw [← HN.out]; exact hm))
    have hu4 := (Upd.refl (fun x => x = w.heap.size) W3).setCell (p := ⟨w.heap.size, 1, none⟩) (.inl rfl) (.int .i64 ((r2 : Int) + 1))
    have HV4 := Lib.hid (HV3.out.upd hu4 (fun x hx e => by have := HZ.out x hx; omega))
    have hb4 := (show Has (W3.setCell ⟨w.heap.size, 1, none⟩ (.int .i64 ((r2 : Int) + 1))) w.heap.size [.slice ao n ca, .int .i64 ((r2 : Int) + 1), .int .i64 c2, .bool false, .bool au] 43 from HB3.out.set 1 _)
    have hr4 := hu4.keep.has HR3.out (fun e => by omega)
    have hl4 := HL3.out.trans (((Upd.refl (fun b => w.heap.size ≤ b) W3).setCell (p := ⟨w.heap.size, 1, none⟩) (.inl (Nat.le_refl _)) (.int .i64 ((r2 : Int) + 1))).below HL3.out.size fun _ e => e)
    have HB4 := Lib.hid hb4
    have HR4 := Lib.hid hr4
    have HL4 := Lib.hid hl4
    clear hb4 hr4 hl4 hu4 hm
    go_upto_region 5 with (fail)
    obtain ⟨W4, hW4⟩ : ∃ W4, W4 = W3.setCell ⟨w.heap.size, 1, none⟩ (.int .i64 ((r2 : Int) + 1)) := ⟨_, rfl⟩
    rw [← hW4] at HV4 HB4 HR4 HL4 ⊢
    clear hW4 q0 q1 s0 s1
    have hb4 := HB4.out
    have hr4 := HR4.out
    have c0 := hb4.cell 0 _ rfl
    have c1 := hb4.cell 1 _ rfl
    have c2' := hb4.cell 2 _ rfl
    have c3 := hb4.cell 3 _ rfl
    have c4 := hb4.cell 4 _ rfl
    have k0 := hr4.cell 0 _ rfl
    have k1 := hr4.cell 1 _ rfl
    have k2 := hr4.cell 2 _ rfl
    have k3 := hr4.cell 3 _ rfl
    have k4 := hr4.cell 4 _ rfl
    have g0 := hr4.free 0
    have g1 := hr4.free 1
    have g2 := hr4.free 2
    have g3 := hr4.free 3
    have g4 := hr4.free 4
    have hlt := hr4.lt
    have hbl := pres (g := w.heap.size + 1) HL4.out (by omega) (.slice ao n ca) (.int .i64 ((r2 : Int) + 1)) (.int .i64 c2) (.bool false) (.bool au)
    have hhe := ((HV4.out).upd (pres_upd (w.heap.size + 1) (.slice ao n ca) (.int .i64 ((r2 : Int) + 1)) (.int .i64 c2) (.bool false) (.bool au)) (fun x hx e => by
      have := HS.out
      have := HZ.out x hx; omega)).zone (Y := fun x => Z x ∨ (w.heap.size ≤ x ∧ x < (((((W4.setCell ⟨w.heap.size + 1, 0, none⟩ (.slice ao n ca)).setCell ⟨w.heap.size + 1, 1, none⟩ (.int .i64 ((r2 : Int) + 1))).setCell ⟨w.heap.size + 1, 2, none⟩ (.int .i64 c2)).setCell ⟨w.heap.size + 1, 3, none⟩ (.bool false)).setCell ⟨w.heap.size + 1, 4, none⟩ (.bool au)).heap.size)) (fun x hlt hx => by
      have := HS.out
      exact .inl hx)
    have HF := Lib.hid (And.intro hhe hbl)
    clear hhe hbl
    go_wp2
    exact bodyPost_ret (v := .agg #[.slice ao n ca, .int .i64 ((r2 : Int) + 1), .int .i64 c2, .bool false, .bool au]) (by simp [results, Tryz.results162, go_sem, k0, k1, k2, k3, k4]) rfl ⟨.slice ao n ca, by rw [HE.out.2, show ((r2 + 1 : Nat) : Int) = (r2 : Int) + 1 from by omega], by rw [HE.out.1]; exact HF.out.1, HF.out.2⟩
  · have g1 : decide ((r2 : Int) + 1 < (n : Int)) = false := by rw [decide_eq_false_iff_not]; omega
    have hwr : IntKind.i64.wrap ((r2 : Int) + 1) = (r2 : Int) + 1 := by rw [IntKind.wrap_i64]; omega
    have HE := Lib.hid (down_end (show ¬ r2 + 1 < Ls.length from by rw [← HN.out]; exact hm))
    have hmv := rmove_all (.slice ao n ca) Z Ls 0 n 1 true W3 HV3.out (fun b hb => by have := HZ.out b hb; have := HS3.out; omega) HEV.out.2.1 HEV.out.short
    rw [HN.out] at hmv
    rw [HN.out] at q0 g1 ⊢
    go_wp2_with fail
    refine hmv.mono ?_
    rintro e w5 ⟨v5, rfl, h5, b5⟩
    obtain ⟨o5, p5, ev5⟩ := h5.len
    rw [mvd_len] at ev5
    subst ev5
    have hb5 := HB3.out.below b5 HB3.out.lt
    have hr5 := HR3.out.below b5 HR3.out.lt
    have hl5 := HL3.out.trans (b5.mono HL3.out.size)
    have hu6 := (Upd.refl (fun x => x = w.heap.size) w5).setCell (p := ⟨w.heap.size, 0, none⟩) (.inl rfl) (.slice o5 Ls.length p5)
    have HV6 := Lib.hid (h5.upd hu6 (fun x hx e => by have := HS3.out; rcases hx with hx | hx; have := HZ.out x hx; omega; omega))
    have HB6 := Lib.hid (show Has (w5.setCell ⟨w.heap.size, 0, none⟩ (.slice o5 Ls.length p5)) w.heap.size [.slice o5 Ls.length p5, .int .i64 r2, .int .i64 c2, .bool false, .bool au] 43 from hb5.set 0 _)
    have HR6 := Lib.hid (hu6.keep.has hr5 (fun e => by omega))
    have HL6 := Lib.hid (hl5.trans (((Upd.refl (fun b => w.heap.size ≤ b) w5).setCell (p := ⟨w.heap.size, 0, none⟩) (.inl (Nat.le_refl _)) (.slice o5 Ls.length p5)).below hl5.size fun _ e => e))
    have s0 := hb5.free 0
    have q0 := hb5.cell 0 _ rfl
    clear h5 b5 hb5 hr5 hl5 hu6 hmv q1 s1
    go_upto_region 7 with (fail)
    obtain ⟨W6, hW6⟩ : ∃ W6, W6 = w5.setCell ⟨w.heap.size, 0, none⟩ (.slice o5 Ls.length p5) := ⟨_, rfl⟩
    rw [← hW6] at HV6 HB6 HR6 HL6 ⊢
    clear hW6 q0 s0
    have hs3 := HS3.out
    have hb6 := HB6.out
    have hr6 := HR6.out
    have c0 := hb6.cell 0 _ rfl
    have c1 := hb6.cell 1 _ rfl
    have c2' := hb6.cell 2 _ rfl
    have c3 := hb6.cell 3 _ rfl
    have c4 := hb6.cell 4 _ rfl
    have k0 := hr6.cell 0 _ rfl
    have k1 := hr6.cell 1 _ rfl
    have k2 := hr6.cell 2 _ rfl
    have k3 := hr6.cell 3 _ rfl
    have k4 := hr6.cell 4 _ rfl
    have g0 := hr6.free 0
    have g1 := hr6.free 1
    have g2 := hr6.free 2
    have g3 := hr6.free 3
    have g4 := hr6.free 4
    have hlt := hr6.lt
    have hbl := pres (g := w.heap.size + 1) HL6.out (by omega) (.slice o5 Ls.length p5) (.int .i64 r2) (.int .i64 c2) (.bool false) (.bool au)
    have hhe := ((HV6.out).upd (pres_upd (w.heap.size + 1) (.slice o5 Ls.length p5) (.int .i64 r2) (.int .i64 c2) (.bool false) (.bool au)) (fun x hx e => by
      have := HS.out
      rcases hx with hx | hx; have := HZ.out x hx; omega; omega)).zone (Y := fun x => Z x ∨ (w.heap.size ≤ x ∧ x < (((((W6.setCell ⟨w.heap.size + 1, 0, none⟩ (.slice o5 Ls.length p5)).setCell ⟨w.heap.size + 1, 1, none⟩ (.int .i64 r2)).setCell ⟨w.heap.size + 1, 2, none⟩ (.int .i64 c2)).setCell ⟨w.heap.size + 1, 3, none⟩ (.bool false)).setCell ⟨w.heap.size + 1, 4, none⟩ (.bool au)).heap.size)) (fun x hlt hx => by
      have := HS.out
      rcases hx with hx | hx; exact .inl hx; exact .inr ⟨by omega, hlt⟩)
    have HF := Lib.hid (And.intro hhe hbl)
    clear hhe hbl
    go_wp2
    exact bodyPost_ret (v := .agg #[.slice o5 Ls.length p5, .int .i64 r2, .int .i64 c2, .bool false, .bool au]) (by simp [results, Tryz.results162, go_sem, k0, k1, k2, k3, k4]) rfl ⟨.slice o5 Ls.length p5, by rw [HE.out.2], by rw [HE.out.1]; exact HF.out.1, HF.out.2⟩
end Go.Proofs.YtoeggiplcaegoaaGreatDoor
/- The reference's pen: GoOn. -/
namespace Go.Proofs.YtoeggiplcaegoaaGreatDoor
open Go.RowKit Go.ChangeShapes Go.WideShapes
theorem in_self {r n : Nat} (h : r < n) (hn : n ≤ 1024) : inI (r : Int) (sideI n) = (r : Int) := by
  have hs : sideI n = (n : Int) := by unfold sideI; omega
  rw [hs]
  unfold inI
  rw [if_neg (by omega), if_neg (by omega)]
theorem in_zero {n : Nat} (h : 0 < n) (hn : n ≤ 1024) : inI 0 (sideI n) = ((0 : Nat) : Int) := in_self (r := 0) h hn
set_option maxRecDepth 100000 in
set_option maxHeartbeats 3000000 in
theorem rpgo_any (Z : Zone) (v : Value) (Ls : List Ln) (r : Nat) (c : Int) (pd au : Bool) (w : World) (wd : Nat) (hv : HeldE lineE Z w v Ls) (hZ : ∀ b, Z b → b < w.heap.size) (hev : Even Ls wd) (hlt : r < Ls.length) :
    Calls Tryz.prog 142 #[.agg #[v, .int .i64 r, .int .i64 c, .bool pd, .bool au]] w (RPen Z w (goL Ls r) (downR Ls r : Nat) 0 false au) := by
  obtain ⟨ao, ca, rfl, hcap, hc⟩ := lines_len hv
  obtain ⟨b, off, cv, rfl, hbb, _, z0, z1, hz0⟩ := hc r hlt
  obtain ⟨co, cc, rfl⟩ := hz0.len
  obtain ⟨W, hW, hb, hr, hl0⟩ := pboxes w (.slice (some ⟨b, off, none⟩) Ls.length ca) (.int .i64 r) (.int .i64 c) (.bool pd) (.bool au) (.slice none 0 0) (.int .i64 0) (.int .i64 0) (.bool false) (.bool false)
  have hs : W.heap.size = w.heap.size + 2 := by rw [hW]; simp
  have HS := Lib.hid hs
  have HZ := Lib.hid hZ
  have HB := Lib.hid hb
  have HR := Lib.hid hr
  have HL := Lib.hid hl0
  have HEM := Lib.hid (hev.mark hlt)
  have HWT := Lib.hid (fun (w' : World) (hb' : Below W.heap.size W w') => rpwith_any Z (.slice (some ⟨b, off, none⟩) Ls.length ca) Ls r c pd au r (.slice co (Ls.getD r zl).1.length cc) (Ls.getD r zl).1 true w' ((hv.below hl0).below hb') ((hz0.below hl0).below hb') (fun x hx => by have := hb'.size; have := hZ x hx; omega) hlt hev.2.1)
  have HDR := Lib.hid (show downR (markL Ls r) r = downR Ls r from by unfold downR; rw [mark_len])
  have HML := Lib.hid (show r < (markL Ls r).length from by rw [mark_len]; exact hlt)
  have HIN := Lib.hid (show inI (r : Int) (sideI (markL Ls r).length) = (r : Int) from by rw [mark_len]; exact in_self hlt (by have := hev.2.1; omega))
  have HI0 := Lib.hid (show inI 0 (sideI wd) = ((0 : Nat) : Int) from in_zero hev.2.2.1 hev.2.2.2.1)
  have e5 := ext_cell ((hl0.cell (p := ⟨b, off + r * 2, none⟩) hbb).trans z0)
  obtain ⟨n, hn⟩ : ∃ n, n = Ls.length := ⟨_, rfl⟩
  have HN := Lib.hid hn
  obtain ⟨m, hm⟩ : ∃ m, m = (Ls.getD r zl).1.length := ⟨_, rfl⟩
  rw [← hm] at HWT e5
  rw [← hn] at hW hb HB HWT hcap hlt ⊢
  have e0 := ext_cell (hb.cell 0 _ rfl)
  have e1 := ext_cell (hb.cell 1 _ rfl)
  have e2 := ext_cell (hb.cell 2 _ rfl)
  have e3 := ext_cell (hb.cell 3 _ rfl)
  have e4 := ext_cell (hb.cell 4 _ rfl)
  have hii : (r : Int) < (n : Int) := by omega
  have hrc : r < ca := by omega
  clear hv hZ hev hc hz0 z0 z1 hb hr hl0 hs hbb hn hm
  go_enter Tryz.func142, Tryz.ntmps142
  go_upto_region 1 with (fail)
  rw [← hW]
  clear hW
  refine wp_region_ext_tail 13 (by kernel_rfl) (by simp) (by kernel_rfl) (by kernel_rfl) (by kernel_rfl) (by kernel_rfl) (by kernel_rfl) ?_
  simp only [List.take_succ_cons, List.take_zero, List.drop_succ_cons, List.drop_zero]
  repeat (go_big_quiet_step ((fail)))
  refine wpQuiet_nil ?_
  intro _ hw'
  obtain ⟨u, hw''⟩ := hw'
  subst hw''
  obtain ⟨W1, hW1⟩ : ∃ W1, W1 = ext W u := ⟨_, rfl⟩
  have hbu : Below W.heap.size W W1 := by rw [hW1]; exact u.ok
  have hw := HWT.out W1 hbu
  have HB1 := Lib.hid (HB.out.below hbu HB.out.lt)
  have HR1 := Lib.hid (HR.out.below hbu HR.out.lt)
  have HL1 := Lib.hid (HL.out.trans (hbu.mono HL.out.size))
  have HS1 := Lib.hid (show w.heap.size + 2 ≤ W1.heap.size from by have := hbu.size; have := HS.out; omega)
  rw [← hW1]
  clear hbu hW1 e0 e1 e2 e3 e4 e5
  go_wp2_with fail
  refine hw.mono ?_
  rintro e w2 ⟨v2, rfl, h2, b2⟩
  rw [show Ls.set r ((Ls.getD r zl).1, true) = markL Ls r from rfl] at h2
  obtain ⟨o2, p2, ev2⟩ := h2.len
  rw [mark_len, ← HN.out] at ev2
  subst ev2
  have h1 := HB1.out.below b2 HB1.out.lt
  have r1 := HR1.out.below b2 HR1.out.lt
  have l1 := HL1.out.trans (b2.mono HL1.out.size)
  have hs2 := b2.size
  have c0 := h1.cell 0 _ rfl
  have c1 := h1.cell 1 _ rfl
  have c2' := h1.cell 2 _ rfl
  have c3 := h1.cell 3 _ rfl
  have c4 := h1.cell 4 _ rfl
  have f0 := h1.free 0
  have f1 := h1.free 1
  have f2 := h1.free 2
  have f3 := h1.free 3
  have f4 := h1.free 4
  have hv3 := h2.upd (pres_upd w.heap.size (.slice o2 n p2) (.int .i64 r) (.int .i64 c) (.bool pd) (.bool au)) (fun x hx e => by have := HS1.out; rcases hx with hx | hx; have := HZ.out x hx; omega; omega)
  have h3 := pres_has h1 (.slice o2 n p2) (.int .i64 r) (.int .i64 c) (.bool pd) (.bool au)
  have hu3 := pres_upd (W := w2) w.heap.size (.slice o2 n p2) (.int .i64 r) (.int .i64 c) (.bool pd) (.bool au)
  have r3 := hu3.keep.has r1 (fun e => by omega)
  have l3 := pres (g := w.heap.size) l1 (Nat.le_refl _) (.slice o2 n p2) (.int .i64 r) (.int .i64 c) (.bool pd) (.bool au)
  have hsz3 := hu3.size
  obtain ⟨W3, hW3⟩ : ∃ W3, W3 = (((((w2.setCell ⟨w.heap.size, 0, none⟩ (.slice o2 n p2)).setCell ⟨w.heap.size, 1, none⟩ (.int .i64 r)).setCell ⟨w.heap.size, 2, none⟩ (.int .i64 c)).setCell ⟨w.heap.size, 3, none⟩ (.bool pd)).setCell ⟨w.heap.size, 4, none⟩ (.bool au)) := ⟨_, rfl⟩
  rw [← hW3] at hv3 h3 r3 l3 hsz3
  obtain ⟨W4, hW4, h4, r4, l4, u4⟩ := pturn h3 r3 l3 (Nat.le_refl _) (.int .i64 r) (.int .i64 0) (.bool false)
  have hv4 := hv3.upd u4 (fun x hx e => by have := HS1.out; rcases hx with hx | hx; have := HZ.out x hx; omega; omega)
  have HS4 := Lib.hid (show w2.heap.size ≤ W4.heap.size from by have := u4.size; omega)
  have HS2 := Lib.hid hs2
  have q1 := h3.cell 1 _ rfl
  have s1 := h3.free 1
  have s2 := h3.free 2
  have s3 := h3.free 3
  have q2 := h3.cell 2 _ rfl
  have q3 := h3.cell 3 _ rfl
  have hnl := rpnl_any (fun x => Z x ∨ (W1.heap.size ≤ x ∧ x < w2.heap.size)) (.slice o2 n p2) (markL Ls r) r 0 false au W4 wd hv4 (fun x hx => by have := HS4.out; have := HS2.out; have := HS1.out; rcases hx with hx | hx; have := HZ.out x hx; omega; omega) HEM.out r 0 HIN.out HI0.out HML.out
  rw [HDR.out] at hnl
  have HNL := Lib.hid hnl
  have HB4 := Lib.hid h4
  have HR4 := Lib.hid r4
  have HL4 := Lib.hid l4
  have HW4 := Lib.hid hW4
  clear h1 r1 l1 hv3 h3 r3 l3 u4 hv4 h4 r4 l4 hW4 hnl h2 b2 hw hu3 HB HR HL HB1 HR1 HL1 HWT hs2
  go_upto_region 2 with (fail)
  rw [← hW3]
  clear c0 c1 c2' c3 c4 f0 f1 f2 f3 f4 hW3
  go_upto_region 3 with (fail)
  rw [← HW4.out]
  clear HW4 q1 q2 q3 s1 s2 s3
  have hb4 := HB4.out
  have c0 := hb4.cell 0 _ rfl
  have c1 := hb4.cell 1 _ rfl
  have c2' := hb4.cell 2 _ rfl
  have c3 := hb4.cell 3 _ rfl
  have c4 := hb4.cell 4 _ rfl
  clear hb4
  go_wp2_with fail
  refine HNL.out.mono ?_
  rintro e w6 ⟨v6, rfl, h6, b6⟩
  obtain ⟨o6, p6, ev6⟩ := h6.len
  rw [show (downL (markL Ls r) r).length = Ls.length from by rw [down_len, mark_len], ← HN.out] at ev6
  subst ev6
  have hb6 := HB4.out.below b6 HB4.out.lt
  have hr6 := HR4.out.below b6 HR4.out.lt
  have hl6 := HL4.out.trans (b6.mono HL4.out.size)
  have hs4 := HS4.out
  have hs2 := HS2.out
  have hs1 := HS1.out
  have HV6 := Lib.hid h6
  have HL6 := Lib.hid hl6
  clear c0 c1 c2' c3 c4 h6 b6 hl6
  have HE := Lib.hid (show goL Ls r = downL (markL Ls r) r ∧ True from ⟨rfl, trivial⟩)
  have c0 := hb6.cell 0 _ rfl
  have c1 := hb6.cell 1 _ rfl
  have c2' := hb6.cell 2 _ rfl
  have c3 := hb6.cell 3 _ rfl
  have c4 := hb6.cell 4 _ rfl
  have k0 := hr6.cell 0 _ rfl
  have k1 := hr6.cell 1 _ rfl
  have k2 := hr6.cell 2 _ rfl
  have k3 := hr6.cell 3 _ rfl
  have k4 := hr6.cell 4 _ rfl
  have g0 := hr6.free 0
  have g1 := hr6.free 1
  have g2 := hr6.free 2
  have g3 := hr6.free 3
  have g4 := hr6.free 4
  have hlt := hr6.lt
  have hbl := pres (g := w.heap.size + 1) HL6.out (by omega) (.slice o6 n p6) (.int .i64 (downR Ls r : Nat)) (.int .i64 0) (.bool false) (.bool au)
  have hhe := ((HV6.out).upd (pres_upd (w.heap.size + 1) (.slice o6 n p6) (.int .i64 (downR Ls r : Nat)) (.int .i64 0) (.bool false) (.bool au)) (fun x hx e => by
    have := HS.out
    rcases hx with (hx | hx) | hx
    · have := HZ.out x hx; omega
    · omega
    · omega)).zone (Y := fun x => Z x ∨ (w.heap.size ≤ x ∧ x < (((((w6.setCell ⟨w.heap.size + 1, 0, none⟩ (.slice o6 n p6)).setCell ⟨w.heap.size + 1, 1, none⟩ (.int .i64 (downR Ls r : Nat))).setCell ⟨w.heap.size + 1, 2, none⟩ (.int .i64 0)).setCell ⟨w.heap.size + 1, 3, none⟩ (.bool false)).setCell ⟨w.heap.size + 1, 4, none⟩ (.bool au)).heap.size)) (fun x hlt hx => by
    have := HS.out
    rcases hx with (hx | hx) | hx
    · exact .inl hx
    · exact .inr ⟨by omega, hlt⟩
    · exact .inr ⟨by omega, hlt⟩)
  have HF := Lib.hid (And.intro hhe hbl)
  clear hhe hbl
  go_wp2
  exact bodyPost_ret (v := .agg #[.slice o6 n p6, .int .i64 (downR Ls r : Nat), .int .i64 0, .bool false, .bool au]) (by simp [results, Tryz.results142, go_sem, k0, k1, k2, k3, k4]) rfl ⟨.slice o6 n p6, rfl, by rw [HE.out.1]; exact HF.out.1, HF.out.2⟩
end Go.Proofs.YtoeggiplcaegoaaGreatDoor
