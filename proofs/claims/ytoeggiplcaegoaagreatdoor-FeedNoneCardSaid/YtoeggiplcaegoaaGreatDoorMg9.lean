/- Texts put together: PlcD, PlcE, CtlA, PlcU, PlcV. -/
import Derived.Test.YtoeggiplcaegoaaGreatDoorPlcC
import Derived.Test.YtoeggiplcaegoaaGreatDoorMg6
import Derived.Test.YtoeggiplcaegoaaGreatDoorMg8
import Derived.Test.YtoeggiplcaegoaaGreatDoorMg1
/- A pen's goOn, makeRoom, NewLine. -/
namespace Go.Proofs.YtoeggiplcaegoaaGreatDoor
open Go.RowKit Go.ChangeShapes Go.WideShapes
variable {Yo : Zone}
/-- A pen on its way. -/
def PAtY (Yo : Zone) (w0 : World) (B gp gg gr wd : Nat) (Rs R1 : List Rw) (Ls : List Ln) (r c : Int) (pd au : Bool) (w1 : World) : Prop := PenY Yo w1 B gp gg gr wd R1 Ls r c pd au ∧ Upd (PZ w0 gp gr Rs) w0 w1 ∧ RowsFrom w0 Rs R1
section
variable {w0 w1 w2 : World} {B gp gg gr wd : Nat} {Rs R1 R2 : List Rw} {Ls L2 : List Ln} {r c r2 c2 : Int} {pd au pd2 au2 : Bool}
theorem PAtY.start (h : PenY Yo w0 B gp gg gr wd Rs Ls r c pd au) : PAtY Yo w0 B gp gg gr wd Rs Rs Ls r c pd au w0 := ⟨h, .refl _ _, RowsFrom.self _ _⟩
theorem PAtY.below (h : PAtY Yo w0 B gp gg gr wd Rs R1 Ls r c pd au w1) (hb : Below w1.heap.size w1 w2) : PAtY Yo w0 B gp gg gr wd Rs R1 Ls r c pd au w2 := ⟨h.1.below hb, h.2.1.trans ((Upd.ofBelow (S := fun _ => False) hb).mono fun _ _ e => e.elim), h.2.2⟩
theorem PAtY.turn (h : PAtY Yo w0 B gp gg gr wd Rs R1 Ls r c pd au w1) (r2 c2 : Int) (pd2 : Bool) : PAtY Yo w0 B gp gg gr wd Rs R1 Ls r2 c2 pd2 au (((w1.setCell ⟨gp, 1, none⟩ (.int .i64 r2)).setCell ⟨gp, 2, none⟩ (.int .i64 c2)).setCell ⟨gp, 3, none⟩ (.bool pd2)) := by
  have h2 := pen_set3 h.1.1 (.int .i64 r2) (.int .i64 c2) (.bool pd2)
  exact ⟨h.1.turn h2.1 h2.2, h.2.1.trans (h2.2.mono fun b _ e => .inl e), h.2.2⟩
theorem PAtY.grid (h : PAtY Yo w0 B gp gg gr wd Rs R1 Ls r c pd au w1) (hg : GridY Yo w2 B gg gr wd R2) (hm : R2.map lineOf = L2) (hu : Upd (GridB w1 gr R1) w1 w2) (hf : RowsFrom w1 R1 R2) : PAtY Yo w0 B gp gg gr wd Rs R2 L2 r c pd au w2 :=
  ⟨h.1.grid hg hm hu, h.2.1.trans (hu.mono fun b _ e => PZ.from h.2.2 h.2.1.size b (.inr e)), h.2.2.trans hf h.2.1.size⟩
theorem PAtY.go (h : PAtY Yo w0 B gp gg gr wd Rs R1 Ls r c pd au w1) (k : PDoY Yo w1 B gp gg gr wd R1 L2 r2 c2 pd2 au2 w2) : ∃ R2, PAtY Yo w0 B gp gg gr wd Rs R2 L2 r2 c2 pd2 au2 w2 := by
  obtain ⟨R2, h1, h2, h3⟩ := k
  exact ⟨R2, h1, h.2.1.trans (h2.mono fun b _ hb => PZ.from h.2.2 h.2.1.size b hb), h.2.2.trans h3 h.2.1.size⟩
theorem PAtY.done (h : PAtY Yo w0 B gp gg gr wd Rs R1 Ls r c pd au w1) : PDoY Yo w0 B gp gg gr wd Rs Ls r c pd au w1 := ⟨R1, h⟩
theorem row_line {Rs : List Rw} {Ls : List Ln} (h : Rs.map lineOf = Ls) (i : Nat) (hi : i < Rs.length) : (Rs.getD i r0).L = (Ls.getD i zl).1 ∧ (Rs.getD i r0).wrap = (Ls.getD i zl).2 := by
  have := lines_at_i h i hi
  exact ⟨congrArg Prod.fst this, congrArg Prod.snd this⟩
/-- A row of a pen's grid goes on. -/
theorem PAtY.mark (h : PAtY Yo w0 B gp gg gr wd Rs R1 Ls r c pd au w1) (i : Nat) (hi : i < R1.length) (hg : GridY Yo w2 B gg gr wd (R1.set i ⟨(R1.getD i r0).g, (R1.getD i r0).gc, (R1.getD i r0).L, true⟩)) (hu : Upd (fun x => x = (R1.getD i r0).g ∨ x = (R1.getD i r0).gc) w1 w2) : PAtY Yo w0 B gp gg gr wd Rs (R1.set i ⟨(R1.getD i r0).g, (R1.getD i r0).gc, (R1.getD i r0).L, true⟩) (markL Ls i) r c pd au w2 :=
  h.grid hg (by rw [set_lines h.1.2.2.2]; unfold markL; rw [(row_line h.1.2.2.2 i hi).1]) (hu.mono fun b _ e => .inr (.inl ⟨i, hi, e⟩)) (rows_set _ _ _ _)
/-- A row of a pen's grid was painted. -/
theorem PAtY.paint (h : PAtY Yo w0 B gp gg gr wd Rs R1 Ls r c pd au w1) (i k : Nat) (p : List Cl) (hi : i < R1.length) (hg : GridY Yo w2 B gg gr wd (R1.set i ⟨(R1.getD i r0).g, (R1.getD i r0).gc, paintL (R1.getD i r0).L p k, (R1.getD i r0).wrap && !lastHit (R1.getD i r0).L p k⟩)) (hu : Upd (fun x => x = (R1.getD i r0).g ∨ x = (R1.getD i r0).gc) w1 w2) : PAtY Yo w0 B gp gg gr wd Rs (R1.set i ⟨(R1.getD i r0).g, (R1.getD i r0).gc, paintL (R1.getD i r0).L p k, (R1.getD i r0).wrap && !lastHit (R1.getD i r0).L p k⟩) (pntL Ls i k p) r c pd au w2 :=
  h.grid hg (by rw [set_lines h.1.2.2.2]; unfold pntL; rw [(row_line h.1.2.2.2 i hi).1, (row_line h.1.2.2.2 i hi).2]) (hu.mono fun b _ e => .inr (.inl ⟨i, hi, e⟩)) (rows_set _ _ _ _)
end
set_option maxRecDepth 100000 in
set_option maxHeartbeats 2000000 in
theorem pgo_any (B gp gg gr wd : Nat) (Rs : List Rw) (Ls : List Ln) (r : Nat) (c : Int) (pd au : Bool) (w : World) (h : PenY Yo w B gp gg gr wd Rs Ls r c pd au) (hr : r < Ls.length) : Calls Tryz.prog 113 #[.pointer (some ⟨gp, 0, none⟩)] w (fun e w' => e = .returned (.tuple #[]) ∧ PDoY Yo w B gp gg gr wd Rs (goL Ls r) (downR Ls r : Nat) 0 false au w') := by
  have hrl := h.sizes.2.2.2.2.1
  have e0 := ext_cell (h.1.cell 0 _ rfl)
  have e1 := ext_cell (h.1.cell 1 _ rfl)
  have hi : r < Rs.length := by omega
  obtain ⟨gk, hgk⟩ : ∃ gk, gk = (Rs.getD r r0).g := ⟨_, rfl⟩
  have HG := Lib.hid (show ∀ u : Growth w, Calls Tryz.prog 62 #[.pointer (some ⟨gg, 0, none⟩), .int .i64 r] (ext w u) (fun e w' => e = .returned (.pointer (some ⟨gk, 0, none⟩)) ∧ ext w u = w') from fun u => by rw [hgk]; exact grow_in B gg gr wd Rs r _ (h.2.2.1.below u.ok) hi)
  have HGO := Lib.hid (show ∀ u : Growth w, Calls Tryz.prog 71 #[.pointer (some ⟨gk, 0, none⟩), .bool true] (ext w u) _ from fun u => by rw [hgk]; exact ggoon_any B gg gr wd r Rs true (ext w u) (h.2.2.1.below u.ok) hi)
  have H := Lib.hid (PAtY.start h)
  have hdr : downR (markL Ls r) r = downR Ls r := by unfold downR; rw [mark_len]
  have hml : r < (markL Ls r).length := by rw [mark_len]; exact hr
  have HDR := Lib.hid hdr
  have HML := Lib.hid hml
  clear h hrl hr hdr hml hgk
  go_enter Tryz.func113, Tryz.ntmps113
  go_wp2_with fail
  refine wp_region_ext_tail 10 (by kernel_rfl) (by simp) (by kernel_rfl) (by kernel_rfl) (by kernel_rfl) (by kernel_rfl) (by kernel_rfl) ?_
  simp only [List.take_succ_cons, List.take_zero, List.drop_succ_cons, List.drop_zero]
  repeat (go_big_quiet_step ((go_at_call 62; exact callx_same (HG.out _))))
  refine wpQuiet_nil ?_
  intro _ hw'
  obtain ⟨u, hw''⟩ := hw'
  subst hw''
  have H1 := Lib.hid (H.out.below u.ok)
  have hg1 := HGO.out u
  go_wp2_with fail
  refine hg1.mono ?_
  rintro e w2 ⟨rfl, hg2, hu2⟩
  have h2 := H1.out.mark r hi hg2 hu2
  have H2 := Lib.hid h2
  have q1 := h2.1.1.cell 1 _ rfl
  have q2 := h2.1.1.cell 2 _ rfl
  have q3 := h2.1.1.cell 3 _ rfl
  clear hg1 hg2 hu2 h2 e0 e1
  go_wp2_with fail
  refine (cret_any r c pd w2).mono ?_
  rintro e w3 ⟨rfl, b3⟩
  have h3 := H2.out.below b3
  have p1 := h3.1.1.cell 1 _ rfl
  have p2 := h3.1.1.cell 2 _ rfl
  have p3 := h3.1.1.cell 3 _ rfl
  have f1 := h3.1.1.free 1
  have f2 := h3.1.1.free 2
  have f3 := h3.1.1.free 3
  have h4 := h3.turn r 0 false
  obtain ⟨W4, hW4⟩ : ∃ W4, W4 = (((w3.setCell ⟨gp, 1, none⟩ (.int .i64 r)).setCell ⟨gp, 2, none⟩ (.int .i64 0)).setCell ⟨gp, 3, none⟩ (.bool false)) := ⟨_, rfl⟩
  rw [← hW4] at h4
  have H4 := Lib.hid h4
  have HW4 := Lib.hid hW4
  clear h3 h4 b3 q1 q2 q3 hW4
  go_upto_region 2 with (fail)
  rw [← HW4.out]
  clear HW4 p1 p2 p3 f1 f2 f3
  have hd := pdown_any B gp gg gr wd _ (markL Ls r) r 0 false au W4 H4.out.1 HML.out
  rw [HDR.out] at hd
  go_wp2_with fail
  refine hd.mono ?_
  rintro e w5 ⟨rfl, k5⟩
  obtain ⟨R5, h5⟩ := H4.out.go k5
  have HF := Lib.hid h5.done
  clear hd k5 h5
  go_wp2
  exact bodyPost_end (by kernel_rfl) rfl ⟨rfl, HF.out⟩
/-- Room, where rows don't go on by themselves. -/
theorem proom_off (B gp gg gr wd : Nat) (Rs : List Rw) (Ls : List Ln) (r c : Nat) (pd : Bool) (w : World) (h : PenY Yo w B gp gg gr wd Rs Ls r ((c : Int) + 1) pd false) (hc : c ≤ 2000) : Calls Tryz.prog 114 #[.pointer (some ⟨gp, 0, none⟩)] w (fun e w' => e = .returned (.tuple #[]) ∧ PDoY Yo w B gp gg gr wd Rs Ls r c false false w') := by
  have q1 := h.1.cell 1 _ rfl
  have q2 := h.1.cell 2 _ rfl
  have q3 := h.1.cell 3 _ rfl
  have q4 := h.1.cell 4 _ rfl
  have H := Lib.hid (PAtY.start h)
  have HC := Lib.hid hc
  clear h hc
  go_enter Tryz.func114, Tryz.ntmps114
  go_wp2_with fail
  refine (cback_any r c pd w HC.out).mono ?_
  rintro e w3 ⟨rfl, b3⟩
  have h3 := H.out.below b3
  have p1 := h3.1.1.cell 1 _ rfl
  have p2 := h3.1.1.cell 2 _ rfl
  have p3 := h3.1.1.cell 3 _ rfl
  have f1 := h3.1.1.free 1
  have f2 := h3.1.1.free 2
  have f3 := h3.1.1.free 3
  have HF := Lib.hid (h3.turn r c false).done
  clear h3 b3
  go_wp2
  exact bodyPost_ret (v := .tuple #[]) (by simp [results, Tryz.results114, go_sem]) rfl ⟨rfl, HF.out⟩
set_option maxRecDepth 100000 in
/-- Row.Paint of a row of a pen's grid. -/
theorem ppaint_any {w0 w : World} {B gp gg gr wd : Nat} {Rs R1 : List Rw} {Ls : List Ln} {r c : Int} {pd au : Bool} (h : PAtY Yo w0 B gp gg gr wd Rs R1 Ls r c pd au w) (i a : Nat) (hi : i < R1.length) (p : List Cl) (v : Value) (Y : Zone) (hv : HeldE cellE Y w v p) (hY : ∀ b, Y b → w0.heap.size ≤ b ∧ b ≠ (R1.getD i r0).g ∧ b ≠ (R1.getD i r0).gc) (hle : a + p.length ≤ wd) (hp : soundB p = true) :
    Calls Tryz.prog 188 #[.pointer (some ⟨(R1.getD i r0).g, 0, none⟩), .int .i64 a, v] w (fun e w2 => e = .returned .nilIface ∧ (∃ R2, PAtY Yo w0 B gp gg gr wd Rs R2 (pntL Ls i a p) r c pd au w2) ∧ Upd (fun x => x = (R1.getD i r0).g ∨ x = (R1.getD i r0).gc) w w2) := by
  have hs := h.1.2.2.1.sizes.2.2.2.2 i hi
  refine (h.1.2.2.1.painted (L := paintL (R1.getD i r0).L p a) (b := (R1.getD i r0).wrap && !lastHit (R1.getD i r0).L p a) hi (by rw [paint_len]; exact hs) (fun Z hZ hr => rpaint_good Z Y B _ _ _ p _ v w hr hv (fun b hb => (hY b hb).2) hZ a (by omega) hp)).mono ?_
  rintro e w2 ⟨rfl, hg, hu⟩
  exact ⟨rfl, ⟨_, h.paint i a p hi hg hu⟩, hu⟩
set_option maxRecDepth 100000 in
/-- mark.Put in a row of a pen's grid. -/
theorem pmark_any {w0 w : World} {B gp gg gr wd : Nat} {Rs R1 : List Rw} {Ls : List Ln} {r c : Int} {pd au : Bool} (h : PAtY Yo w0 B gp gg gr wd Rs R1 Ls r c pd au w) (i a : Nat) (k : Int) (hi : i < R1.length) (xs : List Int) (v : Value) (Y : Zone) (hv : HeldE (intE .i32) Y w v xs) (hw : wrongI wd (a : Int) (ofC k xs) = 0) :
    Calls Tryz.prog 115 #[.pointer (some ⟨(R1.getD i r0).g, 0, none⟩), .int .i64 a, .int .i64 k, v] w (fun e w2 => e = .returned .nilIface ∧ ∃ R2, PAtY Yo w0 B gp gg gr wd Rs R2 (pntL Ls i a (ofC k xs)) r c pd au w2) := by
  have hs := h.1.2.2.1.sizes.2.2.2.2 i hi
  refine (h.1.2.2.1.painted (L := paintL (R1.getD i r0).L (ofC k xs) a) (b := (R1.getD i r0).wrap && !lastHit (R1.getD i r0).L (ofC k xs) a) hi (by rw [paint_len]; exact hs) (fun Z hZ hr => by
    have := mput_z Z Y B _ _ _ (R1.getD i r0).wrap (a : Int) k v xs w hZ hr hv (by rw [hs]; exact hw)
    rwa [Int.toNat_natCast] at this)).mono ?_
  rintro e w2 ⟨rfl, hg, hu⟩
  exact ⟨rfl, _, h.paint i a _ hi hg hu⟩
end Go.Proofs.YtoeggiplcaegoaaGreatDoor
/- A pen's makeRoom where rows go on by themselves; NewLine; New. -/
namespace Go.Proofs.YtoeggiplcaegoaaGreatDoor
open Go.RowKit Go.ChangeShapes Go.WideShapes
variable {Yo : Zone}
set_option maxRecDepth 100000 in
set_option maxHeartbeats 3000000 in
theorem proom_on (B gp gg gr wd : Nat) (Rs : List Rw) (Ls : List Ln) (r c : Nat) (pd : Bool) (w : World) (h : PenY Yo w B gp gg gr wd Rs Ls r c pd true) (hr : r < Ls.length) (hc : c < wd) : Calls Tryz.prog 114 #[.pointer (some ⟨gp, 0, none⟩)] w (fun e w' => e = .returned (.tuple #[]) ∧ PDoY Yo w B gp gg gr wd Rs (goL (pntL Ls r c [zc]) r) (downR Ls r : Nat) 0 false true w') := by
  have hrl := h.sizes.2.2.2.2.1
  have q4 := h.1.cell 4 _ rfl
  have hi : r < Rs.length := by omega
  have hlt := h.2.2.1.lt.2.2.2.2.2 r hi
  obtain ⟨gk, hgk⟩ : ∃ gk, gk = (Rs.getD r r0).g := ⟨_, rfl⟩
  have HLT := Lib.hid hlt
  have HI := Lib.hid hi
  have H := Lib.hid (PAtY.start h)
  have hdr : downR (pntL Ls r c [zc]) r = downR Ls r := by unfold downR; rw [pnt_len]
  have hml : r < (pntL Ls r c [zc]).length := by rw [pnt_len]; exact hr
  have HDR := Lib.hid hdr
  have HML := Lib.hid hml
  have HGK := Lib.hid hgk
  have HC := Lib.hid hc
  clear h hrl hr hdr hml hgk hlt hi hc
  go_enter Tryz.func114, Tryz.ntmps114
  obtain ⟨Erg, hErg⟩ : ∃ EE : Nat → Value → World → Prop, EE = fun jj xx ww => match jj with
      | 0 => xx = .pointer (some ⟨gp, 0, none⟩)
      | 1 => xx = .pointer (some ⟨gp, 0, none⟩)
      | 2 => xx = .pointer (some ⟨gp, 0, none⟩)
      | 3 => xx = .pointer (some ⟨gg, 0, none⟩)
      | 4 => xx = .pointer (some ⟨gp, 0, none⟩)
      | 5 => xx = .pointer (some ⟨gp, 0, none⟩)
      | 6 => xx = .pointer (some ⟨gp, 1, none⟩)
      | 7 => xx = .pointer (some ⟨gp, 1, none⟩)
      | 8 => xx = .int .i64 r
      | 9 => xx = .pointer (some ⟨gk, 0, none⟩)
      | 10 => xx = .pointer (some ⟨gp, 0, none⟩)
      | 11 => xx = .pointer (some ⟨gp, 0, none⟩)
      | 12 => xx = .pointer (some ⟨gp, 1, none⟩)
      | 13 => xx = .pointer (some ⟨gp, 2, none⟩)
      | 14 => xx = .int .i64 c
      | 15 => (fun x w' => HeldE cellE (fun b => w.heap.size ≤ b) w' x [zc]) xx ww
      | 16 => xx = .nilIface
      | _ => True := ⟨_, rfl⟩
  have erg0 : ∀ xx ww, Erg 0 xx ww = (xx = .pointer (some ⟨gp, 0, none⟩)) := fun xx ww => congrFun (congrFun (congrFun hErg 0) xx) ww
  have erg1 : ∀ xx ww, Erg 1 xx ww = (xx = .pointer (some ⟨gp, 0, none⟩)) := fun xx ww => congrFun (congrFun (congrFun hErg 1) xx) ww
  have erg2 : ∀ xx ww, Erg 2 xx ww = (xx = .pointer (some ⟨gp, 0, none⟩)) := fun xx ww => congrFun (congrFun (congrFun hErg 2) xx) ww
  have erg3 : ∀ xx ww, Erg 3 xx ww = (xx = .pointer (some ⟨gg, 0, none⟩)) := fun xx ww => congrFun (congrFun (congrFun hErg 3) xx) ww
  have erg4 : ∀ xx ww, Erg 4 xx ww = (xx = .pointer (some ⟨gp, 0, none⟩)) := fun xx ww => congrFun (congrFun (congrFun hErg 4) xx) ww
  have erg5 : ∀ xx ww, Erg 5 xx ww = (xx = .pointer (some ⟨gp, 0, none⟩)) := fun xx ww => congrFun (congrFun (congrFun hErg 5) xx) ww
  have erg6 : ∀ xx ww, Erg 6 xx ww = (xx = .pointer (some ⟨gp, 1, none⟩)) := fun xx ww => congrFun (congrFun (congrFun hErg 6) xx) ww
  have erg7 : ∀ xx ww, Erg 7 xx ww = (xx = .pointer (some ⟨gp, 1, none⟩)) := fun xx ww => congrFun (congrFun (congrFun hErg 7) xx) ww
  have erg8 : ∀ xx ww, Erg 8 xx ww = (xx = .int .i64 r) := fun xx ww => congrFun (congrFun (congrFun hErg 8) xx) ww
  have erg9 : ∀ xx ww, Erg 9 xx ww = (xx = .pointer (some ⟨gk, 0, none⟩)) := fun xx ww => congrFun (congrFun (congrFun hErg 9) xx) ww
  have erg10 : ∀ xx ww, Erg 10 xx ww = (xx = .pointer (some ⟨gp, 0, none⟩)) := fun xx ww => congrFun (congrFun (congrFun hErg 10) xx) ww
  have erg11 : ∀ xx ww, Erg 11 xx ww = (xx = .pointer (some ⟨gp, 0, none⟩)) := fun xx ww => congrFun (congrFun (congrFun hErg 11) xx) ww
  have erg12 : ∀ xx ww, Erg 12 xx ww = (xx = .pointer (some ⟨gp, 1, none⟩)) := fun xx ww => congrFun (congrFun (congrFun hErg 12) xx) ww
  have erg13 : ∀ xx ww, Erg 13 xx ww = (xx = .pointer (some ⟨gp, 2, none⟩)) := fun xx ww => congrFun (congrFun (congrFun hErg 13) xx) ww
  have erg14 : ∀ xx ww, Erg 14 xx ww = (xx = .int .i64 c) := fun xx ww => congrFun (congrFun (congrFun hErg 14) xx) ww
  have erg15 : ∀ xx ww, Erg 15 xx ww = ((fun x w' => HeldE cellE (fun b => w.heap.size ≤ b) w' x [zc]) xx ww) := fun xx ww => congrFun (congrFun (congrFun hErg 15) xx) ww
  have erg16 : ∀ xx ww, Erg 16 xx ww = (xx = .nilIface) := fun xx ww => congrFun (congrFun (congrFun hErg 16) xx) ww
  obtain ⟨Crg, hCrg⟩ : ∃ CC : Array Bool → World → Prop, CC = fun L8 w' => (Mix.one L8 16 = 0 → Below w.heap.size w w') ∧ (Mix.one L8 16 = 1 → ∃ R2, PAtY Yo w B gp gg gr wd Rs R2 (pntL Ls r c [zc]) r c pd true w') := ⟨_, rfl⟩
  have krg : ∀ i L w, i ≠ 16 →  Crg L w → Crg (L.setIfInBounds i true) w := by
    intro i L w q16 h
    rw [hCrg] at h ⊢
    simp only [Mix.one_ne q16]; exact h
  obtain ⟨Xrg, hXrg⟩ : ∃ XX : World → World → Prop, XX = fun x y => Upd (fun b => b < w.heap.size) x y := ⟨_, rfl⟩
  have xrg : ∀ w, Xrg w w := fun w => by rw [hXrg]; exact Upd.refl _ _
  have strg : ∀ j x w w1, Xrg w w1 → Erg j x w → Erg j x w1 := by
    intro j x w w1 hx h
    rw [hXrg] at hx
    match j with
    | 0 => rw [erg0] at h ⊢; exact h
    | 1 => rw [erg1] at h ⊢; exact h
    | 2 => rw [erg2] at h ⊢; exact h
    | 3 => rw [erg3] at h ⊢; exact h
    | 4 => rw [erg4] at h ⊢; exact h
    | 5 => rw [erg5] at h ⊢; exact h
    | 6 => rw [erg6] at h ⊢; exact h
    | 7 => rw [erg7] at h ⊢; exact h
    | 8 => rw [erg8] at h ⊢; exact h
    | 9 => rw [erg9] at h ⊢; exact h
    | 10 => rw [erg10] at h ⊢; exact h
    | 11 => rw [erg11] at h ⊢; exact h
    | 12 => rw [erg12] at h ⊢; exact h
    | 13 => rw [erg13] at h ⊢; exact h
    | 14 => rw [erg14] at h ⊢; exact h
    | 15 => rw [erg15] at h ⊢; (exact HeldE.upd h hx (fun b hb e => by omega))
    | 16 => rw [erg16] at h ⊢; exact h
    | j + 17 => rw [hErg]; trivial
  have crg : Crg (Array.replicate 17 false) w.drew := by rw [hCrg]; exact ⟨fun _ => (Below.refl _ _).drew, fun e => absurd e (by decide)⟩
  have brg : ∀ L w w1, Crg L w → Below w.heap.size w w1 → Crg L w1 := by
    intro L w w1 h hb
    rw [hCrg] at h ⊢
    (obtain ⟨q1, q2⟩ := h; exact ⟨fun e => (q1 e).trans (hb.mono (q1 e).size), fun e => by obtain ⟨R2, h2⟩ := q2 e; exact ⟨R2, h2.below hb⟩⟩)
  have xbrg : ∀ w w1, Below w.heap.size w w1 → Xrg w w1 := by
    intro w w1 hb
    rw [hXrg]
    exact Upd.ofBelow hb
  have Hrgb := Lib.hid brg
  have Hrgxb := Lib.hid xbrg
  clear brg xbrg
  clear hErg
  have Hrgk := Lib.hid krg
  have Hrgx := Lib.hid xrg
  have Hrgst := Lib.hid strg
  have Hrgc := Lib.hid crg
  have HrghC := Lib.hid hCrg
  have HrghX := Lib.hid hXrg
  have Hrge0 := Lib.hid erg0
  have Hrge1 := Lib.hid erg1
  have Hrge2 := Lib.hid erg2
  have Hrge3 := Lib.hid erg3
  have Hrge4 := Lib.hid erg4
  have Hrge5 := Lib.hid erg5
  have Hrge6 := Lib.hid erg6
  have Hrge7 := Lib.hid erg7
  have Hrge8 := Lib.hid erg8
  have Hrge9 := Lib.hid erg9
  have Hrge10 := Lib.hid erg10
  have Hrge11 := Lib.hid erg11
  have Hrge12 := Lib.hid erg12
  have Hrge13 := Lib.hid erg13
  have Hrge14 := Lib.hid erg14
  have Hrge15 := Lib.hid erg15
  have Hrge16 := Lib.hid erg16
  clear krg xrg strg crg hCrg hXrg erg0 erg1 erg2 erg3 erg4 erg5 erg6 erg7 erg8 erg9 erg10 erg11 erg12 erg13 erg14 erg15 erg16
  go_wp2_with fail
  refine Reg.regionF Erg Crg Xrg Hrgst.out (by kernel_rfl) (by kernel_rfl) (by kernel_rfl) Hrgc.out (fun Frg hFrg => ?_)
  simp only [Reg.frame, Reg.dsts, List.map_cons, List.map_nil, Mix.put_lit, List.set_cons_succ, List.set_cons_zero, Nat.zero_add, Nat.reduceAdd] at hFrg
  refine ⟨?_, ?_⟩
  · refine ⟨?_, ?_, ?_, ?_, ?_, ?_, ?_, ?_, ?_, ?_, ?_, ?_, ?_, ?_, ?_, ?_, ?_, trivial⟩
    · intro Lq wq xq hh
      simp only [hFrg]
      refine .inl ⟨rfl, ?_⟩
      unfold Reg.upon
      have hk := Hrgk.out 0 Lq wq (by decide)  hh.cls
      have hx := Hrgx.out wq
      have he : Erg 0 (.pointer (some ⟨gp, 0, none⟩)) wq := by rw [Hrge0.out]
      have HK := Lib.hid (And.intro hk (And.intro he hx))
      clear hk hx he
      go_simp
      exact HK.out
    · intro Lq wq xq hh
      have d0 : Erg 0 (xq 0) wq := hh.val 0 (by kernel_rfl) (by kernel_rfl)
      rw [Hrge0.out] at d0
      simp only [hFrg, d0]
      clear d0
      refine .inl ⟨rfl, ?_⟩
      unfold Reg.upon
      have hk := Hrgk.out 1 Lq wq (by decide)  hh.cls
      have hx := Hrgx.out wq
      have he : Erg 1 (.pointer (some ⟨gp, 0, none⟩)) wq := by rw [Hrge1.out]
      have HK := Lib.hid (And.intro hk (And.intro he hx))
      clear hk hx he
      go_simp
      exact HK.out
    · intro Lq wq xq hh
      have d1 : Erg 1 (xq 1) wq := hh.val 1 (by kernel_rfl) (by kernel_rfl)
      rw [Hrge1.out] at d1
      simp only [hFrg, d1]
      clear d1
      refine .inl ⟨rfl, ?_⟩
      unfold Reg.upon
      have hk := Hrgk.out 2 Lq wq (by decide)  hh.cls
      have hx := Hrgx.out wq
      have he : Erg 2 (.pointer (some ⟨gp, 0, none⟩)) wq := by rw [Hrge2.out]
      have HK := Lib.hid (And.intro hk (And.intro he hx))
      clear hk hx he
      go_simp
      exact HK.out
    · intro Lq wq xq hh
      have d2 : Erg 2 (xq 2) wq := hh.val 2 (by kernel_rfl) (by kernel_rfl)
      rw [Hrge2.out] at d2
      simp only [hFrg, d2]
      clear d2
      refine .inl ⟨rfl, ?_⟩
      unfold Reg.upon
      have hc : Crg Lq wq := hh.cls
      rw [HrghC.out] at hc
      have hp := H.out.below (hc.1 (Mix.one_un (hh.notYet 16 (by kernel_rfl))))
      have q0 := hp.1.1.cell 0 _ rfl
      clear hc
      have hk := Hrgk.out 3 Lq wq (by decide)  hh.cls
      have hx := Hrgx.out wq
      have he : Erg 3 (.pointer (some ⟨gg, 0, none⟩)) wq := by rw [Hrge3.out]
      have HK := Lib.hid (And.intro hk (And.intro he hx))
      clear hk hx he
      go_simp
      exact HK.out
    · intro Lq wq xq hh
      simp only [hFrg]
      refine .inl ⟨rfl, ?_⟩
      unfold Reg.upon
      have hk := Hrgk.out 4 Lq wq (by decide)  hh.cls
      have hx := Hrgx.out wq
      have he : Erg 4 (.pointer (some ⟨gp, 0, none⟩)) wq := by rw [Hrge4.out]
      have HK := Lib.hid (And.intro hk (And.intro he hx))
      clear hk hx he
      go_simp
      exact HK.out
    · intro Lq wq xq hh
      have d4 : Erg 4 (xq 4) wq := hh.val 4 (by kernel_rfl) (by kernel_rfl)
      rw [Hrge4.out] at d4
      simp only [hFrg, d4]
      clear d4
      refine .inl ⟨rfl, ?_⟩
      unfold Reg.upon
      have hk := Hrgk.out 5 Lq wq (by decide)  hh.cls
      have hx := Hrgx.out wq
      have he : Erg 5 (.pointer (some ⟨gp, 0, none⟩)) wq := by rw [Hrge5.out]
      have HK := Lib.hid (And.intro hk (And.intro he hx))
      clear hk hx he
      go_simp
      exact HK.out
    · intro Lq wq xq hh
      have d5 : Erg 5 (xq 5) wq := hh.val 5 (by kernel_rfl) (by kernel_rfl)
      rw [Hrge5.out] at d5
      simp only [hFrg, d5]
      clear d5
      refine .inl ⟨rfl, ?_⟩
      unfold Reg.upon
      have hk := Hrgk.out 6 Lq wq (by decide)  hh.cls
      have hx := Hrgx.out wq
      have he : Erg 6 (.pointer (some ⟨gp, 1, none⟩)) wq := by rw [Hrge6.out]
      have HK := Lib.hid (And.intro hk (And.intro he hx))
      clear hk hx he
      go_simp
      exact HK.out
    · intro Lq wq xq hh
      have d6 : Erg 6 (xq 6) wq := hh.val 6 (by kernel_rfl) (by kernel_rfl)
      rw [Hrge6.out] at d6
      simp only [hFrg, d6]
      clear d6
      refine .inl ⟨rfl, ?_⟩
      unfold Reg.upon
      have hk := Hrgk.out 7 Lq wq (by decide)  hh.cls
      have hx := Hrgx.out wq
      have he : Erg 7 (.pointer (some ⟨gp, 1, none⟩)) wq := by rw [Hrge7.out]
      have HK := Lib.hid (And.intro hk (And.intro he hx))
      clear hk hx he
      go_simp
      exact HK.out
    · intro Lq wq xq hh
      have d7 : Erg 7 (xq 7) wq := hh.val 7 (by kernel_rfl) (by kernel_rfl)
      rw [Hrge7.out] at d7
      simp only [hFrg, d7]
      clear d7
      refine .inl ⟨rfl, ?_⟩
      unfold Reg.upon
      have hc : Crg Lq wq := hh.cls
      rw [HrghC.out] at hc
      have hp := H.out.below (hc.1 (Mix.one_un (hh.notYet 16 (by kernel_rfl))))
      have q0 := hp.1.1.cell 1 _ rfl
      clear hc
      have hk := Hrgk.out 8 Lq wq (by decide)  hh.cls
      have hx := Hrgx.out wq
      have he : Erg 8 (.int .i64 r) wq := by rw [Hrge8.out]
      have HK := Lib.hid (And.intro hk (And.intro he hx))
      clear hk hx he
      go_simp
      exact HK.out
    · intro Lq wq xq hh
      have d3 : Erg 3 (xq 3) wq := hh.val 3 (by kernel_rfl) (by kernel_rfl)
      rw [Hrge3.out] at d3
      have d8 : Erg 8 (xq 8) wq := hh.val 8 (by kernel_rfl) (by kernel_rfl)
      rw [Hrge8.out] at d8
      simp only [hFrg, d3, d8]
      clear d3 d8
      refine .inl ⟨rfl, ?_⟩
      unfold Reg.upon
      have hc : Crg Lq wq := hh.cls
      rw [HrghC.out] at hc
      go_simp
      refine (show Calls Tryz.prog 62 #[.pointer (some ⟨gg, 0, none⟩), .int .i64 r] wq (fun e w' => e = .returned (.pointer (some ⟨gk, 0, none⟩)) ∧ wq = w') from by rw [HGK.out]; exact grow_in B gg gr wd Rs r wq (H.out.below (hc.1 (Mix.one_un (hh.notYet 16 (by kernel_rfl))))).1.2.2.1 HI.out).mono ?_
      rintro e w2 ⟨rfl, rfl⟩
      exact ⟨_, rfl, Hrgk.out 9 Lq wq (by decide)  hh.cls, (by rw [Hrge9.out]; try rfl), Hrgx.out _⟩
    · intro Lq wq xq hh
      simp only [hFrg]
      refine .inl ⟨rfl, ?_⟩
      unfold Reg.upon
      have hk := Hrgk.out 10 Lq wq (by decide)  hh.cls
      have hx := Hrgx.out wq
      have he : Erg 10 (.pointer (some ⟨gp, 0, none⟩)) wq := by rw [Hrge10.out]
      have HK := Lib.hid (And.intro hk (And.intro he hx))
      clear hk hx he
      go_simp
      exact HK.out
    · intro Lq wq xq hh
      have d10 : Erg 10 (xq 10) wq := hh.val 10 (by kernel_rfl) (by kernel_rfl)
      rw [Hrge10.out] at d10
      simp only [hFrg, d10]
      clear d10
      refine .inl ⟨rfl, ?_⟩
      unfold Reg.upon
      have hk := Hrgk.out 11 Lq wq (by decide)  hh.cls
      have hx := Hrgx.out wq
      have he : Erg 11 (.pointer (some ⟨gp, 0, none⟩)) wq := by rw [Hrge11.out]
      have HK := Lib.hid (And.intro hk (And.intro he hx))
      clear hk hx he
      go_simp
      exact HK.out
    · intro Lq wq xq hh
      have d11 : Erg 11 (xq 11) wq := hh.val 11 (by kernel_rfl) (by kernel_rfl)
      rw [Hrge11.out] at d11
      simp only [hFrg, d11]
      clear d11
      refine .inl ⟨rfl, ?_⟩
      unfold Reg.upon
      have hk := Hrgk.out 12 Lq wq (by decide)  hh.cls
      have hx := Hrgx.out wq
      have he : Erg 12 (.pointer (some ⟨gp, 1, none⟩)) wq := by rw [Hrge12.out]
      have HK := Lib.hid (And.intro hk (And.intro he hx))
      clear hk hx he
      go_simp
      exact HK.out
    · intro Lq wq xq hh
      have d12 : Erg 12 (xq 12) wq := hh.val 12 (by kernel_rfl) (by kernel_rfl)
      rw [Hrge12.out] at d12
      simp only [hFrg, d12]
      clear d12
      refine .inl ⟨rfl, ?_⟩
      unfold Reg.upon
      have hk := Hrgk.out 13 Lq wq (by decide)  hh.cls
      have hx := Hrgx.out wq
      have he : Erg 13 (.pointer (some ⟨gp, 2, none⟩)) wq := by rw [Hrge13.out]
      have HK := Lib.hid (And.intro hk (And.intro he hx))
      clear hk hx he
      go_simp
      exact HK.out
    · intro Lq wq xq hh
      have d13 : Erg 13 (xq 13) wq := hh.val 13 (by kernel_rfl) (by kernel_rfl)
      rw [Hrge13.out] at d13
      simp only [hFrg, d13]
      clear d13
      refine .inl ⟨rfl, ?_⟩
      unfold Reg.upon
      have hc : Crg Lq wq := hh.cls
      rw [HrghC.out] at hc
      have hp := H.out.below (hc.1 (Mix.one_un (hh.notYet 16 (by kernel_rfl))))
      have q0 := hp.1.1.cell 2 _ rfl
      clear hc
      have hk := Hrgk.out 14 Lq wq (by decide)  hh.cls
      have hx := Hrgx.out wq
      have he : Erg 14 (.int .i64 c) wq := by rw [Hrge14.out]
      have HK := Lib.hid (And.intro hk (And.intro he hx))
      clear hk hx he
      go_simp
      exact HK.out
    · intro Lq wq xq hh
      simp only [hFrg]
      refine .inl ⟨rfl, ?_⟩
      unfold Reg.upon
      have hc : Crg Lq wq := hh.cls
      rw [HrghC.out] at hc
      go_simp
      refine (blanks_any (fun b => w.heap.size ≤ b) 1 wq).mono ?_
      rintro e w2 ⟨v2, rfl, ho2, hb2⟩
      refine ⟨_, rfl, Hrgk.out 15 Lq w2 (by decide) (Hrgb.out Lq wq w2 hh.cls hb2), ?_, Hrgxb.out wq w2 hb2⟩
      rw [Hrge15.out]
      exact ho2.held (fun b hb _ => Nat.le_trans (hc.1 (Mix.one_un (hh.notYet 16 (by kernel_rfl)))).size hb)
    · intro Lq wq xq hh
      have d9 : Erg 9 (xq 9) wq := hh.val 9 (by kernel_rfl) (by kernel_rfl)
      rw [Hrge9.out] at d9
      have d14 : Erg 14 (xq 14) wq := hh.val 14 (by kernel_rfl) (by kernel_rfl)
      rw [Hrge14.out] at d14
      have d15 : Erg 15 (xq 15) wq := hh.val 15 (by kernel_rfl) (by kernel_rfl)
      rw [Hrge15.out] at d15
      simp only [hFrg, d9, d14]
      clear d9 d14
      refine .inl ⟨rfl, ?_⟩
      unfold Reg.upon
      have hc : Crg Lq wq := hh.cls
      rw [HrghC.out] at hc
      go_simp
      refine (show Calls Tryz.prog 188 #[.pointer (some ⟨gk, 0, none⟩), .int .i64 c, xq 15] wq _ from by rw [HGK.out]; exact ppaint_any (H.out.below (hc.1 hh.un)) r c HI.out [zc] (xq 15) _ d15 (fun b hb => ⟨hb, by have := HLT.out; omega, by have := HLT.out; omega⟩) (by have := HC.out; simp only [List.length_singleton]; omega) (by decide)).mono ?_
      rintro e w2 ⟨rfl, h2, u2⟩
      refine ⟨_, rfl, ?_, (by rw [Hrge16.out]), by rw [HrghX.out]; exact u2.mono fun b _ e => by have := HLT.out; rcases e with e | e <;> omega⟩
      rw [HrghC.out]
      exact ⟨fun e => (by rw [Mix.one_set (by rw [hh.size]; decide)] at e; exact absurd e (by decide)), fun _ => h2⟩
  intro xq wrg hcrg hvrg
  rw [HrghC.out] at hcrg
  simp only [hFrg]
  clear hvrg hFrg Hrgk Hrgx Hrgst Hrgc HrghC HrghX Hrgb Hrgxb Hrge0 Hrge1 Hrge2 Hrge3 Hrge4 Hrge5 Hrge6 Hrge7 Hrge8 Hrge9 Hrge10 Hrge11 Hrge12 Hrge13 Hrge14 Hrge15 Hrge16
  obtain ⟨R2, h2⟩ := hcrg.2 (by kernel_rfl)
  have H2 := Lib.hid h2
  clear hcrg h2 q4
  have hd := pgo_any B gp gg gr wd _ (pntL Ls r c [zc]) r c pd true wrg H2.out.1 HML.out
  rw [HDR.out] at hd
  go_wp2_with fail
  refine hd.mono ?_
  rintro e w5 ⟨rfl, k5⟩
  obtain ⟨R5, h5⟩ := H2.out.go k5
  have HF := Lib.hid h5.done
  clear hd k5 h5
  go_wp2
  exact bodyPost_end (by kernel_rfl) rfl ⟨rfl, HF.out⟩
/-- A new line. -/
theorem pnew_line (B gp gg gr wd : Nat) (Rs : List Rw) (Ls : List Ln) (r c : Int) (pd au : Bool) (w : World) (h : PenY Yo w B gp gg gr wd Rs Ls r c pd au) (r2 c2 : Nat) (hr2 : inI r (sideI Ls.length) = (r2 : Int)) (hc2 : inI c (sideI wd) = (c2 : Int)) (hlt : r2 < Ls.length) : Calls Tryz.prog 196 #[.pointer (some ⟨gp, 0, none⟩)] w (fun e w' => e = .returned (.tuple #[]) ∧ PDoY Yo w B gp gg gr wd Rs (downL Ls r2) (downR Ls r2 : Nat) c2 false au w') := by
  have HH := Lib.hid (phold_any B gp gg gr wd Rs Ls r c pd au w h)
  rw [hr2, hc2] at HH
  have H := Lib.hid (PAtY.start h)
  have HLT := Lib.hid hlt
  obtain ⟨pd2, hpd⟩ : ∃ pd2, pd2 = holdP c pd wd := ⟨_, rfl⟩
  rw [← hpd] at HH
  clear h hr2 hc2 hlt hpd
  go_enter Tryz.func196, Tryz.ntmps196
  go_wp2_with fail
  refine HH.out.mono ?_
  rintro e w2 ⟨rfl, k2⟩
  obtain ⟨R2, h2⟩ := H.out.go k2
  have H2 := Lib.hid h2
  clear k2 h2
  have hd := pdown_any B gp gg gr wd R2 Ls r2 c2 pd2 au w2 H2.out.1 HLT.out
  go_wp2_with fail
  refine hd.mono ?_
  rintro e w5 ⟨rfl, k5⟩
  obtain ⟨R5, h5⟩ := H2.out.go k5
  have HF := Lib.hid h5.done
  clear hd k5 h5
  go_wp2
  exact bodyPost_end (by kernel_rfl) rfl ⟨rfl, HF.out⟩
/-- A new pen. -/
theorem pnew_any (a b : Int) (w : World) : Calls Tryz.prog 31 #[.int .i64 a, .int .i64 b] w (fun e w' => ∃ gp gg gr Rs, e = .returned (.pointer (some ⟨gp, 0, none⟩)) ∧ PenAt w' w.heap.size gp gg gr (rowN a) Rs (List.replicate (rowN b) (List.replicate (rowN a) zc, false)) 0 0 false true ∧ Below w.heap.size w w') := by
  go_enter Tryz.func31, Tryz.ntmps31
  go_wp2_with fail
  refine (gnew_any a b w).mono ?_
  rintro e w1 ⟨gg, gr, Rs, rfl, hg, hm, b1⟩
  have hb := (Below.refl w1.heap.size w1).alloc (Nat.le_refl _) (.cells [Value.pointer (some ⟨gg, 0, none⟩), .int .i64 0, .int .i64 0, .bool false, .bool true].toArray 42)
  have hn := Has.new w1 [Value.pointer (some ⟨gg, 0, none⟩), .int .i64 0, .int .i64 0, .bool false, .bool true] 42
  have HF := Lib.hid (show PenAt (w1.alloc (.cells [Value.pointer (some ⟨gg, 0, none⟩), .int .i64 0, .int .i64 0, .bool false, .bool true].toArray 42)) w.heap.size w1.heap.size gg gr (rowN a) Rs (List.replicate (rowN b) (List.replicate (rowN a) zc, false)) 0 0 false true from ⟨hn, b1.size, hg.below hb, hm⟩)
  have HB := Lib.hid (b1.trans (hb.mono b1.size))
  clear hg hm b1 hb hn
  go_wp2
  go_ret
  exact ⟨_, gg, gr, Rs, (ret_eq (by first | rfl | (simp <;> omega))), HF.out, HB.out⟩
end Go.Proofs.YtoeggiplcaegoaaGreatDoor
/- ctrl.Do. -/
namespace Go.Proofs.YtoeggiplcaegoaaGreatDoor
open Go.RowKit Go.ChangeShapes Go.WideShapes
set_option maxRecDepth 100000 in
theorem cback_zero (r : Int) (p : Bool) (w : World) : Calls Tryz.prog 187 #[.agg #[.int .i64 r, .int .i64 0, .bool p]] w (Gives w (.agg #[.int .i64 r, .int .i64 0, .bool false])) := by
  go_enter Tryz.func187, Tryz.ntmps187
  go_wp2_with fail
  obtain ⟨W, hW, hb, hr, hl⟩ := boxes2 w (Value.int .i64 r) (.int .i64 0) (.bool false) (Value.int .i64 r) (.int .i64 0) (.bool false)
  rw [← hW]
  have k0 := hr.cell 0 _ rfl
  have k1 := hr.cell 1 _ rfl
  have k2 := hr.cell 2 _ rfl
  exact bodyPost_ret (v := .agg #[.int .i64 r, .int .i64 0, .bool false]) (by simp [results, Tryz.results187, go_sem, k0, k1, k2]) rfl ⟨rfl, hl⟩
theorem cback_nat (r : Int) (c : Nat) (p : Bool) (w : World) (hc : c ≤ 2000) : Calls Tryz.prog 187 #[.agg #[.int .i64 r, .int .i64 c, .bool p]] w (Gives w (.agg #[.int .i64 r, .int .i64 ((c - 1 : Nat) : Int), .bool false])) := by
  match c, hc with
  | 0, _ => exact cback_zero r p w
  | c + 1, hc => exact cback_any r c p w (by omega)
theorem ctdo_no (p : Option Addr) (k : Int) (w : World) (hs : silB k = false) : Calls Tryz.prog 148 #[.pointer p, .int .i32 k] w (Gives w (.bool false)) := by
  have HS := Lib.hid (bsil_any k w)
  rw [hs] at HS
  clear hs
  go_enter Tryz.func148, Tryz.ntmps148
  go_wp2_with fail
  refine HS.out.mono ?_
  rintro e w1 ⟨rfl, b1⟩
  go_wp2
  go_ret
  exact ⟨(ret_eq (by first | rfl | (simp <;> omega))), b1⟩
set_option maxRecDepth 100000 in
set_option maxHeartbeats 4000000 in
theorem ctdo_yes {Yo : Zone} (B gp gg gr wd : Nat) (Rs : List Rw) (Ls : List Ln) (r c : Int) (pd au : Bool) (k : Int) (w : World) (h : PenY Yo w B gp gg gr wd Rs Ls r c pd au) (r2 c2 : Nat) (hr2 : inI r (sideI Ls.length) = (r2 : Int)) (hc2 : inI c (sideI wd) = (c2 : Int)) (hlr : r2 < Ls.length) (hlc : c2 < wd) (hs : silB k = true) :
    Calls Tryz.prog 148 #[.pointer (some ⟨gp, 0, none⟩), .int .i32 k] w (fun e w' => e = .returned (.bool true) ∧ PDoY Yo w B gp gg gr wd Rs (ctL Ls r2 k) (ctR Ls r r2 k) (ctC c c2 k) (ctP pd k) au w') := by
  have hsz := h.sizes
  obtain ⟨ht, hht⟩ : ∃ ht, ht = Ls.length := ⟨_, rfl⟩
  have HSIL := Lib.hid (show Calls Tryz.prog 147 #[.int .i32 k] w (Gives w (.bool true)) from by have h9 := bsil_any k w; rw [hs] at h9; exact h9)
  obtain ⟨pd2, hpd2⟩ : ∃ pd2, holdP c pd wd = pd2 := ⟨_, rfl⟩
  have HHO := Lib.hid (show ∀ w', Calls Tryz.prog 108 #[.agg #[.int .i64 r, .int .i64 c, .bool pd], .int .i64 wd, .int .i64 ht] w' (Gives w' (.agg #[.int .i64 r2, .int .i64 c2, .bool pd2])) from fun w' => by
    have h1 := chold_any r c pd wd ht w'
    rw [hht, hr2, hc2, hpd2] at h1
    rw [hht]
    exact h1)
  have HHT := Lib.hid hht
  have HC2 := Lib.hid (show c2 ≤ 2000 from by have := hsz.2.2.2.1; omega)
  have H0 := Lib.hid (PAtY.start h)
  have HNL := Lib.hid (show ∀ w', PenY Yo w' B gp gg gr wd Rs Ls r c pd au → Calls Tryz.prog 196 #[.pointer (some ⟨gp, 0, none⟩)] w' (fun e w2 => e = .returned (.tuple #[]) ∧ PDoY Yo w' B gp gg gr wd Rs (downL Ls r2) (downR Ls r2 : Nat) c2 false au w2) from fun w' h9 => pnew_line B gp gg gr wd Rs Ls r c pd au w' h9 r2 c2 hr2 hc2 hlr)
  obtain ⟨RL, hRL⟩ : ∃ RL, RL = ctL Ls r2 k := ⟨_, rfl⟩
  obtain ⟨rr, hrr⟩ : ∃ rr, rr = ctR Ls r r2 k := ⟨_, rfl⟩
  obtain ⟨cc, hcc⟩ : ∃ cc, cc = ctC c c2 k := ⟨_, rfl⟩
  obtain ⟨pp, hpp⟩ : ∃ pp, pp = ctP pd k := ⟨_, rfl⟩
  rw [← hRL, ← hrr, ← hcc, ← hpp]
  have HQ := Lib.hid (And.intro hRL (And.intro hrr (And.intro hcc hpp)))
  clear h hht hr2 hc2 hpd2 hsz hlr hlc hs hRL hrr hcc hpp
  go_enter Tryz.func148, Tryz.ntmps148
  go_wp2_with fail
  refine HSIL.out.mono ?_
  rintro e w1 ⟨rfl, b1⟩
  have H1 := Lib.hid (H0.out.below b1)
  have c0 := H1.out.1.1.cell 0 _ rfl
  have H := Lib.hid H1.out.1
  clear b1 H0 HSIL
  go_upto_region 5 with (fail)
  clear c0
  have HHI := Lib.hid (show ∀ w', Below w1.heap.size w1 w' → Calls Tryz.prog 95 #[.pointer (some ⟨gg, 0, none⟩)] w' (fun e w2 => e = .returned (.int .i64 ht) ∧ w' = w2) from fun w' hb => by
    have h1 := ghigh_any B gg gr wd Rs w' (H.out.below hb).2.2.1
    rw [H.out.sizes.2.2.2.2.1, ← HHT.out] at h1
    exact h1)
  obtain ⟨Erg, hErg⟩ : ∃ EE : Nat → Value → World → Prop, EE = fun jj xx ww => match jj with
      | 0 => xx = .pointer (some ⟨gp, 0, none⟩)
      | 1 => xx = .pointer (some ⟨gp, 0, none⟩)
      | 2 => xx = .pointer (some ⟨gp, 1, none⟩)
      | 3 => xx = .agg #[.int .i64 r, .int .i64 c, .bool pd]
      | 4 => xx = .pointer (some ⟨gp, 0, none⟩)
      | 5 => xx = .pointer (some ⟨gp, 0, none⟩)
      | 6 => xx = .pointer (some ⟨gp, 0, none⟩)
      | 7 => xx = .pointer (some ⟨gg, 0, none⟩)
      | 8 => xx = .int .i64 wd
      | 9 => xx = .pointer (some ⟨gp, 0, none⟩)
      | 10 => xx = .pointer (some ⟨gp, 0, none⟩)
      | 11 => xx = .pointer (some ⟨gp, 0, none⟩)
      | 12 => xx = .pointer (some ⟨gg, 0, none⟩)
      | 13 => xx = .int .i64 ht
      | 14 => xx = .agg #[.int .i64 r2, .int .i64 c2, .bool pd2]
      | 15 => (fun x w' => True) xx ww
      | 16 => xx = undef
      | _ => True := ⟨_, rfl⟩
  have erg0 : ∀ xx ww, Erg 0 xx ww = (xx = .pointer (some ⟨gp, 0, none⟩)) := fun xx ww => congrFun (congrFun (congrFun hErg 0) xx) ww
  have erg1 : ∀ xx ww, Erg 1 xx ww = (xx = .pointer (some ⟨gp, 0, none⟩)) := fun xx ww => congrFun (congrFun (congrFun hErg 1) xx) ww
  have erg2 : ∀ xx ww, Erg 2 xx ww = (xx = .pointer (some ⟨gp, 1, none⟩)) := fun xx ww => congrFun (congrFun (congrFun hErg 2) xx) ww
  have erg3 : ∀ xx ww, Erg 3 xx ww = (xx = .agg #[.int .i64 r, .int .i64 c, .bool pd]) := fun xx ww => congrFun (congrFun (congrFun hErg 3) xx) ww
  have erg4 : ∀ xx ww, Erg 4 xx ww = (xx = .pointer (some ⟨gp, 0, none⟩)) := fun xx ww => congrFun (congrFun (congrFun hErg 4) xx) ww
  have erg5 : ∀ xx ww, Erg 5 xx ww = (xx = .pointer (some ⟨gp, 0, none⟩)) := fun xx ww => congrFun (congrFun (congrFun hErg 5) xx) ww
  have erg6 : ∀ xx ww, Erg 6 xx ww = (xx = .pointer (some ⟨gp, 0, none⟩)) := fun xx ww => congrFun (congrFun (congrFun hErg 6) xx) ww
  have erg7 : ∀ xx ww, Erg 7 xx ww = (xx = .pointer (some ⟨gg, 0, none⟩)) := fun xx ww => congrFun (congrFun (congrFun hErg 7) xx) ww
  have erg8 : ∀ xx ww, Erg 8 xx ww = (xx = .int .i64 wd) := fun xx ww => congrFun (congrFun (congrFun hErg 8) xx) ww
  have erg9 : ∀ xx ww, Erg 9 xx ww = (xx = .pointer (some ⟨gp, 0, none⟩)) := fun xx ww => congrFun (congrFun (congrFun hErg 9) xx) ww
  have erg10 : ∀ xx ww, Erg 10 xx ww = (xx = .pointer (some ⟨gp, 0, none⟩)) := fun xx ww => congrFun (congrFun (congrFun hErg 10) xx) ww
  have erg11 : ∀ xx ww, Erg 11 xx ww = (xx = .pointer (some ⟨gp, 0, none⟩)) := fun xx ww => congrFun (congrFun (congrFun hErg 11) xx) ww
  have erg12 : ∀ xx ww, Erg 12 xx ww = (xx = .pointer (some ⟨gg, 0, none⟩)) := fun xx ww => congrFun (congrFun (congrFun hErg 12) xx) ww
  have erg13 : ∀ xx ww, Erg 13 xx ww = (xx = .int .i64 ht) := fun xx ww => congrFun (congrFun (congrFun hErg 13) xx) ww
  have erg14 : ∀ xx ww, Erg 14 xx ww = (xx = .agg #[.int .i64 r2, .int .i64 c2, .bool pd2]) := fun xx ww => congrFun (congrFun (congrFun hErg 14) xx) ww
  have erg15 : ∀ xx ww, Erg 15 xx ww = ((fun x w' => True) xx ww) := fun xx ww => congrFun (congrFun (congrFun hErg 15) xx) ww
  have erg16 : ∀ xx ww, Erg 16 xx ww = (xx = undef) := fun xx ww => congrFun (congrFun (congrFun hErg 16) xx) ww
  obtain ⟨Crg, hCrg⟩ : ∃ CC : Array Bool → Value → World → Prop, CC = fun L8 x w' => Below w1.heap.size w1 w' ∧ (Mix.one L8 15 = 1 → ∃ g, x = .pointer (some ⟨g, 0, none⟩) ∧ w1.heap.size ≤ g ∧ (Mix.one L8 16 = 0 → Has w' g [.int .i64 0, .int .i64 0, .bool false] 24) ∧ (Mix.one L8 16 = 1 → Has w' g [.int .i64 r2, .int .i64 c2, .bool pd2] 24)) := ⟨_, rfl⟩
  have krg : ∀ i L {x : Value} w, i ≠ 15 → i ≠ 16 →  Crg L x w → Crg (L.setIfInBounds i true) x w := by
    intro i L x w q15 q16 h
    rw [hCrg] at h ⊢
    simp only [Mix.one_ne q15, Mix.one_ne q16]; exact h
  obtain ⟨Xrg, hXrg⟩ : ∃ XX : World → World → Prop, XX = fun _ _ => True := ⟨_, rfl⟩
  have xrg : ∀ w, Xrg w w := fun w => by rw [hXrg]; exact trivial
  have strg : ∀ j x w w1, Xrg w w1 → Erg j x w → Erg j x w1 := by
    intro j x w w1 hx h
    rw [hXrg] at hx
    match j with
    | 0 => rw [erg0] at h ⊢; exact h
    | 1 => rw [erg1] at h ⊢; exact h
    | 2 => rw [erg2] at h ⊢; exact h
    | 3 => rw [erg3] at h ⊢; exact h
    | 4 => rw [erg4] at h ⊢; exact h
    | 5 => rw [erg5] at h ⊢; exact h
    | 6 => rw [erg6] at h ⊢; exact h
    | 7 => rw [erg7] at h ⊢; exact h
    | 8 => rw [erg8] at h ⊢; exact h
    | 9 => rw [erg9] at h ⊢; exact h
    | 10 => rw [erg10] at h ⊢; exact h
    | 11 => rw [erg11] at h ⊢; exact h
    | 12 => rw [erg12] at h ⊢; exact h
    | 13 => rw [erg13] at h ⊢; exact h
    | 14 => rw [erg14] at h ⊢; exact h
    | 15 => rw [erg15] at h ⊢; (exact h)
    | 16 => rw [erg16] at h ⊢; exact h
    | j + 17 => rw [hErg]; trivial
  have crg : ∀ x, Crg (Array.replicate 17 false) x w1.drew := fun x => by rw [hCrg]; exact ⟨(Below.refl _ _).drew, fun e => absurd e (by decide)⟩
  have brg : ∀ L {x : Value} w w1, Crg L x w → Below w.heap.size w w1 → Crg L x w1 := by
    intro L x w w1 h hb
    rw [hCrg] at h ⊢
    (obtain ⟨q1, q2⟩ := h; exact ⟨q1.trans (hb.mono q1.size), fun e => by obtain ⟨g, e1, e2, e3, e4⟩ := q2 e; exact ⟨g, e1, e2, fun f => (e3 f).below hb (e3 f).lt, fun f => (e4 f).below hb (e4 f).lt⟩⟩)
  have xbrg : ∀ w w1, Below w.heap.size w w1 → Xrg w w1 := by
    intro w w1 hb
    rw [hXrg]
    trivial
  have Hrgb : Go.RowKit.Hid (∀ L {x : Value} w w1, Crg L x w → Below w.heap.size w w1 → Crg L x w1) := @brg
  have Hrgxb := Lib.hid xbrg
  clear brg xbrg
  clear hErg
  have Hrgk : Go.RowKit.Hid (∀ i L {x : Value} w, i ≠ 15 → i ≠ 16 →  Crg L x w → Crg (L.setIfInBounds i true) x w) := @krg
  have Hrgx := Lib.hid xrg
  have Hrgst := Lib.hid strg
  have Hrgc := Lib.hid crg
  have HrghC := Lib.hid hCrg
  have HrghX := Lib.hid hXrg
  have Hrge0 := Lib.hid erg0
  have Hrge1 := Lib.hid erg1
  have Hrge2 := Lib.hid erg2
  have Hrge3 := Lib.hid erg3
  have Hrge4 := Lib.hid erg4
  have Hrge5 := Lib.hid erg5
  have Hrge6 := Lib.hid erg6
  have Hrge7 := Lib.hid erg7
  have Hrge8 := Lib.hid erg8
  have Hrge9 := Lib.hid erg9
  have Hrge10 := Lib.hid erg10
  have Hrge11 := Lib.hid erg11
  have Hrge12 := Lib.hid erg12
  have Hrge13 := Lib.hid erg13
  have Hrge14 := Lib.hid erg14
  have Hrge15 := Lib.hid erg15
  have Hrge16 := Lib.hid erg16
  clear krg xrg strg crg hCrg hXrg erg0 erg1 erg2 erg3 erg4 erg5 erg6 erg7 erg8 erg9 erg10 erg11 erg12 erg13 erg14 erg15 erg16
  go_wp2_with fail
  refine RegC.regionF 15 Erg Crg Xrg Hrgst.out (by kernel_rfl) (by kernel_rfl) (by kernel_rfl) Hrgc.out (fun Frg hFrg => ?_)
  simp only [Reg.frame, Reg.dsts, List.map_cons, List.map_nil, Mix.put_lit, Reg.put_none, List.set_cons_succ, List.set_cons_zero, Nat.zero_add, Nat.reduceAdd] at hFrg
  refine ⟨?_, ?_⟩
  · refine ⟨?_, ?_, ?_, ?_, ?_, ?_, ?_, ?_, ?_, ?_, ?_, ?_, ?_, ?_, ?_, ?_, ?_, trivial⟩
    · intro Lq wq xq hh
      simp only [hFrg]
      refine .inl ⟨rfl, ?_⟩
      unfold Reg.upon
      have hk := Hrgk.out 0 Lq wq (by decide) (by decide)  hh.cls
      have hx := Hrgx.out wq
      have he : Erg 0 (.pointer (some ⟨gp, 0, none⟩)) wq := by rw [Hrge0.out]
      have HK := Lib.hid (And.intro hk (And.intro he hx))
      clear hk hx he
      go_simp
      exact HK.out
    · intro Lq wq xq hh
      have d0 : Erg 0 (xq 0) wq := hh.val 0 (by kernel_rfl) (by kernel_rfl)
      rw [Hrge0.out] at d0
      simp only [hFrg, d0]
      clear d0
      refine .inl ⟨rfl, ?_⟩
      unfold Reg.upon
      have hk := Hrgk.out 1 Lq wq (by decide) (by decide)  hh.cls
      have hx := Hrgx.out wq
      have he : Erg 1 (.pointer (some ⟨gp, 0, none⟩)) wq := by rw [Hrge1.out]
      have HK := Lib.hid (And.intro hk (And.intro he hx))
      clear hk hx he
      go_simp
      exact HK.out
    · intro Lq wq xq hh
      have d1 : Erg 1 (xq 1) wq := hh.val 1 (by kernel_rfl) (by kernel_rfl)
      rw [Hrge1.out] at d1
      simp only [hFrg, d1]
      clear d1
      refine .inl ⟨rfl, ?_⟩
      unfold Reg.upon
      have hk := Hrgk.out 2 Lq wq (by decide) (by decide)  hh.cls
      have hx := Hrgx.out wq
      have he : Erg 2 (.pointer (some ⟨gp, 1, none⟩)) wq := by rw [Hrge2.out]
      have HK := Lib.hid (And.intro hk (And.intro he hx))
      clear hk hx he
      go_simp
      exact HK.out
    · intro Lq wq xq hh
      have d2 : Erg 2 (xq 2) wq := hh.val 2 (by kernel_rfl) (by kernel_rfl)
      rw [Hrge2.out] at d2
      simp only [hFrg, d2]
      clear d2
      refine .inl ⟨rfl, ?_⟩
      unfold Reg.upon
      have hc : Crg Lq (xq 15) wq := hh.cls
      rw [HrghC.out] at hc
      have hp := H.out.below hc.1
      have q1 := hp.1.cell 1 _ rfl
      have q2 := hp.1.cell 2 _ rfl
      have q3 := hp.1.cell 3 _ rfl
      clear hc
      have hk := Hrgk.out 3 Lq wq (by decide) (by decide)  hh.cls
      have hx := Hrgx.out wq
      have he : Erg 3 (.agg #[.int .i64 r, .int .i64 c, .bool pd]) wq := by rw [Hrge3.out]
      have HK := Lib.hid (And.intro hk (And.intro he hx))
      clear hk hx he
      go_simp
      exact HK.out
    · intro Lq wq xq hh
      simp only [hFrg]
      refine .inl ⟨rfl, ?_⟩
      unfold Reg.upon
      have hk := Hrgk.out 4 Lq wq (by decide) (by decide)  hh.cls
      have hx := Hrgx.out wq
      have he : Erg 4 (.pointer (some ⟨gp, 0, none⟩)) wq := by rw [Hrge4.out]
      have HK := Lib.hid (And.intro hk (And.intro he hx))
      clear hk hx he
      go_simp
      exact HK.out
    · intro Lq wq xq hh
      have d4 : Erg 4 (xq 4) wq := hh.val 4 (by kernel_rfl) (by kernel_rfl)
      rw [Hrge4.out] at d4
      simp only [hFrg, d4]
      clear d4
      refine .inl ⟨rfl, ?_⟩
      unfold Reg.upon
      have hk := Hrgk.out 5 Lq wq (by decide) (by decide)  hh.cls
      have hx := Hrgx.out wq
      have he : Erg 5 (.pointer (some ⟨gp, 0, none⟩)) wq := by rw [Hrge5.out]
      have HK := Lib.hid (And.intro hk (And.intro he hx))
      clear hk hx he
      go_simp
      exact HK.out
    · intro Lq wq xq hh
      have d5 : Erg 5 (xq 5) wq := hh.val 5 (by kernel_rfl) (by kernel_rfl)
      rw [Hrge5.out] at d5
      simp only [hFrg, d5]
      clear d5
      refine .inl ⟨rfl, ?_⟩
      unfold Reg.upon
      have hk := Hrgk.out 6 Lq wq (by decide) (by decide)  hh.cls
      have hx := Hrgx.out wq
      have he : Erg 6 (.pointer (some ⟨gp, 0, none⟩)) wq := by rw [Hrge6.out]
      have HK := Lib.hid (And.intro hk (And.intro he hx))
      clear hk hx he
      go_simp
      exact HK.out
    · intro Lq wq xq hh
      have d6 : Erg 6 (xq 6) wq := hh.val 6 (by kernel_rfl) (by kernel_rfl)
      rw [Hrge6.out] at d6
      simp only [hFrg, d6]
      clear d6
      refine .inl ⟨rfl, ?_⟩
      unfold Reg.upon
      have hc : Crg Lq (xq 15) wq := hh.cls
      rw [HrghC.out] at hc
      have hp := H.out.below hc.1
      have q0 := hp.1.cell 0 _ rfl
      clear hc
      have hk := Hrgk.out 7 Lq wq (by decide) (by decide)  hh.cls
      have hx := Hrgx.out wq
      have he : Erg 7 (.pointer (some ⟨gg, 0, none⟩)) wq := by rw [Hrge7.out]
      have HK := Lib.hid (And.intro hk (And.intro he hx))
      clear hk hx he
      go_simp
      exact HK.out
    · intro Lq wq xq hh
      have d7 : Erg 7 (xq 7) wq := hh.val 7 (by kernel_rfl) (by kernel_rfl)
      rw [Hrge7.out] at d7
      simp only [hFrg, d7]
      clear d7
      refine .inl ⟨rfl, ?_⟩
      unfold Reg.upon
      have hc : Crg Lq (xq 15) wq := hh.cls
      rw [HrghC.out] at hc
      go_simp
      refine (gwide_any B gg gr wd Rs wq (H.out.below hc.1).2.2.1).mono ?_
      rintro e w2 ⟨rfl, rfl⟩
      exact ⟨_, rfl, Hrgk.out 8 Lq wq (by decide) (by decide)  hh.cls, (by rw [Hrge8.out]; try rfl), Hrgx.out _⟩
    · intro Lq wq xq hh
      simp only [hFrg]
      refine .inl ⟨rfl, ?_⟩
      unfold Reg.upon
      have hk := Hrgk.out 9 Lq wq (by decide) (by decide)  hh.cls
      have hx := Hrgx.out wq
      have he : Erg 9 (.pointer (some ⟨gp, 0, none⟩)) wq := by rw [Hrge9.out]
      have HK := Lib.hid (And.intro hk (And.intro he hx))
      clear hk hx he
      go_simp
      exact HK.out
    · intro Lq wq xq hh
      have d9 : Erg 9 (xq 9) wq := hh.val 9 (by kernel_rfl) (by kernel_rfl)
      rw [Hrge9.out] at d9
      simp only [hFrg, d9]
      clear d9
      refine .inl ⟨rfl, ?_⟩
      unfold Reg.upon
      have hk := Hrgk.out 10 Lq wq (by decide) (by decide)  hh.cls
      have hx := Hrgx.out wq
      have he : Erg 10 (.pointer (some ⟨gp, 0, none⟩)) wq := by rw [Hrge10.out]
      have HK := Lib.hid (And.intro hk (And.intro he hx))
      clear hk hx he
      go_simp
      exact HK.out
    · intro Lq wq xq hh
      have d10 : Erg 10 (xq 10) wq := hh.val 10 (by kernel_rfl) (by kernel_rfl)
      rw [Hrge10.out] at d10
      simp only [hFrg, d10]
      clear d10
      refine .inl ⟨rfl, ?_⟩
      unfold Reg.upon
      have hk := Hrgk.out 11 Lq wq (by decide) (by decide)  hh.cls
      have hx := Hrgx.out wq
      have he : Erg 11 (.pointer (some ⟨gp, 0, none⟩)) wq := by rw [Hrge11.out]
      have HK := Lib.hid (And.intro hk (And.intro he hx))
      clear hk hx he
      go_simp
      exact HK.out
    · intro Lq wq xq hh
      have d11 : Erg 11 (xq 11) wq := hh.val 11 (by kernel_rfl) (by kernel_rfl)
      rw [Hrge11.out] at d11
      simp only [hFrg, d11]
      clear d11
      refine .inl ⟨rfl, ?_⟩
      unfold Reg.upon
      have hc : Crg Lq (xq 15) wq := hh.cls
      rw [HrghC.out] at hc
      have hp := H.out.below hc.1
      have q0 := hp.1.cell 0 _ rfl
      clear hc
      have hk := Hrgk.out 12 Lq wq (by decide) (by decide)  hh.cls
      have hx := Hrgx.out wq
      have he : Erg 12 (.pointer (some ⟨gg, 0, none⟩)) wq := by rw [Hrge12.out]
      have HK := Lib.hid (And.intro hk (And.intro he hx))
      clear hk hx he
      go_simp
      exact HK.out
    · intro Lq wq xq hh
      have d12 : Erg 12 (xq 12) wq := hh.val 12 (by kernel_rfl) (by kernel_rfl)
      rw [Hrge12.out] at d12
      simp only [hFrg, d12]
      clear d12
      refine .inl ⟨rfl, ?_⟩
      unfold Reg.upon
      have hc : Crg Lq (xq 15) wq := hh.cls
      rw [HrghC.out] at hc
      go_simp
      refine (HHI.out wq hc.1).mono ?_
      rintro e w2 ⟨rfl, rfl⟩
      exact ⟨_, rfl, Hrgk.out 13 Lq wq (by decide) (by decide)  hh.cls, (by rw [Hrge13.out]; try rfl), Hrgx.out _⟩
    · intro Lq wq xq hh
      have d3 : Erg 3 (xq 3) wq := hh.val 3 (by kernel_rfl) (by kernel_rfl)
      rw [Hrge3.out] at d3
      have d8 : Erg 8 (xq 8) wq := hh.val 8 (by kernel_rfl) (by kernel_rfl)
      rw [Hrge8.out] at d8
      have d13 : Erg 13 (xq 13) wq := hh.val 13 (by kernel_rfl) (by kernel_rfl)
      rw [Hrge13.out] at d13
      simp only [hFrg, d3, d8, d13]
      clear d3 d8 d13
      refine .inl ⟨rfl, ?_⟩
      unfold Reg.upon
      have hc : Crg Lq (xq 15) wq := hh.cls
      rw [HrghC.out] at hc
      go_simp
      refine (HHO.out wq).mono ?_
      rintro e w2 ⟨rfl, hb⟩
      exact ⟨_, rfl, Hrgk.out 14 Lq w2 (by decide) (by decide)  (Hrgb.out Lq wq w2 hh.cls hb), (by rw [Hrge14.out]; try rfl), Hrgxb.out wq w2 hb⟩
    · intro Lq wq xq hh
      simp only [hFrg]
      refine .inl ⟨rfl, ?_⟩
      unfold Reg.upon
      have hc : Crg Lq (xq 15) wq := hh.cls
      rw [HrghC.out] at hc
      have hn := Has.new wq [.int .i64 0, .int .i64 0, .bool false] 24
      have hb := (Below.refl wq.heap.size wq).alloc (Nat.le_refl _) (.cells [Value.int .i64 0, .int .i64 0, .bool false].toArray 24)
      have hF : Crg (Lq.setIfInBounds 15 true) (.pointer (some ⟨wq.heap.size, 0, none⟩)) (wq.alloc (.cells [Value.int .i64 0, .int .i64 0, .bool false].toArray 24)) := by
        rw [HrghC.out]
        refine ⟨hc.1.trans (hb.mono hc.1.size), fun _ => ⟨_, rfl, hc.1.size, fun _ => hn, fun e => ?_⟩⟩
        rw [Mix.one_ne (by decide), Mix.one_un (hh.notYet 16 (by kernel_rfl))] at e
        exact absurd e (by decide)
      have hE : Erg 15 (.pointer (some ⟨wq.heap.size, 0, none⟩)) (wq.alloc (.cells [Value.int .i64 0, .int .i64 0, .bool false].toArray 24)) := by rw [Hrge15.out]; trivial
      have hX : Xrg wq (wq.alloc (.cells [Value.int .i64 0, .int .i64 0, .bool false].toArray 24)) := by rw [HrghX.out]; trivial
      go_simp
      exact ⟨hF, hE, hX⟩
    · intro Lq wq xq hh
      have d14 : Erg 14 (xq 14) wq := hh.val 14 (by kernel_rfl) (by kernel_rfl)
      rw [Hrge14.out] at d14
      have d15 : Erg 15 (xq 15) wq := hh.val 15 (by kernel_rfl) (by kernel_rfl)
      rw [Hrge15.out] at d15
      simp only [hFrg, d14]
      clear d14
      refine .inl ⟨rfl, ?_⟩
      unfold Reg.upon
      have hc : Crg Lq (xq 15) wq := hh.cls
      rw [HrghC.out] at hc
      obtain ⟨g, e1, e2, e3, e4⟩ := hc.2 (hh.isDone 15 (by kernel_rfl))
      have hz := e3 hh.un
      have q0 := hz.cell 0 _ rfl
      have q1 := hz.cell 1 _ rfl
      have q2 := hz.cell 2 _ rfl
      have g0 := hz.free 0
      have g1 := hz.free 1
      have g2 := hz.free 2
      have hF : Crg (Lq.setIfInBounds 16 true) (xq 15) (((wq.setCell ⟨g, 0, none⟩ (.int .i64 r2)).setCell ⟨g, 1, none⟩ (.int .i64 c2)).setCell ⟨g, 2, none⟩ (.bool pd2)) := by
        rw [HrghC.out]
        refine ⟨hc.1.trans ((((Upd.refl (fun b => w1.heap.size ≤ b) wq).setCell (p := ⟨g, 0, none⟩) (.inl e2) _).setCell (p := ⟨g, 1, none⟩) (.inl e2) _).setCell (p := ⟨g, 2, none⟩) (.inl e2) _ |>.below hc.1.size fun _ e => e), fun _ => ⟨g, e1, e2, fun e => ?_, fun _ => ((hz.set 0 _).set 1 _).set 2 _⟩⟩
        rw [Mix.one_set (by rw [hh.size]; decide)] at e
        exact absurd e (by decide)
      have hE : Erg 16 undef (((wq.setCell ⟨g, 0, none⟩ (.int .i64 r2)).setCell ⟨g, 1, none⟩ (.int .i64 c2)).setCell ⟨g, 2, none⟩ (.bool pd2)) := by rw [Hrge16.out]
      have hX : Xrg wq (((wq.setCell ⟨g, 0, none⟩ (.int .i64 r2)).setCell ⟨g, 1, none⟩ (.int .i64 c2)).setCell ⟨g, 2, none⟩ (.bool pd2)) := by rw [HrghX.out]; trivial
      rw [e1]
      clear hc e3 e4
      go_simp
      exact ⟨hF, hE, hX⟩
  intro xq wrg hcrg hvrg
  rw [HrghC.out] at hcrg
  simp only [hFrg]
  have vrg15 : Erg 15 (xq 15) wrg := hvrg 15 (by decide)
  rw [Hrge15.out] at vrg15
  clear hvrg hFrg Hrgk Hrgx Hrgst Hrgc HrghC HrghX Hrgb Hrgxb Hrge0 Hrge1 Hrge2 Hrge3 Hrge4 Hrge5 Hrge6 Hrge7 Hrge8 Hrge9 Hrge10 Hrge11 Hrge12 Hrge13 Hrge14 Hrge15 Hrge16
  obtain ⟨hb, h15⟩ := hcrg
  obtain ⟨g, e1, hg, _, h16⟩ := h15 (by kernel_rfl)
  have HC := Lib.hid (h16 (by kernel_rfl))
  have H3 := Lib.hid (H1.out.below hb)
  rw [e1]
  clear hb h15 h16 e1 hg HHO HHI H H1 vrg15
  have q0 := HC.out.cell 0 _ rfl
  have q1 := HC.out.cell 1 _ rfl
  have q2 := HC.out.cell 2 _ rfl
  obtain rfl | h13 : k = 13 ∨ k ≠ 13 := by omega
  · obtain ⟨e1, e2, e3, e4⟩ := HQ.out
    obtain ⟨t1, t2, t3, t4⟩ := ct_13 Ls r c r2 c2 pd
    have HE := Lib.hid (And.intro (e1.trans t1) (And.intro (e2.trans t2) (And.intro (e3.trans t3) (e4.trans t4))))
    clear e1 e2 e3 e4 t1 t2 t3 t4
    go_wp2_with fail
    refine (cret_any r2 c2 pd2 wrg).mono ?_
    rintro e w3 ⟨rfl, b3⟩
    have h3 := H3.out.below b3
    have p1 := h3.1.1.cell 1 _ rfl
    have p2 := h3.1.1.cell 2 _ rfl
    have p3 := h3.1.1.cell 3 _ rfl
    have f1 := h3.1.1.free 1
    have f2 := h3.1.1.free 2
    have f3 := h3.1.1.free 3
    have HF := Lib.hid (h3.turn r2 0 false).done
    clear h3 b3 q0 q1 q2
    go_wp2
    go_ret
    refine ⟨(ret_eq (by first | rfl | (simp <;> omega))), ?_⟩
    rw [HE.out.1, HE.out.2.1, HE.out.2.2.1, HE.out.2.2.2]
    exact HF.out
  obtain rfl | h10 : k = 10 ∨ k ≠ 10 := by omega
  · obtain ⟨e1, e2, e3, e4⟩ := HQ.out
    obtain ⟨t1, t2, t3, t4⟩ := ct_10 Ls r c r2 c2 pd
    have HE := Lib.hid (And.intro (e1.trans t1) (And.intro (e2.trans t2) (And.intro (e3.trans t3) (e4.trans t4))))
    clear e1 e2 e3 e4 t1 t2 t3 t4
    go_wp2_with fail
    refine (HNL.out _ H3.out.1).mono ?_
    rintro e w3 ⟨rfl, k3⟩
    obtain ⟨R5, h5⟩ := H3.out.go k3
    have HF := Lib.hid h5.done
    clear k3 h5 q0 q1 q2
    go_wp2
    go_ret
    refine ⟨(ret_eq (by first | rfl | (simp <;> omega))), ?_⟩
    rw [HE.out.1, HE.out.2.1, HE.out.2.2.1, HE.out.2.2.2]
    exact HF.out
  obtain rfl | h8 : k = 8 ∨ k ≠ 8 := by omega
  · obtain ⟨e1, e2, e3, e4⟩ := HQ.out
    obtain ⟨t1, t2, t3, t4⟩ := ct_8 Ls r c r2 c2 pd
    have HE := Lib.hid (And.intro (e1.trans t1) (And.intro (e2.trans t2) (And.intro (e3.trans t3) (e4.trans t4))))
    clear e1 e2 e3 e4 t1 t2 t3 t4
    go_wp2_with fail
    refine (cback_nat r2 c2 pd2 wrg HC2.out).mono ?_
    rintro e w3 ⟨rfl, b3⟩
    have h3 := H3.out.below b3
    have p1 := h3.1.1.cell 1 _ rfl
    have p2 := h3.1.1.cell 2 _ rfl
    have p3 := h3.1.1.cell 3 _ rfl
    have f1 := h3.1.1.free 1
    have f2 := h3.1.1.free 2
    have f3 := h3.1.1.free 3
    have HF := Lib.hid (h3.turn r2 ((c2 - 1 : Nat) : Int) false).done
    clear h3 b3 q0 q1 q2
    go_wp2
    go_ret
    refine ⟨(ret_eq (by first | rfl | (simp <;> omega))), ?_⟩
    rw [HE.out.1, HE.out.2.1, HE.out.2.2.1, HE.out.2.2.2]
    exact HF.out
  have n13 : (k == 13) = false := by rw [beq_eq_false_iff_ne]; exact h13
  have n10 : (k == 10) = false := by rw [beq_eq_false_iff_ne]; exact h10
  have n8 : (k == 8) = false := by rw [beq_eq_false_iff_ne]; exact h8
  obtain ⟨e1, e2, e3, e4⟩ := HQ.out
  obtain ⟨t1, t2, t3, t4⟩ := ct_no Ls r c r2 c2 pd k (by omega)
  have HE := Lib.hid (And.intro (e1.trans t1) (And.intro (e2.trans t2) (And.intro (e3.trans t3) (e4.trans t4))))
  clear e1 e2 e3 e4 t1 t2 t3 t4
  have HF := Lib.hid H3.out.done
  clear h13 h10 h8 q0 q1 q2
  go_wp2
  go_ret
  refine ⟨(ret_eq (by first | rfl | (simp <;> omega))), ?_⟩
  rw [HE.out.1, HE.out.2.1, HE.out.2.2.1, HE.out.2.2.2]
  exact HF.out
theorem sil_nums {k : Int} (h : silB k = false) : k ≠ 13 ∧ k ≠ 10 ∧ k ≠ 8 := by
  refine ⟨?_, ?_, ?_⟩ <;> rintro rfl <;> exact absurd h (by decide)
theorem ctdo_any {Yo : Zone} (B gp gg gr wd : Nat) (Rs : List Rw) (Ls : List Ln) (r c : Int) (pd au : Bool) (k : Int) (w : World) (h : PenY Yo w B gp gg gr wd Rs Ls r c pd au) (r2 c2 : Nat) (hr2 : inI r (sideI Ls.length) = (r2 : Int)) (hc2 : inI c (sideI wd) = (c2 : Int)) (hlr : r2 < Ls.length) (hlc : c2 < wd) :
    Calls Tryz.prog 148 #[.pointer (some ⟨gp, 0, none⟩), .int .i32 k] w (fun e w' => e = .returned (.bool (silB k)) ∧ PDoY Yo w B gp gg gr wd Rs (ctL Ls r2 k) (ctR Ls r r2 k) (ctC c c2 k) (ctP pd k) au w') := by
  by_cases hs : silB k = true
  · rw [hs]
    exact ctdo_yes B gp gg gr wd Rs Ls r c pd au k w h r2 c2 hr2 hc2 hlr hlc hs
  · have hs := Bool.eq_false_iff.2 hs
    obtain ⟨t1, t2, t3, t4⟩ := ct_no Ls r c r2 c2 pd k (sil_nums hs)
    rw [hs, t1, t2, t3, t4]
    refine (ctdo_no _ k w hs).mono ?_
    rintro e w1 ⟨rfl, b1⟩
    exact ⟨rfl, PDoY.below h b1⟩
end Go.Proofs.YtoeggiplcaegoaaGreatDoor
/- The reference's pen: NewLine, GoOn. -/
namespace Go.Proofs.YtoeggiplcaegoaaGreatDoor
open Go.RowKit Go.ChangeShapes Go.WideShapes
end Go.Proofs.YtoeggiplcaegoaaGreatDoor
/- The reference's pen: GoOn. -/
namespace Go.Proofs.YtoeggiplcaegoaaGreatDoor
open Go.RowKit Go.ChangeShapes Go.WideShapes
end Go.Proofs.YtoeggiplcaegoaaGreatDoor
