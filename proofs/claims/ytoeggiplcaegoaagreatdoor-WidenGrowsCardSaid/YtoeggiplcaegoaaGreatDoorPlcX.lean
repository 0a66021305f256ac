/- The reference's pen: Put. -/
import Derived.Test.YtoeggiplcaegoaaGreatDoorMg9
import Derived.Test.YtoeggiplcaegoaaGreatDoorCellP
import Derived.Test.YtoeggiplcaegoaaGreatDoorCursorE
import Derived.Test.YtoeggiplcaegoaaGreatDoorGrdR
import Derived.Deep.Cut
import Derived.Lib.MinMax
namespace Go.Proofs.YtoeggiplcaegoaaGreatDoor
open Go.RowKit Go.ChangeShapes Go.WideShapes
def ZN (Z : Zone) (w : World) : Zone := fun b => Z b ∨ w.heap.size + 3 ≤ b
/-- What the reference's Put knows on its way. -/
def RSt (Z : Zone) (w : World) (Ls : List Ln) (r c : Int) (pd au : Bool) (tv : Value) (ys : List Int) (wx : World) : Prop :=
  ∃ o k, Has wx w.heap.size [.slice o Ls.length k, .int .i64 r, .int .i64 c, .bool pd, .bool au] 43 ∧ Has wx (w.heap.size + 1) [.slice none 0 0, .int .i64 0, .int .i64 0, .bool false, .bool false] 43 ∧ Has wx (w.heap.size + 2) [.int .i64 0, .int .i64 0, .bool false] 24 ∧
    HeldE lineE (ZN Z w) wx (.slice o Ls.length k) Ls ∧ HeldE (intE .i32) (ZN Z w) wx tv ys ∧ Below w.heap.size w wx ∧ w.heap.size + 3 ≤ wx.heap.size
section
variable {Z : Zone} {w w1 w2 : World} {Ls L2 : List Ln} {r c r2 c2 : Int} {pd au pd2 au2 : Bool} {tv : Value} {ys : List Int}
theorem RSt.below (h : RSt Z w Ls r c pd au tv ys w1) (hb : Below w1.heap.size w1 w2) : RSt Z w Ls r c pd au tv ys w2 := by
  obtain ⟨o, k, h1, h2, h3, h4, h5, h6, h7⟩ := h
  exact ⟨o, k, h1.below hb h1.lt, h2.below hb h2.lt, h3.below hb h3.lt, h4.below hb, h5.below hb, h6.trans (hb.mono h6.size), Nat.le_trans h7 hb.size⟩
theorem RSt.text (h : RSt Z w Ls r c pd au tv ys w1) {u : Value} {zs : List Int} (hu : HeldE (intE .i32) (ZN Z w) w1 u zs) : RSt Z w Ls r c pd au u zs w1 := by
  obtain ⟨o, k, h1, h2, h3, h4, h5, h6, h7⟩ := h
  exact ⟨o, k, h1, h2, h3, h4, hu, h6, h7⟩
/-- The pen's box takes a pen. -/
theorem RSt.store (hZ : ∀ b, Z b → b < w.heap.size) (h : RSt Z w Ls r c pd au tv ys w1) {o : Option Addr} {n k : Nat} (hv : HeldE lineE (ZN Z w) w1 (.slice o n k) L2) : RSt Z w L2 r2 c2 pd2 au2 tv ys (((((w1.setCell ⟨w.heap.size, 0, none⟩ (.slice o n k)).setCell ⟨w.heap.size, 1, none⟩ (.int .i64 r2)).setCell ⟨w.heap.size, 2, none⟩ (.int .i64 c2)).setCell ⟨w.heap.size, 3, none⟩ (.bool pd2)).setCell ⟨w.heap.size, 4, none⟩ (.bool au2)) := by
  obtain ⟨o', k', h1, h2, h3, h4, h5, h6, h7⟩ := h
  obtain ⟨o9, k9, e9⟩ := hv.len
  simp only [Value.slice.injEq] at e9
  obtain ⟨rfl, rfl, rfl⟩ := e9
  have hu := pres_upd (W := w1) w.heap.size (.slice o L2.length k) (.int .i64 r2) (.int .i64 c2) (.bool pd2) (.bool au2)
  have hz : ∀ b, ZN Z w b → ¬ b = w.heap.size := fun b hb e => by rcases hb with hb | hb; have := hZ b hb; omega; omega
  exact ⟨o, k, pres_has h1 _ _ _ _ _, hu.keep.has h2 (fun e => by omega), hu.keep.has h3 (fun e => by omega), hv.upd hu hz, h5.upd hu hz, pres (g := w.heap.size) h6 (Nat.le_refl _) _ _ _ _ _, Nat.le_trans h7 hu.size⟩
/-- What a step of the pen gave, goes into the box. -/
theorem RSt.put (hZ : ∀ b, Z b → b < w.heap.size) (h : RSt Z w Ls r c pd au tv ys w1) (hb : Below w1.heap.size w1 w2) {o : Option Addr} {n k : Nat} (hv : HeldE lineE (fun b => (ZN Z w b ∧ b < w1.heap.size) ∨ (w1.heap.size ≤ b ∧ b < w2.heap.size)) w2 (.slice o n k) L2) : RSt Z w L2 r2 c2 pd2 au2 tv ys (((((w2.setCell ⟨w.heap.size, 0, none⟩ (.slice o n k)).setCell ⟨w.heap.size, 1, none⟩ (.int .i64 r2)).setCell ⟨w.heap.size, 2, none⟩ (.int .i64 c2)).setCell ⟨w.heap.size, 3, none⟩ (.bool pd2)).setCell ⟨w.heap.size, 4, none⟩ (.bool au2)) := by
  have h7 := h
  obtain ⟨_, _, _, _, _, _, _, _, h8⟩ := h7
  exact (h.below hb).store hZ (hv.zone fun b _ hz => by rcases hz with hz | hz; exact hz.1; exact .inr (by omega))
/-- The box's cursor alone. -/
theorem RSt.cur (hZ : ∀ b, Z b → b < w.heap.size) (h : RSt Z w Ls r c pd au tv ys w1) (r2 c2 : Int) (pd2 : Bool) : RSt Z w Ls r2 c2 pd2 au tv ys (((w1.setCell ⟨w.heap.size, 1, none⟩ (.int .i64 r2)).setCell ⟨w.heap.size, 2, none⟩ (.int .i64 c2)).setCell ⟨w.heap.size, 3, none⟩ (.bool pd2)) := by
  obtain ⟨o, k, h1, h2, h3, h4, h5, h6, h7⟩ := h
  obtain ⟨W', hW, g1, g2, g3, hu⟩ := pturn h1 h2 h6 (Nat.le_refl _) (.int .i64 r2) (.int .i64 c2) (.bool pd2)
  rw [← hW]
  have hz : ∀ b, ZN Z w b → ¬ b = w.heap.size := fun b hb e => by rcases hb with hb | hb; have := hZ b hb; omega; omega
  exact ⟨o, k, g1, g2, hu.keep.has h3 (fun e => by omega), h4.upd hu hz, h5.upd hu hz, g3, Nat.le_trans h7 hu.size⟩
/-- The box's column alone. -/
theorem RSt.col (hZ : ∀ b, Z b → b < w.heap.size) (h : RSt Z w Ls r c pd au tv ys w1) (c2 : Int) : RSt Z w Ls r c2 pd au tv ys (w1.setCell ⟨w.heap.size, 2, none⟩ (.int .i64 c2)) := by
  obtain ⟨o, k, h1, h2, h3, h4, h5, h6, h7⟩ := h
  have hu := (Upd.refl (fun x => x = w.heap.size) w1).setCell (p := ⟨w.heap.size, 2, none⟩) (.inl rfl) (.int .i64 c2)
  have hz : ∀ b, ZN Z w b → ¬ b = w.heap.size := fun b hb e => by rcases hb with hb | hb; have := hZ b hb; omega; omega
  exact ⟨o, k, h1.set 2 _, hu.keep.has h2 (fun e => by omega), hu.keep.has h3 (fun e => by omega), h4.upd hu hz, h5.upd hu hz, h6.trans (((Upd.refl (fun b => w.heap.size ≤ b) w1).setCell (p := ⟨w.heap.size, 2, none⟩) (.inl (Nat.le_refl _)) _).below h6.size fun _ e => e), Nat.le_trans h7 hu.size⟩
end
theorem qboxes (w : World) (a0 a1 a2 a3 a4 : Value) : ∃ W, W = ((w.alloc (.cells #[a0, a1, a2, a3, a4] 43)).alloc (.cells #[Value.slice none 0 0, .int .i64 0, .int .i64 0, .bool false, .bool false] 43)).alloc (.cells #[Value.int .i64 0, .int .i64 0, .bool false] 24) ∧
    Has W w.heap.size [a0, a1, a2, a3, a4] 43 ∧ Has W (w.heap.size + 1) [Value.slice none 0 0, .int .i64 0, .int .i64 0, .bool false, .bool false] 43 ∧ Has W (w.heap.size + 2) [Value.int .i64 0, .int .i64 0, .bool false] 24 ∧ Below w.heap.size w W ∧ W.heap.size = w.heap.size + 3 := by
  refine ⟨_, rfl, ((Has.new w _ _).alloc _).alloc _, ?_, ?_, (((Below.refl _ _).alloc (Nat.le_refl _) _).alloc (by simp) _).alloc (by simp <;> omega) _, by simp⟩
  · have := Has.new (w.alloc (.cells #[a0, a1, a2, a3, a4] 43)) [Value.slice none 0 0, .int .i64 0, .int .i64 0, .bool false, .bool false] 43
    exact Has.alloc (by simpa using this) _
  · have := Has.new ((w.alloc (.cells #[a0, a1, a2, a3, a4] 43)).alloc (.cells #[Value.slice none 0 0, .int .i64 0, .int .i64 0, .bool false, .bool false] 43)) [Value.int .i64 0, .int .i64 0, .bool false] 24
    simpa using this
set_option maxRecDepth 100000 in
set_option maxHeartbeats 3000000 in
theorem rpput_any (Z : Zone) (v : Value) (Ls : List Ln) (r c : Int) (pd au : Bool) (n : Int) (tv : Value) (xs : List Int) (w : World) (wd : Nat) (hv : HeldE lineE Z w v Ls) (ht : HeldE (intE .i32) Z w tv xs) (hZ : ∀ b, Z b → b < w.heap.size) (hev : Even Ls wd) (r2 c2 : Nat) (pd2 : Bool) (hr2 : inI r (sideI Ls.length) = (r2 : Int)) (hc2 : inI c (sideI wd) = (c2 : Int)) (hpd : holdP c pd wd = pd2) (hlr : r2 < Ls.length) (hlc : c2 < wd) :
    Calls Tryz.prog 77 #[.agg #[v, .int .i64 r, .int .i64 c, .bool pd, .bool au], .int .i64 n, tv] w (fun e w' => ∃ v', e = .returned (.tuple #[.agg #[v', .int .i64 (plcR Ls wd r2 c2 pd2 au n : Nat), .int .i64 (aftC (plcC wd c2 pd2 au n : Nat) (plcK wd n) wd), .bool (aftP (plcC wd c2 pd2 au n : Nat) (plcK wd n) wd au), .bool au], .agg #[.int .i64 (plcR Ls wd r2 c2 pd2 au n : Nat), .int .i64 (plcC wd c2 pd2 au n : Nat), .bool false]]) ∧
      HeldE lineE (fun b => Z b ∨ (w.heap.size ≤ b ∧ b < w'.heap.size)) w' v' (plcL Ls wd r2 c2 pd2 au n xs) ∧ Below w.heap.size w w') := by
  obtain ⟨ao, ca, rfl⟩ := hv.len
  obtain ⟨ta, tc, rfl⟩ := ht.len
  obtain ⟨W, hW, hb, hr, hq, hl0, hs⟩ := qboxes w (.slice ao Ls.length ca) (.int .i64 r) (.int .i64 c) (.bool pd) (.bool au)
  have h0 : RSt Z w Ls r c pd au (.slice ta xs.length tc) xs W := ⟨ao, ca, hb, hr, hq, (hv.below hl0).zone fun b _ hz => .inl hz, (ht.below hl0).zone fun b _ hz => .inl hz, hl0, by omega⟩
  have HH := Lib.hid (rph_any (ZN Z w) (.slice ao Ls.length ca) Ls r c pd au W ((hv.below hl0).zone fun b _ hz => .inl hz) hev.1 wd (hev.2.2.2.2 0 hev.1))
  rw [hr2, hc2, hpd] at HH
  have HB := Lib.hid hb
  have HV := Lib.hid ((hv.below hl0).zone (Y := ZN Z w) fun b _ hz => .inl hz)
  have H0 := Lib.hid h0
  have HZ := Lib.hid hZ
  have HEV := Lib.hid hev
  have HLR := Lib.hid hlr
  have HLC := Lib.hid hlc
  have hwd : 0 < wd ∧ wd ≤ 1024 := ⟨hev.2.2.1, hev.2.2.2.1⟩
  obtain ⟨n0, hn⟩ : ∃ n0, n0 = Ls.length := ⟨_, rfl⟩
  have HN := Lib.hid hn
  obtain ⟨xn, hxn⟩ : ∃ xn, xn = xs.length := ⟨_, rfl⟩
  rw [← hxn] at H0 ⊢
  rw [← hn] at hW hb HB HH HV ⊢
  have c0 := hb.cell 0 _ rfl
  have c1 := hb.cell 1 _ rfl
  have c2' := hb.cell 2 _ rfl
  have c3 := hb.cell 3 _ rfl
  have c4 := hb.cell 4 _ rfl
  clear hv ht hZ hev hr2 hc2 hpd hb hr hq hl0 hs h0 hn hxn hlr hlc
  go_enter Tryz.func77, Tryz.ntmps77
  go_upto_region 1 with (fail)
  rw [← hW]
  clear hW
  go_wp2_with fail
  refine HH.out.mono ?_
  rintro e w1 ⟨rfl, b1⟩
  clear c0 c1 c2' c3 c4
  have h2 := RSt.put (r2 := r2) (c2 := c2) (pd2 := pd2) (au2 := au) HZ.out H0.out b1 ((HV.out.below b1).zone fun b hb hz => by
    by_cases hlt : b < W.heap.size
    · exact .inl ⟨hz, hlt⟩
    · exact .inr ⟨by omega, hb⟩)
  have hb1 := HB.out.below b1 HB.out.lt
  have f0 := hb1.free 0
  have f1 := hb1.free 1
  have f2 := hb1.free 2
  have f3 := hb1.free 3
  have f4 := hb1.free 4
  have c0 := hb1.cell 0 _ rfl
  have c1 := hb1.cell 1 _ rfl
  have c2' := hb1.cell 2 _ rfl
  have c3 := hb1.cell 3 _ rfl
  have c4 := hb1.cell 4 _ rfl
  have HW2 := Lib.hid h2
  clear h2 b1 hb1 HB HH HV H0
  go_upto_region 2 with (fail)
  obtain ⟨W2, hW2⟩ : ∃ W2, W2 = (((((w1.setCell ⟨w.heap.size, 0, none⟩ (.slice ao n0 ca)).setCell ⟨w.heap.size, 1, none⟩ (.int .i64 r2)).setCell ⟨w.heap.size, 2, none⟩ (.int .i64 c2)).setCell ⟨w.heap.size, 3, none⟩ (.bool pd2)).setCell ⟨w.heap.size, 4, none⟩ (.bool au)) := ⟨_, rfl⟩
  rw [← hW2] at HW2 ⊢
  clear hW2 c0 c1 c2' c3 c4 f0 f1 f2 f3 f4
  obtain ⟨o, k, h1, _, _, h4, _⟩ := HW2.out
  have hwi := rpw_any (ZN Z w) (.slice o Ls.length k) Ls r2 c2 pd2 au W2 h4 HEV.out.1
  rw [HEV.out.2.2.2.2 0 HEV.out.1] at hwi
  have c0 := h1.cell 0 _ rfl
  have c1 := h1.cell 1 _ rfl
  have c2' := h1.cell 2 _ rfl
  have c3 := h1.cell 3 _ rfl
  have c4 := h1.cell 4 _ rfl
  clear h1 h4
  go_upto_region 3 with (fail)
  obtain ⟨k0, hk0⟩ : ∃ k0, max 1 (min n 2) = k0 := ⟨_, rfl⟩
  rw [hk0]
  go_wp2_with fail
  refine hwi.mono ?_
  rintro e w3 ⟨rfl, b3⟩
  have H3 := Lib.hid (HW2.out.below b3)
  clear c0 c1 c2' c3 c4 hwi b3 HW2
  go_upto_if 19 with (fail)
  obtain ⟨q, hq⟩ : ∃ q : Bool, q = decide ((wd : Int) < k0) := ⟨_, rfl⟩
  rw [← hq]
  go_cut [1, 2] from 20 to 20 (fun kv xv wx => kv = .int .i64 (plcK wd n) ∧ RSt Z w Ls r2 c2 pd2 au xv (plcX wd n xs) wx)
  case first =>
    cases q with
    | true =>
      have hq2 : (wd : Int) < k0 := by have := hq.symm; rwa [decide_eq_true_eq] at this
      have HPK := Lib.hid (show plcK wd n = 1 from by unfold plcK; rw [hk0]; exact if_pos hq2)
      have HPX := Lib.hid (show plcX wd n xs = [65533] from by unfold plcX; rw [hk0]; exact if_pos hq2)
      clear hk0 hq hq2
      have hb := (Below.refl w3.heap.size w3).alloc (Nat.le_refl _) (.cells [Value.int .i32 65533].toArray 21)
      have htx := heldE_one (w := w3) (ty := 21) (E := intE .i32) (Y := fun _ => False) (Z := ZN Z w) [.int .i32 65533] 65533 rfl (fun _ _ h => h.elim) (.inr (by obtain ⟨_, _, _, _, _, _, _, _, h8⟩ := H3.out; exact h8))
      have HF := Lib.hid ((H3.out.below hb).text htx)
      clear hb htx
      go_wp2
      go_meet
      case rel => exact ⟨by rw [HPK.out], by rw [HPX.out]; exact HF.out⟩
    | false =>
      have hq2 : ¬ (wd : Int) < k0 := by have := hq.symm; rwa [decide_eq_false_iff_not] at this
      have HPK := Lib.hid (show plcK wd n = k0 from by unfold plcK; rw [hk0]; exact if_neg hq2)
      have HPX := Lib.hid (show plcX wd n xs = xs from by unfold plcX; rw [hk0]; exact if_neg hq2)
      clear hk0 hq hq2
      go_wp2
      go_meet
      case rel => exact ⟨by rw [HPK.out], by rw [HPX.out]; exact H3.out⟩
  case rest =>
    obtain ⟨rfl, hst⟩ := hcut
    obtain ⟨w4, hwq⟩ : ∃ w4, w4 = wc := ⟨_, rfl⟩
    subst hwq
    have HPC := Lib.hid (plcK_cases wd n)
    obtain ⟨kk, hk⟩ : ∃ kk, kk = plcK wd n := ⟨_, rfl⟩
    obtain ⟨ys, hys⟩ : ∃ ys, ys = plcX wd n xs := ⟨_, rfl⟩
    have HFIN := Lib.hid (show plcL Ls wd r2 c2 pd2 au n xs = pntL (p2L wd kk (p1L Ls r2 pd2) (p1R Ls r2 pd2) (p1C c2 pd2) au) (p2R wd kk (p1L Ls r2 pd2) (p1R Ls r2 pd2) (p1C c2 pd2) au) (p2C wd kk (p1C c2 pd2) au) (ofC kk ys) ∧ plcR Ls wd r2 c2 pd2 au n = p2R wd kk (p1L Ls r2 pd2) (p1R Ls r2 pd2) (p1C c2 pd2) au ∧ plcC wd c2 pd2 au n = p2C wd kk (p1C c2 pd2) au from by rw [hk, hys]; exact ⟨rfl, rfl, rfl⟩)
    rw [← hk] at HPC
    rw [← hys] at hst
    have HKE := Lib.hid hk
    rw [← hk]
    have HS := Lib.hid hst
    obtain ⟨o4, k4, g4, _, _, v4, _⟩ := hst
    have c3 := g4.cell 3 _ rfl
    have G4 := Lib.hid g4
    have V4 := Lib.hid v4
    clear hk hys hk0 hq H3 g4 v4
    go_upto_if 23 with (fail)
    go_cut [] from 24 to 25 (fun wx => RSt Z w (p1L Ls r2 pd2) (p1R Ls r2 pd2 : Nat) (p1C c2 pd2 : Nat) false au u2 ys wx)
    case first =>
      cases pd2 with
      | false =>
        go_wp2
        go_meet
        case rel => exact HS.out
      | true =>
        have hd := rpgo_any (fun b => ZN Z w b ∧ b < w4.heap.size) (.slice o4 Ls.length k4) Ls r2 c2 true au w4 wd (V4.out.zone fun b hb hz => ⟨hz, hb⟩) (fun b hb => hb.2) HEV.out HLR.out
        have g4 := G4.out
        have c0 := g4.cell 0 _ rfl
        have c1 := g4.cell 1 _ rfl
        have c2' := g4.cell 2 _ rfl
        have c3 := g4.cell 3 _ rfl
        have c4 := g4.cell 4 _ rfl
        clear g4
        go_wp2_with fail
        refine hd.mono ?_
        rintro e w5 ⟨v5, rfl, h5, b5⟩
        obtain ⟨o5, k5, ev5⟩ := h5.len
        subst ev5
        have g5 := G4.out.below b5 G4.out.lt
        have f0 := g5.free 0
        have f1 := g5.free 1
        have f2 := g5.free 2
        have f3 := g5.free 3
        have f4 := g5.free 4
        have HF := Lib.hid (RSt.put (r2 := (downR Ls r2 : Nat)) (c2 := 0) (pd2 := false) (au2 := au) HZ.out HS.out b5 h5)
        clear hd h5 b5 c0 c1 c2' c3 c4
        have c0 := g5.cell 0 _ rfl
        have c1 := g5.cell 1 _ rfl
        have c2' := g5.cell 2 _ rfl
        have c3 := g5.cell 3 _ rfl
        have c4 := g5.cell 4 _ rfl
        clear g5
        go_wp2
        go_meet
        case rel => exact HF.out
    case rest =>
      obtain ⟨w5, hwq⟩ : ∃ w5, w5 = wc := ⟨_, rfl⟩
      subst hwq
      have h1l := p1_lt pd2 HLR.out
      have h1c : p1C c2 pd2 < wd := by have := HLC.out; unfold p1C; split <;> omega
      have h1e := p1_even HEV.out pd2 HLR.out
      obtain ⟨L1, hL1⟩ : ∃ L1, L1 = p1L Ls r2 pd2 := ⟨_, rfl⟩
      obtain ⟨r1, hr1⟩ : ∃ r1, r1 = p1R Ls r2 pd2 := ⟨_, rfl⟩
      obtain ⟨c1, hc1⟩ : ∃ c1, c1 = p1C c2 pd2 := ⟨_, rfl⟩
      rw [← hL1, ← hr1, ← hc1] at hcut HFIN
      rw [← hr1, ← hL1] at h1l
      rw [← hc1] at h1c
      rw [← hL1] at h1e
      have H5 := Lib.hid hcut
      have HLL := Lib.hid h1l.1
      have HCC := Lib.hid h1c
      have HE1 := Lib.hid h1e
      obtain ⟨o5, k5, g5, _, _, v5, _⟩ := hcut
      have e2 := g5.cell 2 _ rfl
      have G5 := Lib.hid g5
      have V5 := Lib.hid v5
      have hws : IntKind.i64.wrap ((wd : Int) - 1) = (wd : Int) - 1 := by rw [IntKind.wrap_i64]; omega
      clear h1l h1c h1e hL1 hr1 hc1 c3 g5 v5 G4 V4 HS
      go_upto_region 9 with (fail)
      obtain ⟨q2, hq2⟩ : ∃ q2 : Bool, q2 = ((kk == 2) && ((c1 : Int) == (wd : Int) - 1)) := ⟨_, rfl⟩
      go_cut [35] from 26 to 35 (fun tv wx => tv = .bool q2 ∧ wx = w5)
      case first =>
        rcases HPC.out with h1 | ⟨h2, _⟩
        · have hd : (kk == 2) = false := by rw [h1]; rfl
          rw [hd, Bool.false_and] at hq2
          subst hq2
          clear h1
          go_wp2
          go_meet
          case rel => exact ⟨rfl, rfl⟩
        · have hd : (kk == 2) = true := by rw [h2]; rfl
          rw [hd, Bool.true_and] at hq2
          clear h2
          go_wp2
          go_meet
          case rel => exact ⟨by rw [hq2], rfl⟩
      case rest =>
      obtain ⟨rfl, hwq⟩ := hcut
      subst hwq
      go_upto_if 35 with (fail)
      obtain ⟨w5, hwq⟩ : ∃ w5, w5 = wc := ⟨_, rfl⟩
      subst hwq
      have HS5 := Lib.hid (show w.heap.size + 3 ≤ w5.heap.size from by obtain ⟨_, _, _, _, _, _, _, _, h8⟩ := H5.out; exact h8)
      obtain ⟨i0, hi, hz0, hz1, hz2⟩ := info_parts info_cell
      have HI := Lib.hid (And.intro hi (And.intro hz0 (And.intro hz1 hz2)))
      clear hi hz0 hz1 hz2
      go_cut [] from 36 to 50 (fun wx => RSt Z w (p2L wd kk L1 r1 c1 au) (p2R wd kk L1 r1 c1 au : Nat) (p2C wd kk c1 au : Nat) false au u2 ys wx)
      case first =>
        cases q2 with
        | false =>
          have hnn : ¬ (kk = 2 ∧ c1 + 1 = wd) := by
            rintro ⟨e1, e2⟩
            rw [e1, show (c1 : Int) = (wd : Int) - 1 from by omega] at hq2
            simp at hq2
          have HE := Lib.hid (show p2L wd kk L1 r1 c1 au = L1 ∧ p2R wd kk L1 r1 c1 au = r1 ∧ p2C wd kk c1 au = c1 from ⟨if_neg hnn, if_neg hnn, if_neg hnn⟩)
          clear hq2 hnn
          go_wp2
          go_meet
          case rel => rw [HE.out.1, HE.out.2.1, HE.out.2.2]; exact H5.out
        | true =>
          have hq3 := hq2.symm
          rw [Bool.and_eq_true, beq_iff_eq, beq_iff_eq] at hq3
          have hpp : kk = 2 ∧ c1 + 1 = wd := ⟨hq3.1, by omega⟩
          have hk2 : 2 ≤ wd := by rcases HPC.out with h | h <;> omega
          have e4 := G5.out.cell 4 _ rfl
          cases au with
          | true =>
            have HE := Lib.hid (show p2L wd kk L1 r1 c1 true = goL (pntL L1 r1 c1 [zc]) r1 ∧ p2R wd kk L1 r1 c1 true = downR L1 r1 ∧ p2C wd kk c1 true = 0 from by unfold p2L p2R p2C; rw [if_pos hpp, if_pos hpp, if_pos hpp]; exact ⟨rfl, rfl, rfl⟩)
            have hwc : IntKind.i64.wrap ((wd : Int) - 1) = (c1 : Int) := by rw [IntKind.wrap_i64]; omega
            clear hq2 hq3 hpp hk2 hws e2
            go_upto_region 11 with (fail)
            clear e4
            obtain ⟨Erg, hErg⟩ : ∃ EE : Nat → Value → World → Prop, EE = fun jj xx ww => match jj with
                | 0 => xx = .agg #[.slice o5 L1.length k5, .int .i64 r1, .int .i64 c1, .bool false, .bool true]
                | 1 => xx = .pointer (some ⟨w.heap.size, 1, none⟩)
                | 2 => xx = .pointer (some ⟨w.heap.size, 1, none⟩)
                | 3 => xx = .int .i64 r1
                | 4 => xx = .int .i64 wd
                | 5 => xx = .int .i64 c1
                | 6 => (fun x w' => HeldE cellE (ZN Z w) w' x [zc]) xx ww
                | 7 => (fun x w' => ∃ o9 k9, x = .agg #[.slice o9 L1.length k9, .int .i64 r1, .int .i64 c1, .bool false, .bool true] ∧ HeldE lineE (ZN Z w) w' (.slice o9 L1.length k9) (pntL L1 r1 c1 [zc])) xx ww
                | 8 => (fun x w' => ∃ o9 k9, x = .agg #[.slice o9 L1.length k9, .int .i64 (downR L1 r1 : Nat), .int .i64 0, .bool false, .bool true] ∧ HeldE lineE (ZN Z w) w' (.slice o9 L1.length k9) (goL (pntL L1 r1 c1 [zc]) r1)) xx ww
                | 9 => xx = undef
                | _ => True := ⟨_, rfl⟩
            have erg0 : ∀ xx ww, Erg 0 xx ww = (xx = .agg #[.slice o5 L1.length k5, .int .i64 r1, .int .i64 c1, .bool false, .bool true]) := fun xx ww => congrFun (congrFun (congrFun hErg 0) xx) ww
            have erg1 : ∀ xx ww, Erg 1 xx ww = (xx = .pointer (some ⟨w.heap.size, 1, none⟩)) := fun xx ww => congrFun (congrFun (congrFun hErg 1) xx) ww
            have erg2 : ∀ xx ww, Erg 2 xx ww = (xx = .pointer (some ⟨w.heap.size, 1, none⟩)) := fun xx ww => congrFun (congrFun (congrFun hErg 2) xx) ww
            have erg3 : ∀ xx ww, Erg 3 xx ww = (xx = .int .i64 r1) := fun xx ww => congrFun (congrFun (congrFun hErg 3) xx) ww
            have erg4 : ∀ xx ww, Erg 4 xx ww = (xx = .int .i64 wd) := fun xx ww => congrFun (congrFun (congrFun hErg 4) xx) ww
            have erg5 : ∀ xx ww, Erg 5 xx ww = (xx = .int .i64 c1) := fun xx ww => congrFun (congrFun (congrFun hErg 5) xx) ww
            have erg6 : ∀ xx ww, Erg 6 xx ww = ((fun x w' => HeldE cellE (ZN Z w) w' x [zc]) xx ww) := fun xx ww => congrFun (congrFun (congrFun hErg 6) xx) ww
            have erg7 : ∀ xx ww, Erg 7 xx ww = ((fun x w' => ∃ o9 k9, x = .agg #[.slice o9 L1.length k9, .int .i64 r1, .int .i64 c1, .bool false, .bool true] ∧ HeldE lineE (ZN Z w) w' (.slice o9 L1.length k9) (pntL L1 r1 c1 [zc])) xx ww) := fun xx ww => congrFun (congrFun (congrFun hErg 7) xx) ww
            have erg8 : ∀ xx ww, Erg 8 xx ww = ((fun x w' => ∃ o9 k9, x = .agg #[.slice o9 L1.length k9, .int .i64 (downR L1 r1 : Nat), .int .i64 0, .bool false, .bool true] ∧ HeldE lineE (ZN Z w) w' (.slice o9 L1.length k9) (goL (pntL L1 r1 c1 [zc]) r1)) xx ww) := fun xx ww => congrFun (congrFun (congrFun hErg 8) xx) ww
            have erg9 : ∀ xx ww, Erg 9 xx ww = (xx = undef) := fun xx ww => congrFun (congrFun (congrFun hErg 9) xx) ww
            obtain ⟨Crg, hCrg⟩ : ∃ CC : Array Bool → World → Prop, CC = fun L8 w' => (Mix.one L8 9 = 0 → Below w5.heap.size w5 w') ∧ (Mix.one L8 9 = 1 → RSt Z w (goL (pntL L1 r1 c1 [zc]) r1) (downR L1 r1 : Nat) 0 false true u2 ys w') := ⟨_, rfl⟩
            have krg : ∀ i L w, i ≠ 9 →  Crg L w → Crg (L.setIfInBounds i true) w := by
              intro i L w q9 h
              rw [hCrg] at h ⊢
              simp only [Mix.one_ne q9]; exact h
            obtain ⟨Xrg, hXrg⟩ : ∃ XX : World → World → Prop, XX = fun x y => Upd (fun b => b = w.heap.size) x y := ⟨_, rfl⟩
            have xrg : ∀ w, Xrg w w := fun w => by rw [hXrg]; exact Upd.refl _ _
            have strg : ∀ j x w w1, Xrg w w1 → Erg j x w → Erg j x w1 := by
              intro j x w w1 hx h
              rw [hXrg] at hx
              match j with
              | 0 => rw [erg0] at h ⊢; exact h
              | 1 => rw [erg1] at h ⊢; exact h
              | 2 => rw [erg2] at h ⊢; exact h
              | 3 => rw [erg3] at h ⊢; exact h
              | 4 => rw [erg4] at h ⊢; exact h
              | 5 => rw [erg5] at h ⊢; exact h
              | 6 => rw [erg6] at h ⊢; (first | exact HeldE.upd h hx (fun b hb e => by rcases hb with hb | hb; have := HZ.out b hb; omega; omega) | (obtain ⟨o9, k9, e9, h9⟩ := h; exact ⟨o9, k9, e9, HeldE.upd h9 hx (fun b hb e => by rcases hb with hb | hb; have := HZ.out b hb; omega; omega)⟩))
              | 7 => rw [erg7] at h ⊢; (first | exact HeldE.upd h hx (fun b hb e => by rcases hb with hb | hb; have := HZ.out b hb; omega; omega) | (obtain ⟨o9, k9, e9, h9⟩ := h; exact ⟨o9, k9, e9, HeldE.upd h9 hx (fun b hb e => by rcases hb with hb | hb; have := HZ.out b hb; omega; omega)⟩))
              | 8 => rw [erg8] at h ⊢; (first | exact HeldE.upd h hx (fun b hb e => by rcases hb with hb | hb; have := HZ.out b hb; omega; omega) | (obtain ⟨o9, k9, e9, h9⟩ := h; exact ⟨o9, k9, e9, HeldE.upd h9 hx (fun b hb e => by rcases hb with hb | hb; have := HZ.out b hb; omega; omega)⟩))
              | 9 => rw [erg9] at h ⊢; exact h
              | j + 10 => rw [hErg]; trivial
            have crg : Crg (Array.replicate 10 false) w5.drew := by rw [hCrg]; exact ⟨fun _ => (Below.refl _ _).drew, fun e => absurd e (by decide)⟩
            have brg : ∀ L w w1, Crg L w → Below w.heap.size w w1 → Crg L w1 := by
              intro L w w1 h hb
              rw [hCrg] at h ⊢
              (obtain ⟨q1, q2⟩ := h; exact ⟨fun e => (q1 e).trans (hb.mono (q1 e).size), fun e => (q2 e).below hb⟩)
            have xbrg : ∀ w w1, Below w.heap.size w w1 → Xrg w w1 := by
              intro w w1 hb
              rw [hXrg]
              exact Upd.ofBelow hb
            have Hrgb := Lib.hid brg
            have Hrgxb := Lib.hid xbrg
            clear brg xbrg
            clear hErg
            have Hrgk := Lib.hid krg
            have Hrgx := Lib.hid xrg
            have Hrgst := Lib.hid strg
            have Hrgc := Lib.hid crg
            have HrghC := Lib.hid hCrg
            have HrghX := Lib.hid hXrg
            have Hrge0 := Lib.hid erg0
            have Hrge1 := Lib.hid erg1
            have Hrge2 := Lib.hid erg2
            have Hrge3 := Lib.hid erg3
            have Hrge4 := Lib.hid erg4
            have Hrge5 := Lib.hid erg5
            have Hrge6 := Lib.hid erg6
            have Hrge7 := Lib.hid erg7
            have Hrge8 := Lib.hid erg8
            have Hrge9 := Lib.hid erg9
            clear krg xrg strg crg hCrg hXrg erg0 erg1 erg2 erg3 erg4 erg5 erg6 erg7 erg8 erg9
            go_wp2_with fail
            refine Reg.regionF Erg Crg Xrg Hrgst.out (by kernel_rfl) (by kernel_rfl) (by kernel_rfl) Hrgc.out (fun Frg hFrg => ?_)
            simp only [Reg.frame, Reg.dsts, List.map_cons, List.map_nil, Mix.put_lit, Reg.put_none, List.set_cons_succ, List.set_cons_zero, Nat.zero_add, Nat.reduceAdd] at hFrg
            refine ⟨?_, ?_⟩
            · refine ⟨?_, ?_, ?_, ?_, ?_, ?_, ?_, ?_, ?_, ?_, trivial⟩
              · intro Lq wq xq hh
                simp only [hFrg]
                refine .inl ⟨rfl, ?_⟩
                unfold Reg.upon
                have hc : Crg Lq wq := hh.cls
                rw [HrghC.out] at hc
                have g9 := G5.out.below (hc.1 (Mix.one_un (hh.notYet 9 (by kernel_rfl)))) G5.out.lt
                have q0 := g9.cell 0 _ rfl
                have q1 := g9.cell 1 _ rfl
                have q2' := g9.cell 2 _ rfl
                have q3 := g9.cell 3 _ rfl
                have q4 := g9.cell 4 _ rfl
                clear hc
                have hk := Hrgk.out 0 Lq wq (by decide)  hh.cls
                have hx := Hrgx.out wq
                have he : Erg 0 (.agg #[.slice o5 L1.length k5, .int .i64 r1, .int .i64 c1, .bool false, .bool true]) wq := by rw [Hrge0.out]
                have HK := Lib.hid (And.intro hk (And.intro he hx))
                clear hk hx he
                go_simp
                exact HK.out
              · intro Lq wq xq hh
                simp only [hFrg]
                refine .inl ⟨rfl, ?_⟩
                unfold Reg.upon
                have hk := Hrgk.out 1 Lq wq (by decide)  hh.cls
                have hx := Hrgx.out wq
                have he : Erg 1 (.pointer (some ⟨w.heap.size, 1, none⟩)) wq := by rw [Hrge1.out]
                have HK := Lib.hid (And.intro hk (And.intro he hx))
                clear hk hx he
                go_simp
                exact HK.out
              · intro Lq wq xq hh
                have d1 : Erg 1 (xq 1) wq := hh.val 1 (by kernel_rfl) (by kernel_rfl)
                rw [Hrge1.out] at d1
                simp only [hFrg, d1]
                clear d1
                refine .inl ⟨rfl, ?_⟩
                unfold Reg.upon
                have hk := Hrgk.out 2 Lq wq (by decide)  hh.cls
                have hx := Hrgx.out wq
                have he : Erg 2 (.pointer (some ⟨w.heap.size, 1, none⟩)) wq := by rw [Hrge2.out]
                have HK := Lib.hid (And.intro hk (And.intro he hx))
                clear hk hx he
                go_simp
                exact HK.out
              · intro Lq wq xq hh
                have d2 : Erg 2 (xq 2) wq := hh.val 2 (by kernel_rfl) (by kernel_rfl)
                rw [Hrge2.out] at d2
                simp only [hFrg, d2]
                clear d2
                refine .inl ⟨rfl, ?_⟩
                unfold Reg.upon
                have hc : Crg Lq wq := hh.cls
                rw [HrghC.out] at hc
                have g9 := G5.out.below (hc.1 (Mix.one_un (hh.notYet 9 (by kernel_rfl)))) G5.out.lt
                have q1 := g9.cell 1 _ rfl
                clear hc
                have hk := Hrgk.out 3 Lq wq (by decide)  hh.cls
                have hx := Hrgx.out wq
                have he : Erg 3 (.int .i64 r1) wq := by rw [Hrge3.out]
                have HK := Lib.hid (And.intro hk (And.intro he hx))
                clear hk hx he
                go_simp
                exact HK.out
              · intro Lq wq xq hh
                simp only [hFrg]
                refine .inl ⟨rfl, ?_⟩
                unfold Reg.upon
                have hk := Hrgk.out 4 Lq wq (by decide)  hh.cls
                have hx := Hrgx.out wq
                have he : Erg 4 (.int .i64 wd) wq := by rw [Hrge4.out]
                have HK := Lib.hid (And.intro hk (And.intro he hx))
                clear hk hx he
                go_simp
                exact HK.out
              · intro Lq wq xq hh
                have d4 : Erg 4 (xq 4) wq := hh.val 4 (by kernel_rfl) (by kernel_rfl)
                rw [Hrge4.out] at d4
                simp only [hFrg, d4]
                clear d4
                refine .inl ⟨rfl, ?_⟩
                unfold Reg.upon
                have hk := Hrgk.out 5 Lq wq (by decide)  hh.cls
                have hx := Hrgx.out wq
                have he : Erg 5 (.int .i64 c1) wq := by rw [Hrge5.out]
                have HK := Lib.hid (And.intro hk (And.intro he hx))
                clear hk hx he
                go_simp
                exact HK.out
              · intro Lq wq xq hh
                simp only [hFrg]
                refine .inl ⟨rfl, ?_⟩
                unfold Reg.upon
                have hc0 : Crg Lq wq := hh.cls
                rw [HrghC.out] at hc0
                have hu0 := hc0.1 (Mix.one_un (hh.notYet 9 (by kernel_rfl)))
                obtain ⟨w9, hrun, n1, n2⟩ := run_make_full (P := Tryz.prog) wq wq.heap.size 102 147 i0 (.agg #[.int .i64 0, .slice none 0 0]) 2 Tryz.underlying102 HI.out.1 HI.out.2.1 HI.out.2.2.1 .i64 .i64 1 (by rw [HI.out.2.2.2]; omega) (by unfold maxLen; omega) (Nat.le_refl _)
                rw [show ((1 : Nat) : Int) = 1 from rfl] at hrun
                go_simp
                have hb9 : Below wq.heap.size wq w9 := (Below.refl _ _).grown n2 (Nat.le_refl _) (by intro k hk; cases hk)
                refine ⟨Hrgk.out 6 Lq w9 (by decide) (Hrgb.out Lq wq w9 hh.cls hb9), ?_, Hrgxb.out wq w9 hb9⟩
                rw [Hrge6.out]
                exact (blank_held n1).zone (fun b _ e => .inr (by have := hu0.size; have := HS5.out; omega))
              · intro Lq wq xq hh
                have d0 : Erg 0 (xq 0) wq := hh.val 0 (by kernel_rfl) (by kernel_rfl)
                rw [Hrge0.out] at d0
                have d3 : Erg 3 (xq 3) wq := hh.val 3 (by kernel_rfl) (by kernel_rfl)
                rw [Hrge3.out] at d3
                have d5 : Erg 5 (xq 5) wq := hh.val 5 (by kernel_rfl) (by kernel_rfl)
                rw [Hrge5.out] at d5
                have d6 : Erg 6 (xq 6) wq := hh.val 6 (by kernel_rfl) (by kernel_rfl)
                rw [Hrge6.out] at d6
                simp only [hFrg, d0, d3, d5]
                clear d0 d3 d5
                refine .inl ⟨rfl, ?_⟩
                unfold Reg.upon
                have hc : Crg Lq wq := hh.cls
                rw [HrghC.out] at hc
                go_simp
                refine (rpp_any (fun b => ZN Z w b ∧ b < wq.heap.size) (.slice o5 L1.length k5) L1 r1 c1 false true r1 c1 (xq 6) [zc] wq ((V5.out.below (hc.1 (Mix.one_un (hh.notYet 9 (by kernel_rfl))))).zone fun b hb hz => ⟨hz, hb⟩) (d6.zone fun b hb hz => ⟨hz, hb⟩) (fun b hb => hb.2) HLL.out HE1.out.2.1 (by rw [HE1.out.2.2.2.2 r1 HLL.out]; exact HE1.out.2.2.1) (HE1.out.short r1 HLL.out) (by rw [HE1.out.2.2.2.2 r1 HLL.out]; exact HCC.out)).mono ?_
                rintro e w2 ⟨v7, rfl, h7, b7⟩
                obtain ⟨o9, k9, e9⟩ := h7.len
                rw [pnt_len] at e9
                subst e9
                have hu0 := hc.1 (Mix.one_un (hh.notYet 9 (by kernel_rfl)))
                refine ⟨_, rfl, Hrgk.out 7 Lq w2 (by decide) (Hrgb.out Lq wq w2 hh.cls b7), ?_, Hrgxb.out wq w2 b7⟩
                rw [Hrge7.out]
                exact ⟨o9, k9, rfl, h7.zone fun b _ hz => by rcases hz with hz | hz; exact hz.1; exact .inr (by have := hu0.size; have := HS5.out; omega)⟩
              · intro Lq wq xq hh
                have d7 : Erg 7 (xq 7) wq := hh.val 7 (by kernel_rfl) (by kernel_rfl)
                rw [Hrge7.out] at d7
                simp only [hFrg]
                refine .inl ⟨rfl, ?_⟩
                unfold Reg.upon
                obtain ⟨o9, k9, e9, h9⟩ := d7
                rw [e9]
                have hc : Crg Lq wq := hh.cls
                rw [HrghC.out] at hc
                have hu0 := hc.1 (Mix.one_un (hh.notYet 9 (by kernel_rfl)))
                have hgo := rpgo_any (fun b => ZN Z w b ∧ b < wq.heap.size) (.slice o9 L1.length k9) (pntL L1 r1 c1 [zc]) r1 c1 false true wq wd (h9.zone fun b hb hz => ⟨hz, hb⟩) (fun b hb => hb.2) (HE1.out.pnt HLL.out c1 [zc]) (by rw [pnt_len]; exact HLL.out)
                rw [show downR (pntL L1 r1 c1 [zc]) r1 = downR L1 r1 from by unfold downR; rw [pnt_len]] at hgo
                go_simp
                refine hgo.mono ?_
                rintro e w2 ⟨v7, rfl, h7, b7⟩
                obtain ⟨o8, k8, e8⟩ := h7.len
                rw [go_len, pnt_len] at e8
                subst e8
                refine ⟨_, rfl, Hrgk.out 8 Lq w2 (by decide) (Hrgb.out Lq wq w2 hh.cls b7), ?_, Hrgxb.out wq w2 b7⟩
                rw [Hrge8.out]
                exact ⟨o8, k8, rfl, h7.zone fun b _ hz => by rcases hz with hz | hz; exact hz.1; exact .inr (by have := hu0.size; have := HS5.out; omega)⟩
              · intro Lq wq xq hh
                have d8 : Erg 8 (xq 8) wq := hh.val 8 (by kernel_rfl) (by kernel_rfl)
                rw [Hrge8.out] at d8
                simp only [hFrg]
                refine .inl ⟨rfl, ?_⟩
                unfold Reg.upon
                obtain ⟨o9, k9, e9, h9⟩ := d8
                have hc : Crg Lq wq := hh.cls
                rw [HrghC.out] at hc
                have hb9 := hc.1 hh.un
                have g9 := G5.out.below hb9 G5.out.lt
                have q0 := g9.cell 0 _ rfl
                have q1 := g9.cell 1 _ rfl
                have q2' := g9.cell 2 _ rfl
                have q3 := g9.cell 3 _ rfl
                have q4 := g9.cell 4 _ rfl
                have s0 := g9.free 0
                have s1 := g9.free 1
                have s2 := g9.free 2
                have s3 := g9.free 3
                have s4 := g9.free 4
                have hs9 := RSt.store (r2 := (downR L1 r1 : Nat)) (c2 := 0) (pd2 := false) (au2 := true) HZ.out (H5.out.below hb9) h9
                have hx9 := pres_upd (W := wq) w.heap.size (.slice o9 L1.length k9) (.int .i64 (downR L1 r1 : Nat)) (.int .i64 0) (.bool false) (.bool true)
                have hF : Crg (Lq.setIfInBounds 9 true) (((((wq.setCell ⟨w.heap.size, 0, none⟩ (.slice o9 L1.length k9)).setCell ⟨w.heap.size, 1, none⟩ (.int .i64 (downR L1 r1 : Nat))).setCell ⟨w.heap.size, 2, none⟩ (.int .i64 0)).setCell ⟨w.heap.size, 3, none⟩ (.bool false)).setCell ⟨w.heap.size, 4, none⟩ (.bool true)) ∧ Erg 9 undef (((((wq.setCell ⟨w.heap.size, 0, none⟩ (.slice o9 L1.length k9)).setCell ⟨w.heap.size, 1, none⟩ (.int .i64 (downR L1 r1 : Nat))).setCell ⟨w.heap.size, 2, none⟩ (.int .i64 0)).setCell ⟨w.heap.size, 3, none⟩ (.bool false)).setCell ⟨w.heap.size, 4, none⟩ (.bool true)) ∧ Xrg wq (((((wq.setCell ⟨w.heap.size, 0, none⟩ (.slice o9 L1.length k9)).setCell ⟨w.heap.size, 1, none⟩ (.int .i64 (downR L1 r1 : Nat))).setCell ⟨w.heap.size, 2, none⟩ (.int .i64 0)).setCell ⟨w.heap.size, 3, none⟩ (.bool false)).setCell ⟨w.heap.size, 4, none⟩ (.bool true)) := by
                  refine ⟨?_, by rw [Hrge9.out], by rw [HrghX.out]; exact hx9⟩
                  rw [HrghC.out]
                  exact ⟨fun e => (by rw [Mix.one_set (by rw [hh.size]; decide)] at e; exact absurd e (by decide)), fun _ => hs9⟩
                rw [e9]
                clear hc hb9 g9 hs9 hx9 h9 e9
                go_simp
                try exact hF
            intro xq wrg hcrg hvrg
            rw [HrghC.out] at hcrg
            simp only [hFrg]
            clear hvrg hFrg Hrgk Hrgx Hrgst Hrgc HrghC HrghX Hrgb Hrgxb Hrge0 Hrge1 Hrge2 Hrge3 Hrge4 Hrge5 Hrge6 Hrge7 Hrge8 Hrge9
            have HF := Lib.hid (hcrg.2 (by kernel_rfl))
            clear hcrg
            go_wp2
            go_meet
            case rel => rw [HE.out.1, HE.out.2.1, HE.out.2.2]; exact HF.out
          | false =>
            have HE := Lib.hid (show p2L wd kk L1 r1 c1 false = L1 ∧ p2R wd kk L1 r1 c1 false = r1 ∧ p2C wd kk c1 false = c1 - 1 from by unfold p2L p2R p2C; rw [if_pos hpp, if_pos hpp, if_pos hpp]; exact ⟨rfl, rfl, rfl⟩)
            obtain ⟨c0, rfl⟩ : ∃ c0, c1 = c0 + 1 := ⟨c1 - 1, by omega⟩
            have hwc : IntKind.i64.wrap ((wd : Int) - 2) = (c0 : Int) := by rw [IntKind.wrap_i64]; omega
            have f2 := G5.out.free 2
            have HF := Lib.hid (RSt.col HZ.out H5.out (c0 : Int))
            clear hq2 hq3 hpp hk2 hws
            go_wp2
            go_meet
            case rel => rw [HE.out.1, HE.out.2.1, HE.out.2.2]; exact HF.out
      case rest =>
        obtain ⟨w6, hwq⟩ : ∃ w6, w6 = wc := ⟨_, rfl⟩
        subst hwq
        have hl3 := p2_lt (wd := wd) (k := kk) (c := c1) au HLL.out
        have hc3 := p2_room (c := c1) au HPC.out HCC.out
        have he3 := p2_even (k := kk) (c := c1) HE1.out au HLL.out
        obtain ⟨L3, hL3⟩ : ∃ L3, L3 = p2L wd kk L1 r1 c1 au := ⟨_, rfl⟩
        obtain ⟨r3, hr3⟩ : ∃ r3, r3 = p2R wd kk L1 r1 c1 au := ⟨_, rfl⟩
        obtain ⟨c3, hcc3⟩ : ∃ c3, c3 = p2C wd kk c1 au := ⟨_, rfl⟩
        rw [← hL3, ← hr3, ← hcc3] at hcut HFIN
        rw [← hr3, ← hL3] at hl3
        rw [← hcc3] at hc3
        rw [← hL3] at he3
        have HL3 := Lib.hid hl3.1
        have HE3 := Lib.hid he3
        have HC3 := Lib.hid (show c3 + (ofC kk ys).length ≤ wd from by
          rw [ofC_len]
          split <;> rcases HPC.out with h | h <;> omega)
        clear hL3 hr3 hcc3 hl3 hc3 he3 hq2 hws e2
        have H6 := Lib.hid hcut
        obtain ⟨o7, k7, g6, _, _, v6, t6, _, s6⟩ := hcut
        have hb6 := (Below.refl w6.heap.size w6).alloc (Nat.le_refl _) (.cells [Value.int .i64 r3, .int .i64 c3, .bool false].toArray 24)
        have hn7 := Has.new w6 [Value.int .i64 r3, .int .i64 c3, .bool false] 24
        obtain ⟨W7, hW7⟩ : ∃ W7, W7 = w6.alloc (.cells [Value.int .i64 r3, .int .i64 c3, .bool false].toArray 24) := ⟨_, rfl⟩
        rw [← hW7] at hb6 hn7
        obtain ⟨g9, hg9⟩ : ∃ g9, g9 = w6.heap.size := ⟨_, rfl⟩
        rw [← hg9] at hn7
        have hW7' : W7 = w6.alloc (.cells #[Value.int .i64 r3, .int .i64 c3, .bool false] 24) := hW7
        have H7 := Lib.hid (H6.out.below hb6)
        have G7 := Lib.hid (g6.below hb6 g6.lt)
        have V7 := Lib.hid (v6.below hb6)
        have T7 := Lib.hid (t6.below hb6)
        have HN9 := Lib.hid hn7
        have HG9 := Lib.hid (show w.heap.size + 3 ≤ g9 from by rw [hg9]; exact s6)
        have HS7 := Lib.hid (show w.heap.size + 3 ≤ W7.heap.size from Nat.le_trans s6 hb6.size)
        have p1 := g6.cell 1 _ rfl
        have p2 := g6.cell 2 _ rfl
        clear g6 v6 t6 hb6 hn7 hW7 H6 G5 V5 H5
        go_upto_region 14 with (fail)
        rw [← hW7']
        rw [← hg9]
        clear hW7' hg9 p1 p2 s6
        obtain ⟨Erg, hErg⟩ : ∃ EE : Nat → Value → World → Prop, EE = fun jj xx ww => match jj with
            | 0 => xx = .agg #[.slice o7 L3.length k7, .int .i64 r3, .int .i64 c3, .bool false, .bool au]
            | 1 => xx = .pointer (some ⟨g9, 0, none⟩)
            | 2 => xx = .int .i64 r3
            | 3 => xx = .pointer (some ⟨g9, 1, none⟩)
            | 4 => xx = .int .i64 c3
            | 5 => xx = .int .i64 kk
            | 6 => xx = u2
            | 7 => (fun x w' => HeldE cellE (ZN Z w) w' x (ofC kk ys)) xx ww
            | 8 => (fun x w' => ∃ o9 k9, x = .agg #[.slice o9 L3.length k9, .int .i64 r3, .int .i64 c3, .bool false, .bool au] ∧ HeldE lineE (ZN Z w) w' (.slice o9 L3.length k9) (pntL L3 r3 c3 (ofC kk ys))) xx ww
            | 9 => xx = undef
            | _ => True := ⟨_, rfl⟩
        have erg0 : ∀ xx ww, Erg 0 xx ww = (xx = .agg #[.slice o7 L3.length k7, .int .i64 r3, .int .i64 c3, .bool false, .bool au]) := fun xx ww => congrFun (congrFun (congrFun hErg 0) xx) ww
        have erg1 : ∀ xx ww, Erg 1 xx ww = (xx = .pointer (some ⟨g9, 0, none⟩)) := fun xx ww => congrFun (congrFun (congrFun hErg 1) xx) ww
        have erg2 : ∀ xx ww, Erg 2 xx ww = (xx = .int .i64 r3) := fun xx ww => congrFun (congrFun (congrFun hErg 2) xx) ww
        have erg3 : ∀ xx ww, Erg 3 xx ww = (xx = .pointer (some ⟨g9, 1, none⟩)) := fun xx ww => congrFun (congrFun (congrFun hErg 3) xx) ww
        have erg4 : ∀ xx ww, Erg 4 xx ww = (xx = .int .i64 c3) := fun xx ww => congrFun (congrFun (congrFun hErg 4) xx) ww
        have erg5 : ∀ xx ww, Erg 5 xx ww = (xx = .int .i64 kk) := fun xx ww => congrFun (congrFun (congrFun hErg 5) xx) ww
        have erg6 : ∀ xx ww, Erg 6 xx ww = (xx = u2) := fun xx ww => congrFun (congrFun (congrFun hErg 6) xx) ww
        have erg7 : ∀ xx ww, Erg 7 xx ww = ((fun x w' => HeldE cellE (ZN Z w) w' x (ofC kk ys)) xx ww) := fun xx ww => congrFun (congrFun (congrFun hErg 7) xx) ww
        have erg8 : ∀ xx ww, Erg 8 xx ww = ((fun x w' => ∃ o9 k9, x = .agg #[.slice o9 L3.length k9, .int .i64 r3, .int .i64 c3, .bool false, .bool au] ∧ HeldE lineE (ZN Z w) w' (.slice o9 L3.length k9) (pntL L3 r3 c3 (ofC kk ys))) xx ww) := fun xx ww => congrFun (congrFun (congrFun hErg 8) xx) ww
        have erg9 : ∀ xx ww, Erg 9 xx ww = (xx = undef) := fun xx ww => congrFun (congrFun (congrFun hErg 9) xx) ww
        obtain ⟨Crg, hCrg⟩ : ∃ CC : Array Bool → World → Prop, CC = fun L8 w' => (Mix.one L8 9 = 0 → Below W7.heap.size W7 w') ∧ (Mix.one L8 9 = 1 → RSt Z w (pntL L3 r3 c3 (ofC kk ys)) r3 c3 false au u2 ys w' ∧ Has w' g9 [.int .i64 r3, .int .i64 c3, .bool false] 24) := ⟨_, rfl⟩
        have krg : ∀ i L w, i ≠ 9 →  Crg L w → Crg (L.setIfInBounds i true) w := by
          intro i L w q9 h
          rw [hCrg] at h ⊢
          simp only [Mix.one_ne q9]; exact h
        obtain ⟨Xrg, hXrg⟩ : ∃ XX : World → World → Prop, XX = fun x y => Upd (fun b => b = w.heap.size) x y := ⟨_, rfl⟩
        have xrg : ∀ w, Xrg w w := fun w => by rw [hXrg]; exact Upd.refl _ _
        have strg : ∀ j x w w1, Xrg w w1 → Erg j x w → Erg j x w1 := by
          intro j x w w1 hx h
          rw [hXrg] at hx
          match j with
          | 0 => rw [erg0] at h ⊢; exact h
          | 1 => rw [erg1] at h ⊢; exact h
          | 2 => rw [erg2] at h ⊢; exact h
          | 3 => rw [erg3] at h ⊢; exact h
          | 4 => rw [erg4] at h ⊢; exact h
          | 5 => rw [erg5] at h ⊢; exact h
          | 6 => rw [erg6] at h ⊢; exact h
          | 7 => rw [erg7] at h ⊢; (first | exact HeldE.upd h hx (fun b hb e => by rcases hb with hb | hb; have := HZ.out b hb; omega; omega) | (obtain ⟨o9, k9, e9, h9⟩ := h; exact ⟨o9, k9, e9, HeldE.upd h9 hx (fun b hb e => by rcases hb with hb | hb; have := HZ.out b hb; omega; omega)⟩))
          | 8 => rw [erg8] at h ⊢; (first | exact HeldE.upd h hx (fun b hb e => by rcases hb with hb | hb; have := HZ.out b hb; omega; omega) | (obtain ⟨o9, k9, e9, h9⟩ := h; exact ⟨o9, k9, e9, HeldE.upd h9 hx (fun b hb e => by rcases hb with hb | hb; have := HZ.out b hb; omega; omega)⟩))
          | 9 => rw [erg9] at h ⊢; exact h
          | j + 10 => rw [hErg]; trivial
        have crg : Crg (Array.replicate 10 false) W7.drew := by rw [hCrg]; exact ⟨fun _ => (Below.refl _ _).drew, fun e => absurd e (by decide)⟩
        have brg : ∀ L w w1, Crg L w → Below w.heap.size w w1 → Crg L w1 := by
          intro L w w1 h hb
          rw [hCrg] at h ⊢
          (obtain ⟨q1, q2⟩ := h; exact ⟨fun e => (q1 e).trans (hb.mono (q1 e).size), fun e => ⟨(q2 e).1.below hb, (q2 e).2.below hb (q2 e).2.lt⟩⟩)
        have xbrg : ∀ w w1, Below w.heap.size w w1 → Xrg w w1 := by
          intro w w1 hb
          rw [hXrg]
          exact Upd.ofBelow hb
        have Hrgb := Lib.hid brg
        have Hrgxb := Lib.hid xbrg
        clear brg xbrg
        clear hErg
        have Hrgk := Lib.hid krg
        have Hrgx := Lib.hid xrg
        have Hrgst := Lib.hid strg
        have Hrgc := Lib.hid crg
        have HrghC := Lib.hid hCrg
        have HrghX := Lib.hid hXrg
        have Hrge0 := Lib.hid erg0
        have Hrge1 := Lib.hid erg1
        have Hrge2 := Lib.hid erg2
        have Hrge3 := Lib.hid erg3
        have Hrge4 := Lib.hid erg4
        have Hrge5 := Lib.hid erg5
        have Hrge6 := Lib.hid erg6
        have Hrge7 := Lib.hid erg7
        have Hrge8 := Lib.hid erg8
        have Hrge9 := Lib.hid erg9
        clear krg xrg strg crg hCrg hXrg erg0 erg1 erg2 erg3 erg4 erg5 erg6 erg7 erg8 erg9
        go_wp2_with fail
        refine Reg.regionF Erg Crg Xrg Hrgst.out (by kernel_rfl) (by kernel_rfl) (by kernel_rfl) Hrgc.out (fun Frg hFrg => ?_)
        simp only [Reg.frame, Reg.dsts, List.map_cons, List.map_nil, Mix.put_lit, Reg.put_none, List.set_cons_succ, List.set_cons_zero, Nat.zero_add, Nat.reduceAdd] at hFrg
        refine ⟨?_, ?_⟩
        · refine ⟨?_, ?_, ?_, ?_, ?_, ?_, ?_, ?_, ?_, ?_, trivial⟩
          · intro Lq wq xq hh
            simp only [hFrg]
            refine .inl ⟨rfl, ?_⟩
            unfold Reg.upon
            have hc : Crg Lq wq := hh.cls
            rw [HrghC.out] at hc
            have g9' := G7.out.below (hc.1 (Mix.one_un (hh.notYet 9 (by kernel_rfl)))) G7.out.lt
            have q0 := g9'.cell 0 _ rfl
            have q1 := g9'.cell 1 _ rfl
            have q2' := g9'.cell 2 _ rfl
            have q3 := g9'.cell 3 _ rfl
            have q4 := g9'.cell 4 _ rfl
            clear hc
            have hk := Hrgk.out 0 Lq wq (by decide)  hh.cls
            have hx := Hrgx.out wq
            have he : Erg 0 (.agg #[.slice o7 L3.length k7, .int .i64 r3, .int .i64 c3, .bool false, .bool au]) wq := by rw [Hrge0.out]
            have HK := Lib.hid (And.intro hk (And.intro he hx))
            clear hk hx he
            go_simp
            exact HK.out
          · intro Lq wq xq hh
            simp only [hFrg]
            refine .inl ⟨rfl, ?_⟩
            unfold Reg.upon
            have hk := Hrgk.out 1 Lq wq (by decide)  hh.cls
            have hx := Hrgx.out wq
            have he : Erg 1 (.pointer (some ⟨g9, 0, none⟩)) wq := by rw [Hrge1.out]
            have HK := Lib.hid (And.intro hk (And.intro he hx))
            clear hk hx he
            go_simp
            exact HK.out
          · intro Lq wq xq hh
            have d1 : Erg 1 (xq 1) wq := hh.val 1 (by kernel_rfl) (by kernel_rfl)
            rw [Hrge1.out] at d1
            simp only [hFrg, d1]
            clear d1
            refine .inl ⟨rfl, ?_⟩
            unfold Reg.upon
            have hc : Crg Lq wq := hh.cls
            rw [HrghC.out] at hc
            have q1 := (HN9.out.below (hc.1 (Mix.one_un (hh.notYet 9 (by kernel_rfl)))) HN9.out.lt).cell 0 _ rfl
            clear hc
            have hk := Hrgk.out 2 Lq wq (by decide)  hh.cls
            have hx := Hrgx.out wq
            have he : Erg 2 (.int .i64 r3) wq := by rw [Hrge2.out]
            have HK := Lib.hid (And.intro hk (And.intro he hx))
            clear hk hx he
            go_simp
            exact HK.out
          · intro Lq wq xq hh
            simp only [hFrg]
            refine .inl ⟨rfl, ?_⟩
            unfold Reg.upon
            have hk := Hrgk.out 3 Lq wq (by decide)  hh.cls
            have hx := Hrgx.out wq
            have he : Erg 3 (.pointer (some ⟨g9, 1, none⟩)) wq := by rw [Hrge3.out]
            have HK := Lib.hid (And.intro hk (And.intro he hx))
            clear hk hx he
            go_simp
            exact HK.out
          · intro Lq wq xq hh
            have d3 : Erg 3 (xq 3) wq := hh.val 3 (by kernel_rfl) (by kernel_rfl)
            rw [Hrge3.out] at d3
            simp only [hFrg, d3]
            clear d3
            refine .inl ⟨rfl, ?_⟩
            unfold Reg.upon
            have hc : Crg Lq wq := hh.cls
            rw [HrghC.out] at hc
            have q1 := (HN9.out.below (hc.1 (Mix.one_un (hh.notYet 9 (by kernel_rfl)))) HN9.out.lt).cell 1 _ rfl
            clear hc
            have hk := Hrgk.out 4 Lq wq (by decide)  hh.cls
            have hx := Hrgx.out wq
            have he : Erg 4 (.int .i64 c3) wq := by rw [Hrge4.out]
            have HK := Lib.hid (And.intro hk (And.intro he hx))
            clear hk hx he
            go_simp
            exact HK.out
          · intro Lq wq xq hh
            simp only [hFrg]
            refine .inl ⟨rfl, ?_⟩
            unfold Reg.upon
            have hk := Hrgk.out 5 Lq wq (by decide)  hh.cls
            have hx := Hrgx.out wq
            have he : Erg 5 (.int .i64 kk) wq := by rw [Hrge5.out]
            have HK := Lib.hid (And.intro hk (And.intro he hx))
            clear hk hx he
            go_simp
            exact HK.out
          · intro Lq wq xq hh
            simp only [hFrg]
            refine .inl ⟨rfl, ?_⟩
            unfold Reg.upon
            have hk := Hrgk.out 6 Lq wq (by decide)  hh.cls
            have hx := Hrgx.out wq
            have he : Erg 6 (u2) wq := by rw [Hrge6.out]
            have HK := Lib.hid (And.intro hk (And.intro he hx))
            clear hk hx he
            go_simp
            exact HK.out
          · intro Lq wq xq hh
            have d5 : Erg 5 (xq 5) wq := hh.val 5 (by kernel_rfl) (by kernel_rfl)
            rw [Hrge5.out] at d5
            have d6 : Erg 6 (xq 6) wq := hh.val 6 (by kernel_rfl) (by kernel_rfl)
            rw [Hrge6.out] at d6
            simp only [hFrg, d5, d6]
            clear d5 d6
            refine .inl ⟨rfl, ?_⟩
            unfold Reg.upon
            have hc : Crg Lq wq := hh.cls
            rw [HrghC.out] at hc
            go_simp
            refine (rcof_new (ZN Z w) (ZN Z w) kk u2 ys wq (fun b hb => .inr (by have := (hc.1 (Mix.one_un (hh.notYet 9 (by kernel_rfl)))).size; have := HS7.out; omega)) (T7.out.below (hc.1 (Mix.one_un (hh.notYet 9 (by kernel_rfl)))))).mono ?_
            rintro e w2 ⟨v7, rfl, ho7, b7⟩
            have hu0 := hc.1 (Mix.one_un (hh.notYet 9 (by kernel_rfl)))
            refine ⟨_, rfl, Hrgk.out 7 Lq w2 (by decide) (Hrgb.out Lq wq w2 hh.cls b7), ?_, Hrgxb.out wq w2 b7⟩
            rw [Hrge7.out]
            exact ho7.held fun b hb _ => .inr (by have := hu0.size; have := HS7.out; omega)
          · intro Lq wq xq hh
            have d0 : Erg 0 (xq 0) wq := hh.val 0 (by kernel_rfl) (by kernel_rfl)
            rw [Hrge0.out] at d0
            have d2 : Erg 2 (xq 2) wq := hh.val 2 (by kernel_rfl) (by kernel_rfl)
            rw [Hrge2.out] at d2
            have d4 : Erg 4 (xq 4) wq := hh.val 4 (by kernel_rfl) (by kernel_rfl)
            rw [Hrge4.out] at d4
            have d7 : Erg 7 (xq 7) wq := hh.val 7 (by kernel_rfl) (by kernel_rfl)
            rw [Hrge7.out] at d7
            simp only [hFrg, d0, d2, d4]
            clear d0 d2 d4
            refine .inl ⟨rfl, ?_⟩
            unfold Reg.upon
            have hc : Crg Lq wq := hh.cls
            rw [HrghC.out] at hc
            go_simp
            refine (rpp_any (fun b => ZN Z w b ∧ b < wq.heap.size) (.slice o7 L3.length k7) L3 r3 c3 false au r3 c3 (xq 7) (ofC kk ys) wq ((V7.out.below (hc.1 (Mix.one_un (hh.notYet 9 (by kernel_rfl))))).zone fun b hb hz => ⟨hz, hb⟩) (d7.zone fun b hb hz => ⟨hz, hb⟩) (fun b hb => hb.2) HL3.out HE3.out.2.1 (by rw [HE3.out.2.2.2.2 r3 HL3.out]; exact HE3.out.2.2.1) (HE3.out.short r3 HL3.out) (by rw [HE3.out.2.2.2.2 r3 HL3.out]; exact HC3.out)).mono ?_
            rintro e w2 ⟨v7, rfl, h7, b7⟩
            obtain ⟨o9, k9, e9⟩ := h7.len
            rw [pnt_len] at e9
            subst e9
            have hu0 := hc.1 (Mix.one_un (hh.notYet 9 (by kernel_rfl)))
            refine ⟨_, rfl, Hrgk.out 8 Lq w2 (by decide) (Hrgb.out Lq wq w2 hh.cls b7), ?_, Hrgxb.out wq w2 b7⟩
            rw [Hrge8.out]
            exact ⟨o9, k9, rfl, h7.zone fun b _ hz => by rcases hz with hz | hz; exact hz.1; exact .inr (by have := hu0.size; have := HS7.out; omega)⟩
          · intro Lq wq xq hh
            have d8 : Erg 8 (xq 8) wq := hh.val 8 (by kernel_rfl) (by kernel_rfl)
            rw [Hrge8.out] at d8
            simp only [hFrg]
            refine .inl ⟨rfl, ?_⟩
            unfold Reg.upon
            obtain ⟨o9, k9, e9, h9⟩ := d8
            have hc : Crg Lq wq := hh.cls
            rw [HrghC.out] at hc
            have hb9 := hc.1 hh.un
            have g9 := G7.out.below hb9 G7.out.lt
            have q0 := g9.cell 0 _ rfl
            have q1 := g9.cell 1 _ rfl
            have q2' := g9.cell 2 _ rfl
            have q3 := g9.cell 3 _ rfl
            have q4 := g9.cell 4 _ rfl
            have s0 := g9.free 0
            have s1 := g9.free 1
            have s2 := g9.free 2
            have s3 := g9.free 3
            have s4 := g9.free 4
            have hs9 := RSt.store (r2 := r3) (c2 := c3) (pd2 := false) (au2 := au) HZ.out (H7.out.below hb9) h9
            have hx9 := pres_upd (W := wq) w.heap.size (.slice o9 L3.length k9) (.int .i64 r3) (.int .i64 c3) (.bool false) (.bool au)
            have hn9 := hx9.keep.has (HN9.out.below hb9 HN9.out.lt) (fun e => by have := HG9.out; omega)
            have hF : Crg (Lq.setIfInBounds 9 true) (((((wq.setCell ⟨w.heap.size, 0, none⟩ (.slice o9 L3.length k9)).setCell ⟨w.heap.size, 1, none⟩ (.int .i64 r3)).setCell ⟨w.heap.size, 2, none⟩ (.int .i64 c3)).setCell ⟨w.heap.size, 3, none⟩ (.bool false)).setCell ⟨w.heap.size, 4, none⟩ (.bool au)) ∧ Erg 9 undef (((((wq.setCell ⟨w.heap.size, 0, none⟩ (.slice o9 L3.length k9)).setCell ⟨w.heap.size, 1, none⟩ (.int .i64 r3)).setCell ⟨w.heap.size, 2, none⟩ (.int .i64 c3)).setCell ⟨w.heap.size, 3, none⟩ (.bool false)).setCell ⟨w.heap.size, 4, none⟩ (.bool au)) ∧ Xrg wq (((((wq.setCell ⟨w.heap.size, 0, none⟩ (.slice o9 L3.length k9)).setCell ⟨w.heap.size, 1, none⟩ (.int .i64 r3)).setCell ⟨w.heap.size, 2, none⟩ (.int .i64 c3)).setCell ⟨w.heap.size, 3, none⟩ (.bool false)).setCell ⟨w.heap.size, 4, none⟩ (.bool au)) := by
              refine ⟨?_, by rw [Hrge9.out], by rw [HrghX.out]; exact hx9⟩
              rw [HrghC.out]
              exact ⟨fun e => (by rw [Mix.one_set (by rw [hh.size]; decide)] at e; exact absurd e (by decide)), fun _ => ⟨hs9, hn9⟩⟩
            rw [e9]
            clear hc hb9 g9 hs9 hx9 h9 e9
            go_simp
            try exact hF
        intro xq wrg hcrg hvrg
        rw [HrghC.out] at hcrg
        simp only [hFrg]
        clear hvrg hFrg Hrgk Hrgx Hrgst Hrgc HrghC HrghX Hrgb Hrgxb Hrge0 Hrge1 Hrge2 Hrge3 Hrge4 Hrge5 Hrge6 Hrge7 Hrge8 Hrge9
        obtain ⟨h8, n8⟩ := hcrg.2 (by kernel_rfl)
        have H8 := Lib.hid h8
        have N8 := Lib.hid n8
        obtain ⟨o8, k8, g8, _⟩ := h8
        have G8 := Lib.hid g8
        have d0 := n8.cell 0 _ rfl
        have d1 := n8.cell 1 _ rfl
        have d2 := n8.cell 2 _ rfl
        have e4 := g8.cell 4 _ rfl
        clear hcrg n8 g8 H7 G7 V7 T7 HN9
        have haf := rafter_any r3 c3 false kk wd au wrg (by omega)
        go_wp2_with fail
        refine haf.mono ?_
        rintro e w9 ⟨rfl, b9⟩
        have h9 := RSt.cur HZ.out (H8.out.below b9) r3 (aftC c3 kk wd) (aftP c3 kk wd au)
        have n9 := ((((N8.out.below b9 N8.out.lt).setOther ⟨w.heap.size, 1, none⟩ (.int .i64 r3) (by show g9 ≠ w.heap.size; have := HG9.out; omega)).setOther ⟨w.heap.size, 2, none⟩ (.int .i64 (aftC c3 kk wd)) (by show g9 ≠ w.heap.size; have := HG9.out; omega)).setOther ⟨w.heap.size, 3, none⟩ (.bool (aftP c3 kk wd au)) (by show g9 ≠ w.heap.size; have := HG9.out; omega))
        have g9' := G8.out.below b9 G8.out.lt
        have p1 := g9'.cell 1 _ rfl
        have p2 := g9'.cell 2 _ rfl
        have p3 := g9'.cell 3 _ rfl
        have f1 := g9'.free 1
        have f2 := g9'.free 2
        have f3 := g9'.free 3
        obtain ⟨W9, hW9⟩ : ∃ W9, W9 = (((w9.setCell ⟨w.heap.size, 1, none⟩ (.int .i64 r3)).setCell ⟨w.heap.size, 2, none⟩ (.int .i64 (aftC c3 kk wd))).setCell ⟨w.heap.size, 3, none⟩ (.bool (aftP c3 kk wd au))) := ⟨_, rfl⟩
        rw [← hW9] at h9 n9
        have H9 := Lib.hid h9
        have N9 := Lib.hid n9
        clear h9 n9 g9' b9 haf d0 d1 d2 e4
        go_upto_region 16 with (fail)
        rw [← hW9]
        clear hW9 p1 p2 p3 f1 f2 f3
        obtain ⟨o9, k9, g9a, g9b, g9c, v9, _, l9, s9⟩ := H9.out
        have n9 := N9.out
        rw [pnt_len] at g9a v9
        have HST := Lib.hid (And.intro g9a (And.intro n9 (And.intro g9b (And.intro g9c (And.intro v9 (And.intro l9 s9))))))
        clear g9a g9b g9c v9 l9 s9 n9
        obtain ⟨Erg, hErg⟩ : ∃ EE : Nat → Value → World → Prop, EE = fun jj xx ww => match jj with
            | 0 => xx = .agg #[.slice o9 L3.length k9, .int .i64 r3, .int .i64 (aftC c3 kk wd), .bool (aftP c3 kk wd au), .bool au]
            | 1 => xx = .agg #[.int .i64 r3, .int .i64 c3, .bool false]
            | 2 => xx = undef
            | 3 => xx = undef
            | _ => True := ⟨_, rfl⟩
        have erg0 : ∀ xx ww, Erg 0 xx ww = (xx = .agg #[.slice o9 L3.length k9, .int .i64 r3, .int .i64 (aftC c3 kk wd), .bool (aftP c3 kk wd au), .bool au]) := fun xx ww => congrFun (congrFun (congrFun hErg 0) xx) ww
        have erg1 : ∀ xx ww, Erg 1 xx ww = (xx = .agg #[.int .i64 r3, .int .i64 c3, .bool false]) := fun xx ww => congrFun (congrFun (congrFun hErg 1) xx) ww
        have erg2 : ∀ xx ww, Erg 2 xx ww = (xx = undef) := fun xx ww => congrFun (congrFun (congrFun hErg 2) xx) ww
        have erg3 : ∀ xx ww, Erg 3 xx ww = (xx = undef) := fun xx ww => congrFun (congrFun (congrFun hErg 3) xx) ww
        obtain ⟨Crg, hCrg⟩ : ∃ CC : Array Bool → World → Prop, CC = fun L8 w' => Has w' w.heap.size [.slice o9 L3.length k9, .int .i64 r3, .int .i64 (aftC c3 kk wd), .bool (aftP c3 kk wd au), .bool au] 43 ∧ Has w' g9 [.int .i64 r3, .int .i64 c3, .bool false] 24 ∧ (Mix.one L8 2 = 0 → Has w' (w.heap.size + 1) [.slice none 0 0, .int .i64 0, .int .i64 0, .bool false, .bool false] 43) ∧ (Mix.one L8 2 = 1 → Has w' (w.heap.size + 1) [.slice o9 L3.length k9, .int .i64 r3, .int .i64 (aftC c3 kk wd), .bool (aftP c3 kk wd au), .bool au] 43) ∧ (Mix.one L8 3 = 0 → Has w' (w.heap.size + 2) [.int .i64 0, .int .i64 0, .bool false] 24) ∧ (Mix.one L8 3 = 1 → Has w' (w.heap.size + 2) [.int .i64 r3, .int .i64 c3, .bool false] 24) ∧ HeldE lineE (ZN Z w) w' (.slice o9 L3.length k9) (pntL L3 r3 c3 (ofC kk ys)) ∧ Below w.heap.size w w' ∧ w.heap.size + 3 ≤ w'.heap.size := ⟨_, rfl⟩
        have krg : ∀ i L w, i ≠ 2 → i ≠ 3 →  Crg L w → Crg (L.setIfInBounds i true) w := by
          intro i L w q2 q3 h
          rw [hCrg] at h ⊢
          simp only [Mix.one_ne q2, Mix.one_ne q3]; exact h
        obtain ⟨Xrg, hXrg⟩ : ∃ XX : World → World → Prop, XX = fun _ _ => True := ⟨_, rfl⟩
        have xrg : ∀ w, Xrg w w := fun w => by rw [hXrg]; exact trivial
        have strg : ∀ j x w w1, Xrg w w1 → Erg j x w → Erg j x w1 := by
          intro j x w w1 hx h
          rw [hXrg] at hx
          match j with
          | 0 => rw [erg0] at h ⊢; exact h
          | 1 => rw [erg1] at h ⊢; exact h
          | 2 => rw [erg2] at h ⊢; exact h
          | 3 => rw [erg3] at h ⊢; exact h
          | j + 4 => rw [hErg]; trivial
        have crg : Crg (Array.replicate 4 false) W9.drew := by rw [hCrg]; (have hb := (Below.refl W9.heap.size W9).drew; obtain ⟨q1, q2, q3, q5, q7, q8, q9⟩ := HST.out; exact ⟨q1.below hb q1.lt, q2.below hb q2.lt, fun _ => q3.below hb q3.lt, fun e => absurd e (by decide), fun _ => q5.below hb q5.lt, fun e => absurd e (by decide), q7.below hb, q8.trans (hb.mono q8.size), Nat.le_trans q9 hb.size⟩)
        have brg : ∀ L w w1, Crg L w → Below w.heap.size w w1 → Crg L w1 := by
          intro L w w1 h hb
          rw [hCrg] at h ⊢
          (obtain ⟨q1, q2, q3, q4, q5, q6, q7, q8, q9⟩ := h; exact ⟨q1.below hb q1.lt, q2.below hb q2.lt, fun e => (q3 e).below hb (q3 e).lt, fun e => (q4 e).below hb (q4 e).lt, fun e => (q5 e).below hb (q5 e).lt, fun e => (q6 e).below hb (q6 e).lt, q7.below hb, q8.trans (hb.mono q8.size), Nat.le_trans q9 hb.size⟩)
        have xbrg : ∀ w w1, Below w.heap.size w w1 → Xrg w w1 := by
          intro w w1 hb
          rw [hXrg]
          trivial
        have Hrgb := Lib.hid brg
        have Hrgxb := Lib.hid xbrg
        clear brg xbrg
        clear hErg
        have Hrgk := Lib.hid krg
        have Hrgx := Lib.hid xrg
        have Hrgst := Lib.hid strg
        have Hrgc := Lib.hid crg
        have HrghC := Lib.hid hCrg
        have HrghX := Lib.hid hXrg
        have Hrge0 := Lib.hid erg0
        have Hrge1 := Lib.hid erg1
        have Hrge2 := Lib.hid erg2
        have Hrge3 := Lib.hid erg3
        clear krg xrg strg crg hCrg hXrg erg0 erg1 erg2 erg3
        go_wp2_with fail
        refine Reg.regionF Erg Crg Xrg Hrgst.out (by kernel_rfl) (by kernel_rfl) (by kernel_rfl) Hrgc.out (fun Frg hFrg => ?_)
        simp only [Reg.frame, Reg.dsts, List.map_cons, List.map_nil, Mix.put_lit, Reg.put_none, List.set_cons_succ, List.set_cons_zero, Nat.zero_add, Nat.reduceAdd] at hFrg
        refine ⟨?_, ?_⟩
        · refine ⟨?_, ?_, ?_, ?_, trivial⟩
          · intro Lq wq xq hh
            simp only [hFrg]
            refine .inl ⟨rfl, ?_⟩
            unfold Reg.upon
            have hc : Crg Lq wq := hh.cls
            rw [HrghC.out] at hc
            have y0 := hc.1.cell 0 _ rfl
            have y1 := hc.1.cell 1 _ rfl
            have y2 := hc.1.cell 2 _ rfl
            have y3 := hc.1.cell 3 _ rfl
            have y4 := hc.1.cell 4 _ rfl
            clear hc
            have hk := Hrgk.out 0 Lq wq (by decide) (by decide)  hh.cls
            have hx := Hrgx.out wq
            have he : Erg 0 (.agg #[.slice o9 L3.length k9, .int .i64 r3, .int .i64 (aftC c3 kk wd), .bool (aftP c3 kk wd au), .bool au]) wq := by rw [Hrge0.out]
            have HK := Lib.hid (And.intro hk (And.intro he hx))
            clear hk hx he
            go_simp
            exact HK.out
          · intro Lq wq xq hh
            simp only [hFrg]
            refine .inl ⟨rfl, ?_⟩
            unfold Reg.upon
            have hc : Crg Lq wq := hh.cls
            rw [HrghC.out] at hc
            have y0 := hc.2.1.cell 0 _ rfl
            have y1 := hc.2.1.cell 1 _ rfl
            have y2 := hc.2.1.cell 2 _ rfl
            clear hc
            have hk := Hrgk.out 1 Lq wq (by decide) (by decide)  hh.cls
            have hx := Hrgx.out wq
            have he : Erg 1 (.agg #[.int .i64 r3, .int .i64 c3, .bool false]) wq := by rw [Hrge1.out]
            have HK := Lib.hid (And.intro hk (And.intro he hx))
            clear hk hx he
            go_simp
            exact HK.out
          · intro Lq wq xq hh
            have d0 : Erg 0 (xq 0) wq := hh.val 0 (by kernel_rfl) (by kernel_rfl)
            rw [Hrge0.out] at d0
            simp only [hFrg, d0]
            clear d0
            refine .inl ⟨rfl, ?_⟩
            unfold Reg.upon
            have hc : Crg Lq wq := hh.cls
            rw [HrghC.out] at hc
            obtain ⟨q1, q2, q3, q4, q5, q6, q7, q8, q9⟩ := hc
            have hz := q3 hh.un
            have y0 := hz.cell 0 _ rfl
            have y1 := hz.cell 1 _ rfl
            have y2 := hz.cell 2 _ rfl
            have y3 := hz.cell 3 _ rfl
            have y4 := hz.cell 4 _ rfl
            have s0 := hz.free 0
            have s1 := hz.free 1
            have s2 := hz.free 2
            have s3 := hz.free 3
            have s4 := hz.free 4
            have hu := pres_upd (W := wq) (w.heap.size + 1) (.slice o9 L3.length k9) (.int .i64 r3) (.int .i64 (aftC c3 kk wd)) (.bool (aftP c3 kk wd au)) (.bool au)
            have hF : Crg (Lq.setIfInBounds 2 true) (((((wq.setCell ⟨w.heap.size + 1, 0, none⟩ (.slice o9 L3.length k9)).setCell ⟨w.heap.size + 1, 1, none⟩ (.int .i64 r3)).setCell ⟨w.heap.size + 1, 2, none⟩ (.int .i64 (aftC c3 kk wd))).setCell ⟨w.heap.size + 1, 3, none⟩ (.bool (aftP c3 kk wd au))).setCell ⟨w.heap.size + 1, 4, none⟩ (.bool au)) ∧ Erg 2 undef (((((wq.setCell ⟨w.heap.size + 1, 0, none⟩ (.slice o9 L3.length k9)).setCell ⟨w.heap.size + 1, 1, none⟩ (.int .i64 r3)).setCell ⟨w.heap.size + 1, 2, none⟩ (.int .i64 (aftC c3 kk wd))).setCell ⟨w.heap.size + 1, 3, none⟩ (.bool (aftP c3 kk wd au))).setCell ⟨w.heap.size + 1, 4, none⟩ (.bool au)) ∧ Xrg wq (((((wq.setCell ⟨w.heap.size + 1, 0, none⟩ (.slice o9 L3.length k9)).setCell ⟨w.heap.size + 1, 1, none⟩ (.int .i64 r3)).setCell ⟨w.heap.size + 1, 2, none⟩ (.int .i64 (aftC c3 kk wd))).setCell ⟨w.heap.size + 1, 3, none⟩ (.bool (aftP c3 kk wd au))).setCell ⟨w.heap.size + 1, 4, none⟩ (.bool au)) := by
              refine ⟨?_, by rw [Hrge2.out], by rw [HrghX.out]; trivial⟩
              rw [HrghC.out]
              refine ⟨hu.keep.has q1 (fun e => by omega), hu.keep.has q2 (fun e => by have := HG9.out; omega), fun e => ?_, fun _ => pres_has hz _ _ _ _ _, fun e => hu.keep.has (q5 (by rw [Mix.one_ne (by decide)] at e; exact e)) (fun e => by omega), fun e => hu.keep.has (q6 (by rw [Mix.one_ne (by decide)] at e; exact e)) (fun e => by omega), q7.upd hu (fun x hx e => by rcases hx with hx | hx; have := HZ.out x hx; omega; omega), pres (g := w.heap.size + 1) q8 (by omega) _ _ _ _ _, Nat.le_trans q9 hu.size⟩
              rw [Mix.one_set (by rw [hh.size]; decide)] at e
              exact absurd e (by decide)
            clear q1 q2 q3 q4 q5 q6 q7 q8 hz hu
            go_simp
            try exact hF
          · intro Lq wq xq hh
            have d1 : Erg 1 (xq 1) wq := hh.val 1 (by kernel_rfl) (by kernel_rfl)
            rw [Hrge1.out] at d1
            simp only [hFrg, d1]
            clear d1
            refine .inl ⟨rfl, ?_⟩
            unfold Reg.upon
            have hc : Crg Lq wq := hh.cls
            rw [HrghC.out] at hc
            obtain ⟨q1, q2, q3, q4, q5, q6, q7, q8, q9⟩ := hc
            have hz := q5 hh.un
            have y0 : wq.cell? ⟨w.heap.size + 1 + 1, 0, none⟩ = some (.int .i64 0) := hz.cell 0 _ rfl
            have y1 : wq.cell? ⟨w.heap.size + 1 + 1, 1, none⟩ = some (.int .i64 0) := hz.cell 1 _ rfl
            have y2 : wq.cell? ⟨w.heap.size + 1 + 1, 2, none⟩ = some (.bool false) := hz.cell 2 _ rfl
            have s0 : wq.frozen? ⟨w.heap.size + 1 + 1, 0, none⟩ = false := hz.free 0
            have s1 : wq.frozen? ⟨w.heap.size + 1 + 1, 1, none⟩ = false := hz.free 1
            have s2 : wq.frozen? ⟨w.heap.size + 1 + 1, 2, none⟩ = false := hz.free 2
            have hu := (((Upd.refl (fun x => x = w.heap.size + 2) wq).setCell (p := ⟨w.heap.size + 2, 0, none⟩) (.inl rfl) (.int .i64 r3)).setCell (p := ⟨w.heap.size + 2, 1, none⟩) (.inl rfl) (.int .i64 c3)).setCell (p := ⟨w.heap.size + 2, 2, none⟩) (.inl rfl) (.bool false)
            have hF : Crg (Lq.setIfInBounds 3 true) (((wq.setCell ⟨w.heap.size + 2, 0, none⟩ (.int .i64 r3)).setCell ⟨w.heap.size + 2, 1, none⟩ (.int .i64 c3)).setCell ⟨w.heap.size + 2, 2, none⟩ (.bool false)) ∧ Erg 3 undef (((wq.setCell ⟨w.heap.size + 2, 0, none⟩ (.int .i64 r3)).setCell ⟨w.heap.size + 2, 1, none⟩ (.int .i64 c3)).setCell ⟨w.heap.size + 2, 2, none⟩ (.bool false)) ∧ Xrg wq (((wq.setCell ⟨w.heap.size + 2, 0, none⟩ (.int .i64 r3)).setCell ⟨w.heap.size + 2, 1, none⟩ (.int .i64 c3)).setCell ⟨w.heap.size + 2, 2, none⟩ (.bool false)) := by
              refine ⟨?_, by rw [Hrge3.out], by rw [HrghX.out]; trivial⟩
              rw [HrghC.out]
              refine ⟨hu.keep.has q1 (fun e => by omega), hu.keep.has q2 (fun e => by have := HG9.out; omega), fun e => hu.keep.has (q3 (by rw [Mix.one_ne (by decide)] at e; exact e)) (fun e => by omega), fun e => hu.keep.has (q4 (by rw [Mix.one_ne (by decide)] at e; exact e)) (fun e => by omega), fun e => ?_, fun _ => ((hz.set 0 _).set 1 _).set 2 _, q7.upd hu (fun x hx e => by rcases hx with hx | hx; have := HZ.out x hx; omega; omega), q8.trans (hu.below q8.size fun x e => by omega), Nat.le_trans q9 hu.size⟩
              rw [Mix.one_set (by rw [hh.size]; decide)] at e
              exact absurd e (by decide)
            have hF' := hF
            clear q1 q2 q3 q4 q5 q6 q7 q8 hz hu
            go_simp
            try exact hF
        intro xq wrg hcrg hvrg
        rw [HrghC.out] at hcrg
        simp only [hFrg]
        clear hvrg hFrg Hrgk Hrgx Hrgst Hrgc HrghC HrghX Hrgb Hrgxb Hrge0 Hrge1 Hrge2 Hrge3
        obtain ⟨_, _, _, q4, _, q6, q7, q8, q9⟩ := hcrg
        have hk := q4 (by kernel_rfl)
        have hm := q6 (by kernel_rfl)
        have k0' := hk.cell 0 _ rfl
        have k1' := hk.cell 1 _ rfl
        have k2' := hk.cell 2 _ rfl
        have k3' := hk.cell 3 _ rfl
        have k4' := hk.cell 4 _ rfl
        have m0 : wrg.cell? ⟨w.heap.size + 1 + 1, 0, none⟩ = some (.int .i64 r3) := hm.cell 0 _ rfl
        have m1 : wrg.cell? ⟨w.heap.size + 1 + 1, 1, none⟩ = some (.int .i64 c3) := hm.cell 1 _ rfl
        have m2 : wrg.cell? ⟨w.heap.size + 1 + 1, 2, none⟩ = some (.bool false) := hm.cell 2 _ rfl
        have HF := Lib.hid (And.intro (q7.zone (Y := fun b => Z b ∨ (w.heap.size ≤ b ∧ b < wrg.heap.size)) (fun b hb hz => by rcases hz with hz | hz; exact .inl hz; exact .inr ⟨by omega, hb⟩)) q8)
        clear hk hm q4 q6 q7 q8
        go_wp2
        exact bodyPost_ret (v := .tuple #[.agg #[.slice o9 L3.length k9, .int .i64 r3, .int .i64 (aftC c3 kk wd), .bool (aftP c3 kk wd au), .bool au], .agg #[.int .i64 r3, .int .i64 c3, .bool false]]) (by simp [results, Tryz.results77, go_sem, k0', k1', k2', k3', k4', m0, m1, m2]) rfl ⟨.slice o9 L3.length k9, by rw [HFIN.out.2.1, HFIN.out.2.2, ← HKE.out], by rw [HFIN.out.1]; exact HF.out.1, HF.out.2⟩
end Go.Proofs.YtoeggiplcaegoaaGreatDoor
