/- widen: Begin, Join; At, Wide, Text. -/
import Derived.Test.YtoeggiplcaegoaaGreatDoorMg10
namespace Go.Proofs.YtoeggiplcaegoaaGreatDoor
open Go.RowKit Go.ChangeShapes Go.WideShapes
/-- What a step of a cluster leaves: the pen, the cluster, its place. -/
def WDo (Yo : Zone) (w : World) (B gp gg gr wd g : Nat) (R : List Rw) (Ls : List Ln) (au : Bool) (l : List Int) (pc c2 : Bool) (r2 c2' : Nat) (pd2 : Bool) (w' : World) : Prop := ∃ R1, PenY Yo w' B gp gg gr wd R1 (plcL Ls wd r2 c2' pd2 au (gwI c2) l) (plcR Ls wd r2 c2' pd2 au (gwI c2) : Nat) (aftC (plcC wd c2' pd2 au (gwI c2) : Nat) (plcK wd (gwI c2)) wd) (aftP (plcC wd c2' pd2 au (gwI c2) : Nat) (plcK wd (gwI c2)) wd au) au ∧ WAt w' g l true pc c2 (gwI c2) (plcR Ls wd r2 c2' pd2 au (gwI c2) : Nat) (plcC wd c2' pd2 au (gwI c2) : Nat) false ∧ Upd (fun q => PZ w gp gr R q ∨ q = g) w w' ∧ RowsFrom w R R1
theorem PenY.new {Yo : Zone} {w : World} {B gp gg gr wd : Nat} {R : List Rw} {Ls : List Ln} {r c : Int} {pd au : Bool} (h : PenY Yo w B gp gg gr wd R Ls r c pd au) (o : Obj) : PenY (fun b => Yo b ∧ b ≠ w.heap.size) (w.alloc o) B gp gg gr wd R Ls r c pd au := ⟨h.1.alloc o, h.2.1, h.2.2.1.new2 o, h.2.2.2⟩
def wzero : List Value := wcl [] ++ wtl false false false 0 0 0 false
set_option maxRecDepth 100000 in
set_option maxHeartbeats 6000000 in
theorem wbegin_any {Yo : Zone} (B gp gg gr wd : Nat) (R : List Rw) (Ls : List Ln) (r c : Int) (pd au : Bool) (x br : Int) (pc : Bool) (cv ea : Int) (w : World) (h : PenY Yo w B gp gg gr wd R Ls r c pd au) (r2 c2' : Nat) (pd2 : Bool) (hr2 : inI r (sideI Ls.length) = (r2 : Int)) (hc2 : inI c (sideI wd) = (c2' : Int)) (hpd : holdP c pd wd = pd2) (hlr : r2 < Ls.length) (hlc : c2' < wd) :
    Calls Tryz.prog 15 #[.pointer (some ⟨gp, 0, none⟩), .int .i32 x, .agg #[.int .i64 br, .bool pc, .int .i64 cv, .int .i64 ea]] w (fun e w' => ∃ g, e = .returned (.pointer (some ⟨g, 0, none⟩)) ∧ w.heap.size ≤ g ∧ WDo (fun b => Yo b ∧ b ≠ g) w B gp gg gr wd g R Ls au [repl x] pc (widB false false (repl x) br pc ea) r2 c2' pd2 w') := by
  obtain ⟨W1, hW1, hp, hb⟩ := wgbox w br pc cv ea
  obtain ⟨gq, hgq⟩ : ∃ gq, gq = w.heap.size := ⟨_, rfl⟩
  rw [← hgq] at hp
  have HGQ := Lib.hid hgq
  have h1 := h.below hb
  obtain ⟨g, hg⟩ : ∃ g, g = W1.heap.size := ⟨_, rfl⟩
  obtain ⟨W2, hW2⟩ : ∃ W2, W2 = W1.alloc (.cells wzero.toArray 130) := ⟨_, rfl⟩
  have h2 : PenY (fun b => Yo b ∧ b ≠ g) W2 B gp gg gr wd R Ls r c pd au := by rw [hg, hW2]; exact h1.new _
  have hw2 : WAt W2 g [] false false false 0 0 0 false := ⟨by rw [hg, hW2]; exact Has.new W1 wzero 130, by decide⟩
  have hb2 : Below W1.heap.size W1 W2 := by rw [hW2]; exact (Below.refl _ _).alloc (Nat.le_refl _) _
  have HQ2 := Lib.hid (hp.below hb2 hp.lt)
  have B2 := Lib.hid (hb.trans (hb2.mono hb.size))
  have HW2 := Lib.hid (show W2 = W1.alloc (.cells #[Value.int .i64 0, .int .i32 0, .int .i32 0, .int .i32 0, .int .i32 0, .int .i32 0, .int .i32 0, .int .i32 0, .int .i32 0, .int .i32 0, .int .i32 0, .int .i32 0, .int .i32 0, .int .i32 0, .int .i32 0, .int .i32 0, .int .i32 0, .bool false, .bool false, .bool false, .int .i64 0, .int .i64 0, .int .i64 0, .bool false] 130) from hW2)
  have HGE := Lib.hid hg
  have HGW := Lib.hid (show w.heap.size ≤ g from by rw [hg]; exact hb.size)
  have H2 := Lib.hid h2
  have c0 := h1.1.cell 0 _ rfl
  have HG := Lib.hid (wgrow_any g [] false false false 0 0 0 false x br pc cv ea W2 hw2 (by decide))
  have HHR := Lib.hid hr2
  have HHC := Lib.hid hc2
  have HPD := Lib.hid hpd
  have HLR := Lib.hid hlr
  have HLC := Lib.hid hlc
  have HWAT := Lib.hid hw2
  clear h h1 hp hb hgq hg h2 hw2 hb2 hW2 hr2 hc2 hpd hlr hlc
  go_enter Tryz.func15, Tryz.ntmps15
  go_upto_region 1 with (fail)
  rw [← hW1, ← HGQ.out]
  clear hW1
  go_upto_region 4 with (fail)
  rw [← HW2.out]
  rw [← HGE.out]
  clear c0
  have q0 := HQ2.out.cell 0 _ rfl
  have q1 := HQ2.out.cell 1 _ rfl
  have q2 := HQ2.out.cell 2 _ rfl
  have q3 := HQ2.out.cell 3 _ rfl
  go_wp2_with fail
  refine HG.out.mono ?_
  rintro e w5 ⟨rfl, h5, u5⟩
  have HP5 := Lib.hid (H2.out.apart (fun _ h => h.2) HWAT.out.1 (Upd.ofBut u5))
  have HU5 := Lib.hid (show Upd (fun q => PZ w gp gr R q ∨ q = g) w w5 from (Upd.ofBelow B2.out).trans ((Upd.ofBut u5).mono fun b _ e => .inr e))
  clear q0 q1 q2 q3 u5 HG H2 HWAT
  rw [show ([] : List Int) ++ [repl x] = [repl x] from rfl, Bool.false_or] at h5
  obtain ⟨c2, hcc⟩ : ∃ c2, c2 = widB false false (repl x) br pc ea := ⟨_, rfl⟩
  obtain ⟨l2, hl2⟩ : ∃ l2, l2 = [repl x] := ⟨_, rfl⟩
  rw [← hcc, ← hl2] at h5
  obtain ⟨wv, hwv⟩ : ∃ wv, wv = gwI c2 := ⟨_, rfl⟩
  obtain ⟨LP, hLP⟩ : ∃ LP, LP = plcL Ls wd r2 c2' pd2 au (gwI c2) l2 := ⟨_, rfl⟩
  obtain ⟨KR, hKR⟩ : ∃ KR : Int, KR = (plcR Ls wd r2 c2' pd2 au (gwI c2) : Nat) := ⟨_, rfl⟩
  obtain ⟨KC, hKC⟩ : ∃ KC : Int, KC = (plcC wd c2' pd2 au (gwI c2) : Nat) := ⟨_, rfl⟩
  obtain ⟨AC, hAC⟩ : ∃ AC, AC = aftC (plcC wd c2' pd2 au (gwI c2) : Nat) (plcK wd (gwI c2)) wd := ⟨_, rfl⟩
  obtain ⟨AP, hAP⟩ : ∃ AP, AP = aftP (plcC wd c2' pd2 au (gwI c2) : Nat) (plcK wd (gwI c2)) wd au := ⟨_, rfl⟩
  have HPT := Lib.hid (show ∀ (w' : World) (v : Value), PenY (fun b => Yo b ∧ b ≠ g) w' B gp gg gr wd R Ls r c pd au → HeldE (intE .i32) (fun b => ¬ PZ w' gp gr R b) w' v l2 → Calls Tryz.prog 61 #[.pointer (some ⟨gp, 0, none⟩), .int .i64 wv, v] w' (fun e w2 => e = .returned (.agg #[.int .i64 KR, .int .i64 KC, .bool false]) ∧ PDoY (fun b => Yo b ∧ b ≠ g) w' B gp gg gr wd R LP KR AC AP au w2) from fun w' v h1 h2 => by
    rw [hwv, hLP, hKR, hKC, hAC, hAP]
    exact pput_any B gp gg gr wd R Ls r c pd au (gwI c2) v l2 w' h1 h2 r2 c2' pd2 HHR.out HHC.out HPD.out HLR.out HLC.out)
  rw [← hwv] at h5
  have HW5 := Lib.hid h5
  have HQQ := Lib.hid (And.intro hcc (And.intro hl2 (And.intro hwv (And.intro hLP (And.intro hKR (And.intro hKC (And.intro hAC hAP)))))))
  clear h5 hcc hl2 hwv hLP hKR hKC hAC hAP
  go_upto_region 5 with (fail)
  obtain ⟨Erg, hErg⟩ : ∃ EE : Nat → Value → World → Prop, EE = fun jj xx ww => match jj with
      | 0 => xx = .pointer (some ⟨g, 0, none⟩)
      | 1 => xx = .pointer (some ⟨gp, 0, none⟩)
      | 2 => xx = .pointer (some ⟨g, 0, none⟩)
      | 3 => xx = .pointer (some ⟨g, 0, none⟩)
      | 4 => xx = .pointer (some ⟨g, 20, none⟩)
      | 5 => xx = .int .i64 wv
      | 6 => xx = .pointer (some ⟨g, 0, none⟩)
      | 7 => xx = .pointer (some ⟨g, 0, none⟩)
      | 8 => xx = .pointer (some ⟨g, 0, none⟩)
      | 9 => (fun x w' => True) xx ww
      | 10 => xx = .agg #[.int .i64 KR, .int .i64 KC, .bool false]
      | 11 => xx = .pointer (some ⟨g, 0, none⟩)
      | 12 => xx = .pointer (some ⟨g, 21, none⟩)
      | 13 => xx = undef
      | _ => True := ⟨_, rfl⟩
  have erg0 : ∀ xx ww, Erg 0 xx ww = (xx = .pointer (some ⟨g, 0, none⟩)) := fun xx ww => congrFun (congrFun (congrFun hErg 0) xx) ww
  have erg1 : ∀ xx ww, Erg 1 xx ww = (xx = .pointer (some ⟨gp, 0, none⟩)) := fun xx ww => congrFun (congrFun (congrFun hErg 1) xx) ww
  have erg2 : ∀ xx ww, Erg 2 xx ww = (xx = .pointer (some ⟨g, 0, none⟩)) := fun xx ww => congrFun (congrFun (congrFun hErg 2) xx) ww
  have erg3 : ∀ xx ww, Erg 3 xx ww = (xx = .pointer (some ⟨g, 0, none⟩)) := fun xx ww => congrFun (congrFun (congrFun hErg 3) xx) ww
  have erg4 : ∀ xx ww, Erg 4 xx ww = (xx = .pointer (some ⟨g, 20, none⟩)) := fun xx ww => congrFun (congrFun (congrFun hErg 4) xx) ww
  have erg5 : ∀ xx ww, Erg 5 xx ww = (xx = .int .i64 wv) := fun xx ww => congrFun (congrFun (congrFun hErg 5) xx) ww
  have erg6 : ∀ xx ww, Erg 6 xx ww = (xx = .pointer (some ⟨g, 0, none⟩)) := fun xx ww => congrFun (congrFun (congrFun hErg 6) xx) ww
  have erg7 : ∀ xx ww, Erg 7 xx ww = (xx = .pointer (some ⟨g, 0, none⟩)) := fun xx ww => congrFun (congrFun (congrFun hErg 7) xx) ww
  have erg8 : ∀ xx ww, Erg 8 xx ww = (xx = .pointer (some ⟨g, 0, none⟩)) := fun xx ww => congrFun (congrFun (congrFun hErg 8) xx) ww
  have erg9 : ∀ xx ww, Erg 9 xx ww = ((fun x w' => True) xx ww) := fun xx ww => congrFun (congrFun (congrFun hErg 9) xx) ww
  have erg10 : ∀ xx ww, Erg 10 xx ww = (xx = .agg #[.int .i64 KR, .int .i64 KC, .bool false]) := fun xx ww => congrFun (congrFun (congrFun hErg 10) xx) ww
  have erg11 : ∀ xx ww, Erg 11 xx ww = (xx = .pointer (some ⟨g, 0, none⟩)) := fun xx ww => congrFun (congrFun (congrFun hErg 11) xx) ww
  have erg12 : ∀ xx ww, Erg 12 xx ww = (xx = .pointer (some ⟨g, 21, none⟩)) := fun xx ww => congrFun (congrFun (congrFun hErg 12) xx) ww
  have erg13 : ∀ xx ww, Erg 13 xx ww = (xx = undef) := fun xx ww => congrFun (congrFun (congrFun hErg 13) xx) ww
  obtain ⟨Crg, hCrg⟩ : ∃ CC : Array Bool → Value → World → Prop, CC = fun L8 x w' => Upd (fun q => PZ w5 gp gr R q ∨ q = g) w5 w' ∧ (Mix.one L8 10 = 0 → Below w5.heap.size w5 w') ∧ (Mix.one L8 9 = 1 → Mix.one L8 10 = 0 → HeldE (intE .i32) (fun b => w5.heap.size ≤ b) w' x l2) ∧ (Mix.one L8 10 = 1 → Mix.one L8 13 = 0 → ∃ R2, PenY (fun b => Yo b ∧ b ≠ g) w' B gp gg gr wd R2 LP KR AC AP au ∧ WAt w' g l2 true pc c2 wv 0 0 false ∧ RowsFrom w5 R R2) ∧ (Mix.one L8 13 = 1 → ∃ R2, PenY (fun b => Yo b ∧ b ≠ g) w' B gp gg gr wd R2 LP KR AC AP au ∧ WAt w' g l2 true pc c2 wv KR KC false ∧ RowsFrom w5 R R2) := ⟨_, rfl⟩
  have krg : ∀ i L {x : Value} w, i ≠ 9 → i ≠ 10 → i ≠ 13 →  Crg L x w → Crg (L.setIfInBounds i true) x w := by
    intro i L x w q9 q10 q13 h
    rw [hCrg] at h ⊢
    simp only [Mix.one_ne q9, Mix.one_ne q10, Mix.one_ne q13]; exact h
  obtain ⟨Xrg, hXrg⟩ : ∃ XX : World → World → Prop, XX = fun _ _ => True := ⟨_, rfl⟩
  have xrg : ∀ w, Xrg w w := fun w => by rw [hXrg]; exact trivial
  have strg : ∀ j x w w1, Xrg w w1 → Erg j x w → Erg j x w1 := by
    intro j x w w1 hx h
    rw [hXrg] at hx
    match j with
    | 0 => rw [erg0] at h ⊢; exact h
    | 1 => rw [erg1] at h ⊢; exact h
    | 2 => rw [erg2] at h ⊢; exact h
    | 3 => rw [erg3] at h ⊢; exact h
    | 4 => rw [erg4] at h ⊢; exact h
    | 5 => rw [erg5] at h ⊢; exact h
    | 6 => rw [erg6] at h ⊢; exact h
    | 7 => rw [erg7] at h ⊢; exact h
    | 8 => rw [erg8] at h ⊢; exact h
    | 9 => rw [erg9] at h ⊢; (exact h)
    | 10 => rw [erg10] at h ⊢; exact h
    | 11 => rw [erg11] at h ⊢; exact h
    | 12 => rw [erg12] at h ⊢; exact h
    | 13 => rw [erg13] at h ⊢; exact h
    | j + 14 => rw [hErg]; trivial
  have crg : ∀ x, Crg (Array.replicate 14 false) x w5.drew := fun x => by rw [hCrg]; exact ⟨(Upd.refl _ _).drew, fun _ => (Below.refl _ _).drew, fun e => absurd e (by decide), fun e => absurd e (by decide), fun e => absurd e (by decide)⟩
  have brg : ∀ L {x : Value} w w1, Crg L x w → Below w.heap.size w w1 → Crg L x w1 := by
    intro L x w w1 h hb
    rw [hCrg] at h ⊢
    (obtain ⟨q1, q2, q3, q4, q5⟩ := h; exact ⟨q1.trans (.ofBelow hb), fun e => (q2 e).trans (hb.mono (q2 e).size), fun e f => (q3 e f).below hb, fun e f => by obtain ⟨a1, h1, h2, h3⟩ := q4 e f; exact ⟨a1, h1.below hb, h2.below hb, h3⟩, fun e => by obtain ⟨a1, h1, h2, h3⟩ := q5 e; exact ⟨a1, h1.below hb, h2.below hb, h3⟩⟩)
  have xbrg : ∀ w w1, Below w.heap.size w w1 → Xrg w w1 := by
    intro w w1 hb
    rw [hXrg]
    trivial
  have Hrgb : Go.RowKit.Hid (∀ L {x : Value} w w1, Crg L x w → Below w.heap.size w w1 → Crg L x w1) := @brg
  have Hrgxb := Lib.hid xbrg
  clear brg xbrg
  clear hErg
  have Hrgk : Go.RowKit.Hid (∀ i L {x : Value} w, i ≠ 9 → i ≠ 10 → i ≠ 13 →  Crg L x w → Crg (L.setIfInBounds i true) x w) := @krg
  have Hrgx := Lib.hid xrg
  have Hrgst := Lib.hid strg
  have Hrgc := Lib.hid crg
  have HrghC := Lib.hid hCrg
  have HrghX := Lib.hid hXrg
  have Hrge0 := Lib.hid erg0
  have Hrge1 := Lib.hid erg1
  have Hrge2 := Lib.hid erg2
  have Hrge3 := Lib.hid erg3
  have Hrge4 := Lib.hid erg4
  have Hrge5 := Lib.hid erg5
  have Hrge6 := Lib.hid erg6
  have Hrge7 := Lib.hid erg7
  have Hrge8 := Lib.hid erg8
  have Hrge9 := Lib.hid erg9
  have Hrge10 := Lib.hid erg10
  have Hrge11 := Lib.hid erg11
  have Hrge12 := Lib.hid erg12
  have Hrge13 := Lib.hid erg13
  clear krg xrg strg crg hCrg hXrg erg0 erg1 erg2 erg3 erg4 erg5 erg6 erg7 erg8 erg9 erg10 erg11 erg12 erg13
  go_wp2_with fail
  refine RegC.regionF 9 Erg Crg Xrg Hrgst.out (by kernel_rfl) (by kernel_rfl) (by kernel_rfl) Hrgc.out (fun Frg hFrg => ?_)
  simp only [Reg.frame, Reg.dsts, List.map_cons, List.map_nil, Mix.put_lit, Reg.put_none, List.set_cons_succ, List.set_cons_zero, Nat.zero_add, Nat.reduceAdd] at hFrg
  refine ⟨?_, ?_⟩
  · refine ⟨?_, ?_, ?_, ?_, ?_, ?_, ?_, ?_, ?_, ?_, ?_, ?_, ?_, ?_, trivial⟩
    · intro Lq wq xq hh
      simp only [hFrg]
      refine .inl ⟨rfl, ?_⟩
      unfold Reg.upon
      have hk := Hrgk.out 0 Lq wq (by decide) (by decide) (by decide)  hh.cls
      have hx := Hrgx.out wq
      have he : Erg 0 (.pointer (some ⟨g, 0, none⟩)) wq := by rw [Hrge0.out]
      have HK := Lib.hid (And.intro hk (And.intro he hx))
      clear hk hx he
      go_simp
      exact HK.out
    · intro Lq wq xq hh
      simp only [hFrg]
      refine .inl ⟨rfl, ?_⟩
      unfold Reg.upon
      have hk := Hrgk.out 1 Lq wq (by decide) (by decide) (by decide)  hh.cls
      have hx := Hrgx.out wq
      have he : Erg 1 (.pointer (some ⟨gp, 0, none⟩)) wq := by rw [Hrge1.out]
      have HK := Lib.hid (And.intro hk (And.intro he hx))
      clear hk hx he
      go_simp
      exact HK.out
    · intro Lq wq xq hh
      simp only [hFrg]
      refine .inl ⟨rfl, ?_⟩
      unfold Reg.upon
      have hk := Hrgk.out 2 Lq wq (by decide) (by decide) (by decide)  hh.cls
      have hx := Hrgx.out wq
      have he : Erg 2 (.pointer (some ⟨g, 0, none⟩)) wq := by rw [Hrge2.out]
      have HK := Lib.hid (And.intro hk (And.intro he hx))
      clear hk hx he
      go_simp
      exact HK.out
    · intro Lq wq xq hh
      have d2 : Erg 2 (xq 2) wq := hh.val 2 (by kernel_rfl) (by kernel_rfl)
      rw [Hrge2.out] at d2
      simp only [hFrg, d2]
      clear d2
      refine .inl ⟨rfl, ?_⟩
      unfold Reg.upon
      have hk := Hrgk.out 3 Lq wq (by decide) (by decide) (by decide)  hh.cls
      have hx := Hrgx.out wq
      have he : Erg 3 (.pointer (some ⟨g, 0, none⟩)) wq := by rw [Hrge3.out]
      have HK := Lib.hid (And.intro hk (And.intro he hx))
      clear hk hx he
      go_simp
      exact HK.out
    · intro Lq wq xq hh
      have d3 : Erg 3 (xq 3) wq := hh.val 3 (by kernel_rfl) (by kernel_rfl)
      rw [Hrge3.out] at d3
      simp only [hFrg, d3]
      clear d3
      refine .inl ⟨rfl, ?_⟩
      unfold Reg.upon
      have hk := Hrgk.out 4 Lq wq (by decide) (by decide) (by decide)  hh.cls
      have hx := Hrgx.out wq
      have he : Erg 4 (.pointer (some ⟨g, 20, none⟩)) wq := by rw [Hrge4.out]
      have HK := Lib.hid (And.intro hk (And.intro he hx))
      clear hk hx he
      go_simp
      exact HK.out
    · intro Lq wq xq hh
      have d4 : Erg 4 (xq 4) wq := hh.val 4 (by kernel_rfl) (by kernel_rfl)
      rw [Hrge4.out] at d4
      simp only [hFrg, d4]
      clear d4
      refine .inl ⟨rfl, ?_⟩
      unfold Reg.upon
      have hc : Crg Lq (xq 9) wq := hh.cls
      rw [HrghC.out] at hc
      have hq := HW5.out.below (hc.2.1 (Mix.one_un (hh.notYet 10 (by kernel_rfl))))
      have q0 := hq.cells.2.2.2.2.1
      clear hc
      have hk := Hrgk.out 5 Lq wq (by decide) (by decide) (by decide)  hh.cls
      have hx := Hrgx.out wq
      have he : Erg 5 (.int .i64 wv) wq := by rw [Hrge5.out]
      have HK := Lib.hid (And.intro hk (And.intro he hx))
      clear hk hx he
      go_simp
      exact HK.out
    · intro Lq wq xq hh
      simp only [hFrg]
      refine .inl ⟨rfl, ?_⟩
      unfold Reg.upon
      have hk := Hrgk.out 6 Lq wq (by decide) (by decide) (by decide)  hh.cls
      have hx := Hrgx.out wq
      have he : Erg 6 (.pointer (some ⟨g, 0, none⟩)) wq := by rw [Hrge6.out]
      have HK := Lib.hid (And.intro hk (And.intro he hx))
      clear hk hx he
      go_simp
      exact HK.out
    · intro Lq wq xq hh
      have d6 : Erg 6 (xq 6) wq := hh.val 6 (by kernel_rfl) (by kernel_rfl)
      rw [Hrge6.out] at d6
      simp only [hFrg, d6]
      clear d6
      refine .inl ⟨rfl, ?_⟩
      unfold Reg.upon
      have hk := Hrgk.out 7 Lq wq (by decide) (by decide) (by decide)  hh.cls
      have hx := Hrgx.out wq
      have he : Erg 7 (.pointer (some ⟨g, 0, none⟩)) wq := by rw [Hrge7.out]
      have HK := Lib.hid (And.intro hk (And.intro he hx))
      clear hk hx he
      go_simp
      exact HK.out
    · intro Lq wq xq hh
      have d7 : Erg 7 (xq 7) wq := hh.val 7 (by kernel_rfl) (by kernel_rfl)
      rw [Hrge7.out] at d7
      simp only [hFrg, d7]
      clear d7
      refine .inl ⟨rfl, ?_⟩
      unfold Reg.upon
      have hk := Hrgk.out 8 Lq wq (by decide) (by decide) (by decide)  hh.cls
      have hx := Hrgx.out wq
      have he : Erg 8 (.pointer (some ⟨g, 0, none⟩)) wq := by rw [Hrge8.out]
      have HK := Lib.hid (And.intro hk (And.intro he hx))
      clear hk hx he
      go_simp
      exact HK.out
    · intro Lq wq xq hh
      have d8 : Erg 8 (xq 8) wq := hh.val 8 (by kernel_rfl) (by kernel_rfl)
      rw [Hrge8.out] at d8
      simp only [hFrg, d8]
      clear d8
      refine .inl ⟨rfl, ?_⟩
      unfold Reg.upon
      have hc : Crg Lq (xq 9) wq := hh.cls
      rw [HrghC.out] at hc
      have hb := hc.2.1 (Mix.one_un (hh.notYet 10 (by kernel_rfl)))
      have hq := wtext_any (HW5.out.below hb)
      go_simp
      refine hq.mono ?_
      rintro e w2 ⟨v9, rfl, ho, b9⟩
      have hH : HeldE (intE .i32) (fun b => w5.heap.size ≤ b) w2 v9 l2 := (HeldE.ownedInts ho).zone fun b _ hz => Nat.le_trans hb.size hz
      have hF : Crg (Lq.setIfInBounds 9 true) v9 w2 := by
        rw [HrghC.out]
        refine ⟨hc.1.trans (.ofBelow b9), fun _ => hb.trans (b9.mono hb.size), fun _ _ => hH, fun e => ?_, fun e => ?_⟩
        · rw [Mix.one_ne (by decide), Mix.one_un (hh.notYet 10 (by kernel_rfl))] at e
          exact absurd e (by decide)
        · rw [Mix.one_ne (by decide), Mix.one_un (hh.notYet 13 (by kernel_rfl))] at e
          exact absurd e (by decide)
      exact ⟨_, rfl, hF, (by rw [Hrge9.out]; trivial), (by rw [HrghX.out]; trivial)⟩
    · intro Lq wq xq hh
      have d1 : Erg 1 (xq 1) wq := hh.val 1 (by kernel_rfl) (by kernel_rfl)
      rw [Hrge1.out] at d1
      have d5 : Erg 5 (xq 5) wq := hh.val 5 (by kernel_rfl) (by kernel_rfl)
      rw [Hrge5.out] at d5
      have d9 : Erg 9 (xq 9) wq := hh.val 9 (by kernel_rfl) (by kernel_rfl)
      rw [Hrge9.out] at d9
      simp only [hFrg, d1, d5]
      clear d1 d5
      refine .inl ⟨rfl, ?_⟩
      unfold Reg.upon
      have hc : Crg Lq (xq 9) wq := hh.cls
      rw [HrghC.out] at hc
      have hb := hc.2.1 hh.un
      have ht := hc.2.2.1 (hh.isDone 9 (by kernel_rfl)) hh.un
      have hp := HP5.out.below hb
      have hw := HW5.out.below hb
      go_simp
      refine (HPT.out wq (xq 9) hp (wid_text HP5.out ht)).mono ?_
      rintro e w2 ⟨rfl, R2, k1, k2, k3⟩
      have hF : Crg (Lq.setIfInBounds 10 true) (xq 9) w2 := by
        rw [HrghC.out]
        refine ⟨hc.1.trans (k2.mono fun b _ e => .inl (PZ.from (RowsFrom.self _ _) hb.size b e)), fun e => ?_, fun _ e => ?_, fun _ _ => ⟨R2, k1, ⟨k2.keep.has hw.1 (wid_off hp hw.1), hw.2⟩, (RowsFrom.self w5 R).trans k3 hb.size⟩, fun e => ?_⟩
        · rw [Mix.one_set (by rw [hh.size]; decide)] at e
          exact absurd e (by decide)
        · rw [Mix.one_set (by rw [hh.size]; decide)] at e
          exact absurd e (by decide)
        · rw [Mix.one_ne (by decide), Mix.one_un (hh.notYet 13 (by kernel_rfl))] at e
          exact absurd e (by decide)
      exact ⟨_, rfl, hF, (by rw [Hrge10.out]), (by rw [HrghX.out]; trivial)⟩
    · intro Lq wq xq hh
      have d0 : Erg 0 (xq 0) wq := hh.val 0 (by kernel_rfl) (by kernel_rfl)
      rw [Hrge0.out] at d0
      simp only [hFrg, d0]
      clear d0
      refine .inl ⟨rfl, ?_⟩
      unfold Reg.upon
      have hk := Hrgk.out 11 Lq wq (by decide) (by decide) (by decide)  hh.cls
      have hx := Hrgx.out wq
      have he : Erg 11 (.pointer (some ⟨g, 0, none⟩)) wq := by rw [Hrge11.out]
      have HK := Lib.hid (And.intro hk (And.intro he hx))
      clear hk hx he
      go_simp
      exact HK.out
    · intro Lq wq xq hh
      have d11 : Erg 11 (xq 11) wq := hh.val 11 (by kernel_rfl) (by kernel_rfl)
      rw [Hrge11.out] at d11
      simp only [hFrg, d11]
      clear d11
      refine .inl ⟨rfl, ?_⟩
      unfold Reg.upon
      have hk := Hrgk.out 12 Lq wq (by decide) (by decide) (by decide)  hh.cls
      have hx := Hrgx.out wq
      have he : Erg 12 (.pointer (some ⟨g, 21, none⟩)) wq := by rw [Hrge12.out]
      have HK := Lib.hid (And.intro hk (And.intro he hx))
      clear hk hx he
      go_simp
      exact HK.out
    · intro Lq wq xq hh
      have d10 : Erg 10 (xq 10) wq := hh.val 10 (by kernel_rfl) (by kernel_rfl)
      rw [Hrge10.out] at d10
      have d12 : Erg 12 (xq 12) wq := hh.val 12 (by kernel_rfl) (by kernel_rfl)
      rw [Hrge12.out] at d12
      simp only [hFrg, d10, d12]
      clear d10 d12
      refine .inl ⟨rfl, ?_⟩
      unfold Reg.upon
      have hc : Crg Lq (xq 9) wq := hh.cls
      rw [HrghC.out] at hc
      obtain ⟨R2, k1, k2, k3⟩ := hc.2.2.2.1 (hh.isDone 10 (by kernel_rfl)) hh.un
      obtain ⟨_, _, _, _, _, s0, s1, s2⟩ := k2.cells
      have f0 := k2.1.free 21
      have f1 := k2.1.free 22
      have f2 := k2.1.free 23
      have hpl := k2.place KR KC false
      have hF : Crg (Lq.setIfInBounds 13 true) (xq 9) (((wq.setCell ⟨g, 21, none⟩ (.int .i64 KR)).setCell ⟨g, 22, none⟩ (.int .i64 KC)).setCell ⟨g, 23, none⟩ (.bool false)) := by
        rw [HrghC.out]
        refine ⟨hc.1.trans (hpl.2.mono fun b _ e => .inr e), fun e => ?_, fun _ e => ?_, fun _ e => ?_, fun _ => ⟨R2, k1.apart (fun _ h => h.2) k2.1 hpl.2, hpl.1, k3⟩⟩
        · rw [Mix.one_ne (by decide), hh.isDone 10 (by kernel_rfl)] at e
          exact absurd e (by decide)
        · rw [Mix.one_ne (by decide), hh.isDone 10 (by kernel_rfl)] at e
          exact absurd e (by decide)
        · rw [Mix.one_set (by rw [hh.size]; decide)] at e
          exact absurd e (by decide)
      have hE : Erg 13 undef (((wq.setCell ⟨g, 21, none⟩ (.int .i64 KR)).setCell ⟨g, 22, none⟩ (.int .i64 KC)).setCell ⟨g, 23, none⟩ (.bool false)) := by rw [Hrge13.out]
      have hX : Xrg wq (((wq.setCell ⟨g, 21, none⟩ (.int .i64 KR)).setCell ⟨g, 22, none⟩ (.int .i64 KC)).setCell ⟨g, 23, none⟩ (.bool false)) := by rw [HrghX.out]; trivial
      clear hc k1 k2 k3 hpl
      go_simp
      exact ⟨hF, hE, hX⟩
  intro xq wrg hcrg hvrg
  rw [HrghC.out] at hcrg
  simp only [hFrg]
  clear hvrg hFrg Hrgk Hrgx Hrgst Hrgc HrghC HrghX Hrgb Hrgxb Hrge0 Hrge1 Hrge2 Hrge3 Hrge4 Hrge5 Hrge6 Hrge7 Hrge8 Hrge9 Hrge10 Hrge11 Hrge12 Hrge13
  obtain ⟨u9, _, _, _, h9⟩ := hcrg
  obtain ⟨R2, k1, k2, k3⟩ := h9 (by kernel_rfl)
  have HF := Lib.hid (show WDo (fun b => Yo b ∧ b ≠ g) w B gp gg gr wd g R Ls au [repl x] pc (widB false false (repl x) br pc ea) r2 c2' pd2 wrg from by
    obtain ⟨t1, t2, t3, t4, t5, t6, t7, t8⟩ := HQQ.out
    rw [t3] at k2
    rw [t4, t5, t7, t8] at k1
    rw [t5, t6] at k2
    rw [t1, t2] at k1 k2
    exact ⟨R2, k1, k2, HU5.out.trans (u9.mono fun b _ e => by rcases e with e | e; exact .inl (PZ.from (RowsFrom.self _ _) HU5.out.size b e); exact .inr e), (RowsFrom.self w R).trans k3 HU5.out.size⟩)
  clear u9 h9 k1 k2 k3
  go_wp2
  go_ret
  exact ⟨g, (ret_eq (by first | rfl | (simp <;> omega))), HGW.out, HF.out⟩
theorem in_own {n : Nat} (k : Nat) (h : k < n) (hn : n ≤ 1024) : inI k (sideI n) = (k : Int) := by
  have hs : sideI n = (n : Int) := by unfold sideI; omega
  rw [hs]
  unfold inI
  repeat' split
  all_goals omega
set_option maxRecDepth 100000 in
set_option maxHeartbeats 6000000 in
theorem wjoin_any {Yo : Zone} (B gp gg gr wd : Nat) (R : List Rw) (Ls : List Ln) (r c : Int) (pd au : Bool) (g : Nat) (l : List Int) (a b cw : Bool) (wv0 : Int) (ar ac : Nat) (x br : Int) (pc : Bool) (cv ea : Int) (w : World) (h : PenY Yo w B gp gg gr wd R Ls r c pd au) (hw : WAt w g l a b cw wv0 ar ac false) (hl : l.length < 16) (har : ar < Ls.length) (hac : ac < wd) (hne : ∀ b, Yo b → b ≠ g) :
    Calls Tryz.prog 16 #[.pointer (some ⟨g, 0, none⟩), .pointer (some ⟨gp, 0, none⟩), .int .i32 x, .agg #[.int .i64 br, .bool pc, .int .i64 cv, .int .i64 ea]] w (fun e w' => e = .returned (.bool true) ∧ WDo Yo w B gp gg gr wd g R Ls au (l ++ [repl x]) pc (cw || widB a b (repl x) br pc ea) ar ac false w') := by
  obtain ⟨W1, hW1, hp, hb⟩ := wgbox w br pc cv ea
  obtain ⟨gq, hgq⟩ : ∃ gq, gq = w.heap.size := ⟨_, rfl⟩
  rw [← hgq] at hp
  have HGQ := Lib.hid hgq
  have hsz := h.sizes
  have h1 := h.below hb
  have hw1 := hw.below hb
  have HQ1 := Lib.hid hp
  have HGN := Lib.hid (show gq ≠ g from by have := hw.lt; omega)
  have B1 := Lib.hid hb
  have H1 := Lib.hid h1
  have HWA := Lib.hid hw1
  have HFU := Lib.hid (wfull_any hw1 false (by simp; omega))
  have HG := Lib.hid (wgrow_any g l a b cw wv0 ar ac false x br pc cv ea W1 hw1 hl)
  have HHR := Lib.hid (in_own ar har hsz.2.1)
  have HHC := Lib.hid (in_own ac hac hsz.2.2.2.1)
  have HLR := Lib.hid har
  have HLC := Lib.hid hac
  have HNE := Lib.hid hne
  have c0 := h1.1.cell 0 _ rfl
  have q0 := hp.cell 0 _ rfl
  have q1 := hp.cell 1 _ rfl
  have q2 := hp.cell 2 _ rfl
  have q3 := hp.cell 3 _ rfl
  clear h hw h1 hw1 hp hb hgq hl har hac hsz hne
  go_enter Tryz.func16, Tryz.ntmps16
  go_upto_region 1 with (fail)
  rw [← hW1, ← HGQ.out]
  clear hW1
  go_wp2_with fail
  refine HFU.out.mono ?_
  rintro e wz ⟨rfl, rfl⟩
  go_wp2_with fail
  refine HG.out.mono ?_
  rintro e w4 ⟨rfl, h4, u4⟩
  have hp4 := H1.out.apart HNE.out HWA.out.1 (Upd.ofBut u4)
  have HU4 := Lib.hid (show Upd (fun q => PZ w gp gr R q ∨ q = g) w w4 from (Upd.ofBelow B1.out).trans ((Upd.ofBut u4).mono fun b _ e => .inr e))
  obtain ⟨y, hy⟩ : ∃ y, y = repl x := ⟨_, rfl⟩
  obtain ⟨c2, hcc⟩ : ∃ c2, c2 = (cw || widB a b (repl x) br pc ea) := ⟨_, rfl⟩
  obtain ⟨l2, hl2⟩ : ∃ l2, l2 = l ++ [repl x] := ⟨_, rfl⟩
  rw [← hcc, ← hl2] at h4
  obtain ⟨_, _, _, _, _, z1, z2, z3⟩ := h4.cells
  have p1 := hp4.1.cell 1 _ rfl
  have p2 := hp4.1.cell 2 _ rfl
  have p3 := hp4.1.cell 3 _ rfl
  have f1 := hp4.1.free 1
  have f2 := hp4.1.free 2
  have f3 := hp4.1.free 3
  have hs5 := pen_set3 hp4.1 (.int .i64 ar) (.int .i64 ac) (.bool false)
  obtain ⟨w5, hW5⟩ : ∃ w5, w5 = (((w4.setCell ⟨gp, 1, none⟩ (.int .i64 ar)).setCell ⟨gp, 2, none⟩ (.int .i64 ac)).setCell ⟨gp, 3, none⟩ (.bool false)) := ⟨_, rfl⟩
  rw [← hW5] at hs5
  have hngp : g ≠ gp := fun e => by subst e; exact other_type h4.1 hp4.1 (by decide)
  have h5 : WAt w5 g l2 true pc c2 (gwI c2) ar ac false := ⟨hs5.2.keep.has h4.1 hngp, h4.2⟩
  have HP5 := Lib.hid (show PenY Yo w5 B gp gg gr wd R Ls ar ac false au from hp4.turn hs5.1 hs5.2)
  have HU5 := Lib.hid (show Upd (fun q => PZ w gp gr R q ∨ q = g) w w5 from HU4.out.trans (hs5.2.mono fun b _ e => .inl (.inl e)))
  have HW5' := Lib.hid hW5
  clear h4 hp4 u4 hs5 hW5 hngp q0 q1 q2 q3 c0 HG HFU H1 HWA HU4 hy
  obtain ⟨wv, hwv⟩ : ∃ wv, wv = gwI c2 := ⟨_, rfl⟩
  obtain ⟨LP, hLP⟩ : ∃ LP, LP = plcL Ls wd ar ac false au (gwI c2) l2 := ⟨_, rfl⟩
  obtain ⟨KR, hKR⟩ : ∃ KR : Int, KR = (plcR Ls wd ar ac false au (gwI c2) : Nat) := ⟨_, rfl⟩
  obtain ⟨KC, hKC⟩ : ∃ KC : Int, KC = (plcC wd ac false au (gwI c2) : Nat) := ⟨_, rfl⟩
  obtain ⟨AC, hAC⟩ : ∃ AC, AC = aftC (plcC wd ac false au (gwI c2) : Nat) (plcK wd (gwI c2)) wd := ⟨_, rfl⟩
  obtain ⟨AP, hAP⟩ : ∃ AP, AP = aftP (plcC wd ac false au (gwI c2) : Nat) (plcK wd (gwI c2)) wd au := ⟨_, rfl⟩
  have HPT := Lib.hid (show ∀ (w' : World) (v : Value), PenY Yo w' B gp gg gr wd R Ls ar ac false au → HeldE (intE .i32) (fun b => ¬ PZ w' gp gr R b) w' v l2 → Calls Tryz.prog 61 #[.pointer (some ⟨gp, 0, none⟩), .int .i64 wv, v] w' (fun e w2 => e = .returned (.agg #[.int .i64 KR, .int .i64 KC, .bool false]) ∧ PDoY Yo w' B gp gg gr wd R LP KR AC AP au w2) from fun w' v h1 h2 => by
    rw [hwv, hLP, hKR, hKC, hAC, hAP]
    exact pput_any B gp gg gr wd R Ls ar ac false au (gwI c2) v l2 w' h1 h2 ar ac false HHR.out HHC.out rfl HLR.out HLC.out)
  rw [← hwv] at h5
  have HW5 := Lib.hid h5
  have HQQ := Lib.hid (And.intro hcc (And.intro hl2 (And.intro hwv (And.intro hLP (And.intro hKR (And.intro hKC (And.intro hAC hAP)))))))
  clear h5 hcc hl2 hwv hLP hKR hKC hAC hAP
  go_upto_region 5 with (fail)
  rw [← HW5'.out]
  clear z1 z2 z3 p1 p2 p3 f1 f2 f3 HW5'
  obtain ⟨Erg, hErg⟩ : ∃ EE : Nat → Value → World → Prop, EE = fun jj xx ww => match jj with
      | 0 => xx = .pointer (some ⟨g, 0, none⟩)
      | 1 => xx = .pointer (some ⟨gp, 0, none⟩)
      | 2 => xx = .pointer (some ⟨g, 0, none⟩)
      | 3 => xx = .pointer (some ⟨g, 0, none⟩)
      | 4 => xx = .pointer (some ⟨g, 20, none⟩)
      | 5 => xx = .int .i64 wv
      | 6 => xx = .pointer (some ⟨g, 0, none⟩)
      | 7 => xx = .pointer (some ⟨g, 0, none⟩)
      | 8 => xx = .pointer (some ⟨g, 0, none⟩)
      | 9 => (fun x w' => True) xx ww
      | 10 => xx = .agg #[.int .i64 KR, .int .i64 KC, .bool false]
      | 11 => xx = .pointer (some ⟨g, 0, none⟩)
      | 12 => xx = .pointer (some ⟨g, 21, none⟩)
      | 13 => xx = undef
      | _ => True := ⟨_, rfl⟩
  have erg0 : ∀ xx ww, Erg 0 xx ww = (xx = .pointer (some ⟨g, 0, none⟩)) := fun xx ww => congrFun (congrFun (congrFun hErg 0) xx) ww
  have erg1 : ∀ xx ww, Erg 1 xx ww = (xx = .pointer (some ⟨gp, 0, none⟩)) := fun xx ww => congrFun (congrFun (congrFun hErg 1) xx) ww
  have erg2 : ∀ xx ww, Erg 2 xx ww = (xx = .pointer (some ⟨g, 0, none⟩)) := fun xx ww => congrFun (congrFun (congrFun hErg 2) xx) ww
  have erg3 : ∀ xx ww, Erg 3 xx ww = (xx = .pointer (some ⟨g, 0, none⟩)) := fun xx ww => congrFun (congrFun (congrFun hErg 3) xx) ww
  have erg4 : ∀ xx ww, Erg 4 xx ww = (xx = .pointer (some ⟨g, 20, none⟩)) := fun xx ww => congrFun (congrFun (congrFun hErg 4) xx) ww
  have erg5 : ∀ xx ww, Erg 5 xx ww = (xx = .int .i64 wv) := fun xx ww => congrFun (congrFun (congrFun hErg 5) xx) ww
  have erg6 : ∀ xx ww, Erg 6 xx ww = (xx = .pointer (some ⟨g, 0, none⟩)) := fun xx ww => congrFun (congrFun (congrFun hErg 6) xx) ww
  have erg7 : ∀ xx ww, Erg 7 xx ww = (xx = .pointer (some ⟨g, 0, none⟩)) := fun xx ww => congrFun (congrFun (congrFun hErg 7) xx) ww
  have erg8 : ∀ xx ww, Erg 8 xx ww = (xx = .pointer (some ⟨g, 0, none⟩)) := fun xx ww => congrFun (congrFun (congrFun hErg 8) xx) ww
  have erg9 : ∀ xx ww, Erg 9 xx ww = ((fun x w' => True) xx ww) := fun xx ww => congrFun (congrFun (congrFun hErg 9) xx) ww
  have erg10 : ∀ xx ww, Erg 10 xx ww = (xx = .agg #[.int .i64 KR, .int .i64 KC, .bool false]) := fun xx ww => congrFun (congrFun (congrFun hErg 10) xx) ww
  have erg11 : ∀ xx ww, Erg 11 xx ww = (xx = .pointer (some ⟨g, 0, none⟩)) := fun xx ww => congrFun (congrFun (congrFun hErg 11) xx) ww
  have erg12 : ∀ xx ww, Erg 12 xx ww = (xx = .pointer (some ⟨g, 21, none⟩)) := fun xx ww => congrFun (congrFun (congrFun hErg 12) xx) ww
  have erg13 : ∀ xx ww, Erg 13 xx ww = (xx = undef) := fun xx ww => congrFun (congrFun (congrFun hErg 13) xx) ww
  obtain ⟨Crg, hCrg⟩ : ∃ CC : Array Bool → Value → World → Prop, CC = fun L8 x w' => Upd (fun q => PZ w5 gp gr R q ∨ q = g) w5 w' ∧ (Mix.one L8 10 = 0 → Below w5.heap.size w5 w') ∧ (Mix.one L8 9 = 1 → Mix.one L8 10 = 0 → HeldE (intE .i32) (fun b => w5.heap.size ≤ b) w' x l2) ∧ (Mix.one L8 10 = 1 → Mix.one L8 13 = 0 → ∃ R2, PenY Yo w' B gp gg gr wd R2 LP KR AC AP au ∧ WAt w' g l2 true pc c2 wv ar ac false ∧ RowsFrom w5 R R2) ∧ (Mix.one L8 13 = 1 → ∃ R2, PenY Yo w' B gp gg gr wd R2 LP KR AC AP au ∧ WAt w' g l2 true pc c2 wv KR KC false ∧ RowsFrom w5 R R2) := ⟨_, rfl⟩
  have krg : ∀ i L {x : Value} w, i ≠ 9 → i ≠ 10 → i ≠ 13 →  Crg L x w → Crg (L.setIfInBounds i true) x w := by
    intro i L x w q9 q10 q13 h
    rw [hCrg] at h ⊢
    simp only [Mix.one_ne q9, Mix.one_ne q10, Mix.one_ne q13]; exact h
  obtain ⟨Xrg, hXrg⟩ : ∃ XX : World → World → Prop, XX = fun _ _ => True := ⟨_, rfl⟩
  have xrg : ∀ w, Xrg w w := fun w => by rw [hXrg]; exact trivial
  have strg : ∀ j x w w1, Xrg w w1 → Erg j x w → Erg j x w1 := by
    intro j x w w1 hx h
    rw [hXrg] at hx
    match j with
    | 0 => rw [erg0] at h ⊢; exact h
    | 1 => rw [erg1] at h ⊢; exact h
    | 2 => rw [erg2] at h ⊢; exact h
    | 3 => rw [erg3] at h ⊢; exact h
    | 4 => rw [erg4] at h ⊢; exact h
    | 5 => rw [erg5] at h ⊢; exact h
    | 6 => rw [erg6] at h ⊢; exact h
    | 7 => rw [erg7] at h ⊢; exact h
    | 8 => rw [erg8] at h ⊢; exact h
    | 9 => rw [erg9] at h ⊢; (exact h)
    | 10 => rw [erg10] at h ⊢; exact h
    | 11 => rw [erg11] at h ⊢; exact h
    | 12 => rw [erg12] at h ⊢; exact h
    | 13 => rw [erg13] at h ⊢; exact h
    | j + 14 => rw [hErg]; trivial
  have crg : ∀ x, Crg (Array.replicate 14 false) x w5.drew := fun x => by rw [hCrg]; exact ⟨(Upd.refl _ _).drew, fun _ => (Below.refl _ _).drew, fun e => absurd e (by decide), fun e => absurd e (by decide), fun e => absurd e (by decide)⟩
  have brg : ∀ L {x : Value} w w1, Crg L x w → Below w.heap.size w w1 → Crg L x w1 := by
    intro L x w w1 h hb
    rw [hCrg] at h ⊢
    (obtain ⟨q1, q2, q3, q4, q5⟩ := h; exact ⟨q1.trans (.ofBelow hb), fun e => (q2 e).trans (hb.mono (q2 e).size), fun e f => (q3 e f).below hb, fun e f => by obtain ⟨a1, h1, h2, h3⟩ := q4 e f; exact ⟨a1, h1.below hb, h2.below hb, h3⟩, fun e => by obtain ⟨a1, h1, h2, h3⟩ := q5 e; exact ⟨a1, h1.below hb, h2.below hb, h3⟩⟩)
  have xbrg : ∀ w w1, Below w.heap.size w w1 → Xrg w w1 := by
    intro w w1 hb
    rw [hXrg]
    trivial
  have Hrgb : Go.RowKit.Hid (∀ L {x : Value} w w1, Crg L x w → Below w.heap.size w w1 → Crg L x w1) := @brg
  have Hrgxb := Lib.hid xbrg
  clear brg xbrg
  clear hErg
  have Hrgk : Go.RowKit.Hid (∀ i L {x : Value} w, i ≠ 9 → i ≠ 10 → i ≠ 13 →  Crg L x w → Crg (L.setIfInBounds i true) x w) := @krg
  have Hrgx := Lib.hid xrg
  have Hrgst := Lib.hid strg
  have Hrgc := Lib.hid crg
  have HrghC := Lib.hid hCrg
  have HrghX := Lib.hid hXrg
  have Hrge0 := Lib.hid erg0
  have Hrge1 := Lib.hid erg1
  have Hrge2 := Lib.hid erg2
  have Hrge3 := Lib.hid erg3
  have Hrge4 := Lib.hid erg4
  have Hrge5 := Lib.hid erg5
  have Hrge6 := Lib.hid erg6
  have Hrge7 := Lib.hid erg7
  have Hrge8 := Lib.hid erg8
  have Hrge9 := Lib.hid erg9
  have Hrge10 := Lib.hid erg10
  have Hrge11 := Lib.hid erg11
  have Hrge12 := Lib.hid erg12
  have Hrge13 := Lib.hid erg13
  clear krg xrg strg crg hCrg hXrg erg0 erg1 erg2 erg3 erg4 erg5 erg6 erg7 erg8 erg9 erg10 erg11 erg12 erg13
  go_wp2_with fail
  refine RegC.regionF 9 Erg Crg Xrg Hrgst.out (by kernel_rfl) (by kernel_rfl) (by kernel_rfl) Hrgc.out (fun Frg hFrg => ?_)
  simp only [Reg.frame, Reg.dsts, List.map_cons, List.map_nil, Mix.put_lit, Reg.put_none, List.set_cons_succ, List.set_cons_zero, Nat.zero_add, Nat.reduceAdd] at hFrg
  refine ⟨?_, ?_⟩
  · refine ⟨?_, ?_, ?_, ?_, ?_, ?_, ?_, ?_, ?_, ?_, ?_, ?_, ?_, ?_, trivial⟩
    · intro Lq wq xq hh
      simp only [hFrg]
      refine .inl ⟨rfl, ?_⟩
      unfold Reg.upon
      have hk := Hrgk.out 0 Lq wq (by decide) (by decide) (by decide)  hh.cls
      have hx := Hrgx.out wq
      have he : Erg 0 (.pointer (some ⟨g, 0, none⟩)) wq := by rw [Hrge0.out]
      have HK := Lib.hid (And.intro hk (And.intro he hx))
      clear hk hx he
      go_simp
      exact HK.out
    · intro Lq wq xq hh
      simp only [hFrg]
      refine .inl ⟨rfl, ?_⟩
      unfold Reg.upon
      have hk := Hrgk.out 1 Lq wq (by decide) (by decide) (by decide)  hh.cls
      have hx := Hrgx.out wq
      have he : Erg 1 (.pointer (some ⟨gp, 0, none⟩)) wq := by rw [Hrge1.out]
      have HK := Lib.hid (And.intro hk (And.intro he hx))
      clear hk hx he
      go_simp
      exact HK.out
    · intro Lq wq xq hh
      simp only [hFrg]
      refine .inl ⟨rfl, ?_⟩
      unfold Reg.upon
      have hk := Hrgk.out 2 Lq wq (by decide) (by decide) (by decide)  hh.cls
      have hx := Hrgx.out wq
      have he : Erg 2 (.pointer (some ⟨g, 0, none⟩)) wq := by rw [Hrge2.out]
      have HK := Lib.hid (And.intro hk (And.intro he hx))
      clear hk hx he
      go_simp
      exact HK.out
    · intro Lq wq xq hh
      have d2 : Erg 2 (xq 2) wq := hh.val 2 (by kernel_rfl) (by kernel_rfl)
      rw [Hrge2.out] at d2
      simp only [hFrg, d2]
      clear d2
      refine .inl ⟨rfl, ?_⟩
      unfold Reg.upon
      have hk := Hrgk.out 3 Lq wq (by decide) (by decide) (by decide)  hh.cls
      have hx := Hrgx.out wq
      have he : Erg 3 (.pointer (some ⟨g, 0, none⟩)) wq := by rw [Hrge3.out]
      have HK := Lib.hid (And.intro hk (And.intro he hx))
      clear hk hx he
      go_simp
      exact HK.out
    · intro Lq wq xq hh
      have d3 : Erg 3 (xq 3) wq := hh.val 3 (by kernel_rfl) (by kernel_rfl)
      rw [Hrge3.out] at d3
      simp only [hFrg, d3]
      clear d3
      refine .inl ⟨rfl, ?_⟩
      unfold Reg.upon
      have hk := Hrgk.out 4 Lq wq (by decide) (by decide) (by decide)  hh.cls
      have hx := Hrgx.out wq
      have he : Erg 4 (.pointer (some ⟨g, 20, none⟩)) wq := by rw [Hrge4.out]
      have HK := Lib.hid (And.intro hk (And.intro he hx))
      clear hk hx he
      go_simp
      exact HK.out
    · intro Lq wq xq hh
      have d4 : Erg 4 (xq 4) wq := hh.val 4 (by kernel_rfl) (by kernel_rfl)
      rw [Hrge4.out] at d4
      simp only [hFrg, d4]
      clear d4
      refine .inl ⟨rfl, ?_⟩
      unfold Reg.upon
      have hc : Crg Lq (xq 9) wq := hh.cls
      rw [HrghC.out] at hc
      have hq := HW5.out.below (hc.2.1 (Mix.one_un (hh.notYet 10 (by kernel_rfl))))
      have q0 := hq.cells.2.2.2.2.1
      clear hc
      have hk := Hrgk.out 5 Lq wq (by decide) (by decide) (by decide)  hh.cls
      have hx := Hrgx.out wq
      have he : Erg 5 (.int .i64 wv) wq := by rw [Hrge5.out]
      have HK := Lib.hid (And.intro hk (And.intro he hx))
      clear hk hx he
      go_simp
      exact HK.out
    · intro Lq wq xq hh
      simp only [hFrg]
      refine .inl ⟨rfl, ?_⟩
      unfold Reg.upon
      have hk := Hrgk.out 6 Lq wq (by decide) (by decide) (by decide)  hh.cls
      have hx := Hrgx.out wq
      have he : Erg 6 (.pointer (some ⟨g, 0, none⟩)) wq := by rw [Hrge6.out]
      have HK := Lib.hid (And.intro hk (And.intro he hx))
      clear hk hx he
      go_simp
      exact HK.out
    · intro Lq wq xq hh
      have d6 : Erg 6 (xq 6) wq := hh.val 6 (by kernel_rfl) (by kernel_rfl)
      rw [Hrge6.out] at d6
      simp only [hFrg, d6]
      clear d6
      refine .inl ⟨rfl, ?_⟩
      unfold Reg.upon
      have hk := Hrgk.out 7 Lq wq (by decide) (by decide) (by decide)  hh.cls
      have hx := Hrgx.out wq
      have he : Erg 7 (.pointer (some ⟨g, 0, none⟩)) wq := by rw [Hrge7.out]
      have HK := Lib.hid (And.intro hk (And.intro he hx))
      clear hk hx he
      go_simp
      exact HK.out
    · intro Lq wq xq hh
      have d7 : Erg 7 (xq 7) wq := hh.val 7 (by kernel_rfl) (by kernel_rfl)
      rw [Hrge7.out] at d7
      simp only [hFrg, d7]
      clear d7
      refine .inl ⟨rfl, ?_⟩
      unfold Reg.upon
      have hk := Hrgk.out 8 Lq wq (by decide) (by decide) (by decide)  hh.cls
      have hx := Hrgx.out wq
      have he : Erg 8 (.pointer (some ⟨g, 0, none⟩)) wq := by rw [Hrge8.out]
      have HK := Lib.hid (And.intro hk (And.intro he hx))
      clear hk hx he
      go_simp
      exact HK.out
    · intro Lq wq xq hh
      have d8 : Erg 8 (xq 8) wq := hh.val 8 (by kernel_rfl) (by kernel_rfl)
      rw [Hrge8.out] at d8
      simp only [hFrg, d8]
      clear d8
      refine .inl ⟨rfl, ?_⟩
      unfold Reg.upon
      have hc : Crg Lq (xq 9) wq := hh.cls
      rw [HrghC.out] at hc
      have hb := hc.2.1 (Mix.one_un (hh.notYet 10 (by kernel_rfl)))
      have hq := wtext_any (HW5.out.below hb)
      go_simp
      refine hq.mono ?_
      rintro e w2 ⟨v9, rfl, ho, b9⟩
      have hH : HeldE (intE .i32) (fun b => w5.heap.size ≤ b) w2 v9 l2 := (HeldE.ownedInts ho).zone fun b _ hz => Nat.le_trans hb.size hz
      have hF : Crg (Lq.setIfInBounds 9 true) v9 w2 := by
        rw [HrghC.out]
        refine ⟨hc.1.trans (.ofBelow b9), fun _ => hb.trans (b9.mono hb.size), fun _ _ => hH, fun e => ?_, fun e => ?_⟩
        · rw [Mix.one_ne (by decide), Mix.one_un (hh.notYet 10 (by kernel_rfl))] at e
          exact absurd e (by decide)
        · rw [Mix.one_ne (by decide), Mix.one_un (hh.notYet 13 (by kernel_rfl))] at e
          exact absurd e (by decide)
      exact ⟨_, rfl, hF, (by rw [Hrge9.out]; trivial), (by rw [HrghX.out]; trivial)⟩
    · intro Lq wq xq hh
      have d1 : Erg 1 (xq 1) wq := hh.val 1 (by kernel_rfl) (by kernel_rfl)
      rw [Hrge1.out] at d1
      have d5 : Erg 5 (xq 5) wq := hh.val 5 (by kernel_rfl) (by kernel_rfl)
      rw [Hrge5.out] at d5
      have d9 : Erg 9 (xq 9) wq := hh.val 9 (by kernel_rfl) (by kernel_rfl)
      rw [Hrge9.out] at d9
      simp only [hFrg, d1, d5]
      clear d1 d5
      refine .inl ⟨rfl, ?_⟩
      unfold Reg.upon
      have hc : Crg Lq (xq 9) wq := hh.cls
      rw [HrghC.out] at hc
      have hb := hc.2.1 hh.un
      have ht := hc.2.2.1 (hh.isDone 9 (by kernel_rfl)) hh.un
      have hp := HP5.out.below hb
      have hw := HW5.out.below hb
      go_simp
      refine (HPT.out wq (xq 9) hp (wid_text HP5.out ht)).mono ?_
      rintro e w2 ⟨rfl, R2, k1, k2, k3⟩
      have hF : Crg (Lq.setIfInBounds 10 true) (xq 9) w2 := by
        rw [HrghC.out]
        refine ⟨hc.1.trans (k2.mono fun b _ e => .inl (PZ.from (RowsFrom.self _ _) hb.size b e)), fun e => ?_, fun _ e => ?_, fun _ _ => ⟨R2, k1, ⟨k2.keep.has hw.1 (wid_off hp hw.1), hw.2⟩, (RowsFrom.self w5 R).trans k3 hb.size⟩, fun e => ?_⟩
        · rw [Mix.one_set (by rw [hh.size]; decide)] at e
          exact absurd e (by decide)
        · rw [Mix.one_set (by rw [hh.size]; decide)] at e
          exact absurd e (by decide)
        · rw [Mix.one_ne (by decide), Mix.one_un (hh.notYet 13 (by kernel_rfl))] at e
          exact absurd e (by decide)
      exact ⟨_, rfl, hF, (by rw [Hrge10.out]), (by rw [HrghX.out]; trivial)⟩
    · intro Lq wq xq hh
      have d0 : Erg 0 (xq 0) wq := hh.val 0 (by kernel_rfl) (by kernel_rfl)
      rw [Hrge0.out] at d0
      simp only [hFrg, d0]
      clear d0
      refine .inl ⟨rfl, ?_⟩
      unfold Reg.upon
      have hk := Hrgk.out 11 Lq wq (by decide) (by decide) (by decide)  hh.cls
      have hx := Hrgx.out wq
      have he : Erg 11 (.pointer (some ⟨g, 0, none⟩)) wq := by rw [Hrge11.out]
      have HK := Lib.hid (And.intro hk (And.intro he hx))
      clear hk hx he
      go_simp
      exact HK.out
    · intro Lq wq xq hh
      have d11 : Erg 11 (xq 11) wq := hh.val 11 (by kernel_rfl) (by kernel_rfl)
      rw [Hrge11.out] at d11
      simp only [hFrg, d11]
      clear d11
      refine .inl ⟨rfl, ?_⟩
      unfold Reg.upon
      have hk := Hrgk.out 12 Lq wq (by decide) (by decide) (by decide)  hh.cls
      have hx := Hrgx.out wq
      have he : Erg 12 (.pointer (some ⟨g, 21, none⟩)) wq := by rw [Hrge12.out]
      have HK := Lib.hid (And.intro hk (And.intro he hx))
      clear hk hx he
      go_simp
      exact HK.out
    · intro Lq wq xq hh
      have d10 : Erg 10 (xq 10) wq := hh.val 10 (by kernel_rfl) (by kernel_rfl)
      rw [Hrge10.out] at d10
      have d12 : Erg 12 (xq 12) wq := hh.val 12 (by kernel_rfl) (by kernel_rfl)
      rw [Hrge12.out] at d12
      simp only [hFrg, d10, d12]
      clear d10 d12
      refine .inl ⟨rfl, ?_⟩
      unfold Reg.upon
      have hc : Crg Lq (xq 9) wq := hh.cls
      rw [HrghC.out] at hc
      obtain ⟨R2, k1, k2, k3⟩ := hc.2.2.2.1 (hh.isDone 10 (by kernel_rfl)) hh.un
      obtain ⟨_, _, _, _, _, s0, s1, s2⟩ := k2.cells
      have f0 := k2.1.free 21
      have f1 := k2.1.free 22
      have f2 := k2.1.free 23
      have hpl := k2.place KR KC false
      have hF : Crg (Lq.setIfInBounds 13 true) (xq 9) (((wq.setCell ⟨g, 21, none⟩ (.int .i64 KR)).setCell ⟨g, 22, none⟩ (.int .i64 KC)).setCell ⟨g, 23, none⟩ (.bool false)) := by
        rw [HrghC.out]
        refine ⟨hc.1.trans (hpl.2.mono fun b _ e => .inr e), fun e => ?_, fun _ e => ?_, fun _ e => ?_, fun _ => ⟨R2, k1.apart HNE.out k2.1 hpl.2, hpl.1, k3⟩⟩
        · rw [Mix.one_ne (by decide), hh.isDone 10 (by kernel_rfl)] at e
          exact absurd e (by decide)
        · rw [Mix.one_ne (by decide), hh.isDone 10 (by kernel_rfl)] at e
          exact absurd e (by decide)
        · rw [Mix.one_set (by rw [hh.size]; decide)] at e
          exact absurd e (by decide)
      have hE : Erg 13 undef (((wq.setCell ⟨g, 21, none⟩ (.int .i64 KR)).setCell ⟨g, 22, none⟩ (.int .i64 KC)).setCell ⟨g, 23, none⟩ (.bool false)) := by rw [Hrge13.out]
      have hX : Xrg wq (((wq.setCell ⟨g, 21, none⟩ (.int .i64 KR)).setCell ⟨g, 22, none⟩ (.int .i64 KC)).setCell ⟨g, 23, none⟩ (.bool false)) := by rw [HrghX.out]; trivial
      clear hc k1 k2 k3 hpl
      go_simp
      exact ⟨hF, hE, hX⟩
  intro xq wrg hcrg hvrg
  rw [HrghC.out] at hcrg
  simp only [hFrg]
  clear hvrg hFrg Hrgk Hrgx Hrgst Hrgc HrghC HrghX Hrgb Hrgxb Hrge0 Hrge1 Hrge2 Hrge3 Hrge4 Hrge5 Hrge6 Hrge7 Hrge8 Hrge9 Hrge10 Hrge11 Hrge12 Hrge13
  obtain ⟨u9, _, _, _, h9⟩ := hcrg
  obtain ⟨R2, k1, k2, k3⟩ := h9 (by kernel_rfl)
  have HF := Lib.hid (show WDo Yo w B gp gg gr wd g R Ls au (l ++ [repl x]) pc (cw || widB a b (repl x) br pc ea) ar ac false wrg from by
    obtain ⟨t1, t2, t3, t4, t5, t6, t7, t8⟩ := HQQ.out
    rw [t3] at k2
    rw [t4, t5, t7, t8] at k1
    rw [t5, t6] at k2
    rw [t1, t2] at k1 k2
    exact ⟨R2, k1, k2, HU5.out.trans (u9.mono fun b _ e => by rcases e with e | e; exact .inl (PZ.from (RowsFrom.self _ _) HU5.out.size b e); exact .inr e), (RowsFrom.self w R).trans k3 HU5.out.size⟩)
  clear u9 h9 k1 k2 k3
  go_wp2
  go_ret
  exact ⟨(ret_eq (by first | rfl | (simp <;> omega))), HF.out⟩
theorem wjoin_full (g : Nat) (l : List Int) (a b cw : Bool) (wv0 ar ac : Int) (ap : Bool) (p : Option Addr) (x br : Int) (pc : Bool) (cv ea : Int) (w : World) (hw : WAt w g l a b cw wv0 ar ac ap) (hl : l.length = 16) : Calls Tryz.prog 16 #[.pointer (some ⟨g, 0, none⟩), .pointer p, .int .i32 x, .agg #[.int .i64 br, .bool pc, .int .i64 cv, .int .i64 ea]] w (Gives w (.bool false)) := by
  obtain ⟨W1, hW1, hp, hb⟩ := wgbox w br pc cv ea
  have HB := Lib.hid hb
  have HFU := Lib.hid (wfull_any (hw.below hb) true (by simp; omega))
  clear hp hb hw hl
  go_enter Tryz.func16, Tryz.ntmps16
  go_upto_region 1 with (fail)
  rw [← hW1]
  clear hW1
  go_wp2_with fail
  refine HFU.out.mono ?_
  rintro e wz ⟨rfl, rfl⟩
  go_wp2
  go_ret
  exact ⟨(ret_eq (by first | rfl | (simp <;> omega))), HB.out⟩
theorem wtxt_any (g : Nat) (l : List Int) (a b cw : Bool) (wv0 ar ac : Int) (ap : Bool) (w : World) (hw : WAt w g l a b cw wv0 ar ac ap) : Calls Tryz.prog 22 #[.pointer (some ⟨g, 0, none⟩)] w (Cloned 21 .i32 w l) := by
  have HT := Lib.hid (wtext_any hw)
  clear hw
  go_enter Tryz.func22, Tryz.ntmps22
  go_wp2_with fail
  refine HT.out.mono ?_
  rintro e w1 ⟨v1, rfl, ho, hb⟩
  have HF := Lib.hid (And.intro ho hb)
  clear ho hb
  go_wp2
  go_ret
  exact ⟨_, (ret_eq (by first | rfl | (simp <;> omega))), HF.out.1, HF.out.2⟩
theorem wtxt_nil (w : World) : Calls Tryz.prog 22 #[.pointer none] w (fun e w' => e = .returned (.slice none 0 0) ∧ w = w') := by
  go_enter Tryz.func22, Tryz.ntmps22
  go_wp2
  go_ret
  exact ⟨(ret_eq (by first | rfl | (simp <;> omega))), rfl⟩
end Go.Proofs.YtoeggiplcaegoaaGreatDoor
