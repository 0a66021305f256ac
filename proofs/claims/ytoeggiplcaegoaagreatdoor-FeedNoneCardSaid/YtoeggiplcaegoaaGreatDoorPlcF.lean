/- A pen's Put. -/
import Derived.Test.YtoeggiplcaegoaaGreatDoorMg9
import Derived.Deep.Cut
import Derived.Lib.MinMax
namespace Go.Proofs.YtoeggiplcaegoaaGreatDoor
open Go.RowKit Go.ChangeShapes Go.WideShapes
variable {Yo : Zone}
/-- What Put knows on its way: the pen, the text, the result's block. -/
def PStY (Yo : Zone) (w0 : World) (B gp gg gr wd : Nat) (Rs R1 : List Rw) (Ls : List Ln) (r c : Int) (pd au : Bool) (g6 : Nat) (C6 : List Value) (v : Value) (xs : List Int) (w1 : World) : Prop :=
  PAtY Yo w0 B gp gg gr wd Rs R1 Ls r c pd au w1 ∧ HeldE (intE .i32) (fun b => ¬ PZ w1 gp gr R1 b) w1 v xs ∧ Has w1 g6 C6 24 ∧ w0.heap.size ≤ g6
section
variable {w0 w1 w2 : World} {B gp gg gr wd g6 : Nat} {Rs R1 R2 : List Rw} {Ls L2 : List Ln} {r c r2 c2 : Int} {pd au pd2 au2 : Bool} {C6 : List Value} {v : Value} {xs : List Int}
theorem cur_off (h : PenY Yo w1 B gp gg gr wd R1 Ls r c pd au) (hg : Has w1 g6 C6 24) : ¬ PZ w1 gp gr R1 g6 := fun e => by
  have ho := h.2.2.1.other hg (by decide) (by decide) (by decide) (by decide)
  have hl := hg.lt
  rcases e with e | e | ⟨i, hi, e⟩ | e
  · subst e; exact other_type hg h.1 (by decide)
  · exact ho.2.1 e
  · rcases e with e | e
    · exact (ho.2.2 i hi).1 e
    · exact (ho.2.2 i hi).2 e
  · omega
theorem PStY.go (h : PStY Yo w0 B gp gg gr wd Rs R1 Ls r c pd au g6 C6 v xs w1) (k : PDoY Yo w1 B gp gg gr wd R1 L2 r2 c2 pd2 au2 w2) : ∃ R2, PStY Yo w0 B gp gg gr wd Rs R2 L2 r2 c2 pd2 au2 g6 C6 v xs w2 := by
  obtain ⟨h1, h2, h3, h4⟩ := h
  obtain ⟨R2, k1, k2, k3⟩ := k
  obtain ⟨_, hp⟩ := h1.go ⟨R2, k1, k2, k3⟩
  refine ⟨R2, ⟨k1, h1.2.1.trans (k2.mono fun b _ hb => PZ.from h1.2.2 h1.2.1.size b hb), h1.2.2.trans k3 h1.2.1.size⟩, (h2.upd k2 fun b hb => hb).zone (fun b _ hz e => hz (PZ.from k3 k2.size b e)), k2.keep.has h3 (cur_off h1.1 h3), h4⟩
theorem PStY.below (h : PStY Yo w0 B gp gg gr wd Rs R1 Ls r c pd au g6 C6 v xs w1) (hb : Below w1.heap.size w1 w2) : PStY Yo w0 B gp gg gr wd Rs R1 Ls r c pd au g6 C6 v xs w2 := by
  obtain ⟨h1, h2, h3, h4⟩ := h
  exact ⟨h1.below hb, (h2.below hb).zone (fun b _ hz e => hz (PZ.from (RowsFrom.self _ _) hb.size b e)), h3.below hb h3.lt, h4⟩
theorem PStY.text (h : PStY Yo w0 B gp gg gr wd Rs R1 Ls r c pd au g6 C6 v xs w1) (hb : Below w1.heap.size w1 w2) {u : Value} {ys : List Int} (hu : HeldE (intE .i32) (fun b => w1.heap.size ≤ b) w2 u ys) : PStY Yo w0 B gp gg gr wd Rs R1 Ls r c pd au g6 C6 u ys w2 := by
  have hl := h.1.1.lt
  have hg := h.1.1.2.2.1.lt
  obtain ⟨h1, h2, h3, h4⟩ := h
  refine ⟨h1.below hb, hu.zone (fun b hlt hz e => ?_), h3.below hb h3.lt, h4⟩
  rcases e with e | e | ⟨i, hi, e⟩ | e
  · omega
  · omega
  · have := hg.2.2.2.2.2 i hi; rcases e with e | e <;> omega
  · omega
end
theorem cur_notx {w : World} {g : Nat} {a b : Int} {c : Bool} (h : Has w g [.int .i64 a, .int .i64 b, .bool c] 24) : NoTx w g := fun o x e => by
  rw [cell_of_row w g o _ _ (0, 0) h] at e
  match o with
  | 0 => simp at e
  | 1 => simp at e
  | 2 => simp at e
  | o + 3 => simp at e
/-- A cursor's block beside the pen was written. -/
theorem PAtY.cur {w0 w1 : World} {B gp gg gr wd g : Nat} {Rs R1 : List Rw} {Ls : List Ln} {r c : Int} {pd au : Bool} (h : PAtY Yo w0 B gp gg gr wd Rs R1 Ls r c pd au w1) {a b : Int} {d : Bool} (hg : Has w1 g [.int .i64 a, .int .i64 b, .bool d] 24) (hlt : w0.heap.size ≤ g) (x y z : Value) : PAtY Yo w0 B gp gg gr wd Rs R1 Ls r c pd au (((w1.setCell ⟨g, 0, none⟩ x).setCell ⟨g, 1, none⟩ y).setCell ⟨g, 2, none⟩ z) := by
  have hu : Upd (fun b => b = g) w1 (((w1.setCell ⟨g, 0, none⟩ x).setCell ⟨g, 1, none⟩ y).setCell ⟨g, 2, none⟩ z) := (((Upd.refl (fun b => b = g) w1).setCell (p := ⟨g, 0, none⟩) (.inl rfl) x).setCell (p := ⟨g, 1, none⟩) (.inl rfl) y).setCell (p := ⟨g, 2, none⟩) (.inl rfl) z
  have hne : g ≠ gp := fun e => by subst e; exact other_type hg h.1.1 (by decide)
  have ho := h.1.2.2.1.other hg (by decide) (by decide) (by decide) (by decide)
  exact ⟨⟨hu.keep.has h.1.1 (fun e => hne e.symm), h.1.2.1, h.1.2.2.1.pen (cur_notx hg) ho hu, h.1.2.2.2⟩, h.2.1.trans (hu.mono fun b _ e => .inr (.inr (.inr (by omega)))), h.2.2⟩
set_option maxRecDepth 100000 in
set_option maxHeartbeats 4000000 in
theorem pput_any (B gp gg gr wd : Nat) (Rs : List Rw) (Ls : List Ln) (r c : Int) (pd au : Bool) (n : Int) (v : Value) (xs : List Int) (w : World) (h : PenY Yo w B gp gg gr wd Rs Ls r c pd au) (hv : HeldE (intE .i32) (fun b => ¬ PZ w gp gr Rs b) w v xs) (r2 c2 : Nat) (pd2 : Bool) (hr2 : inI r (sideI Ls.length) = (r2 : Int)) (hc2 : inI c (sideI wd) = (c2 : Int)) (hpd : holdP c pd wd = pd2) (hlr : r2 < Ls.length) (hlc : c2 < wd) :
    Calls Tryz.prog 61 #[.pointer (some ⟨gp, 0, none⟩), .int .i64 n, v] w (fun e w' => e = .returned (.agg #[.int .i64 (plcR Ls wd r2 c2 pd2 au n : Nat), .int .i64 (plcC wd c2 pd2 au n : Nat), .bool false]) ∧
      PDoY Yo w B gp gg gr wd Rs (plcL Ls wd r2 c2 pd2 au n xs) (plcR Ls wd r2 c2 pd2 au n : Nat) (aftC (plcC wd c2 pd2 au n : Nat) (plcK wd n) wd) (aftP (plcC wd c2 pd2 au n : Nat) (plcK wd n) wd au) au w') := by
  have hsz := h.sizes
  have hwd : 0 < wd ∧ wd ≤ 1024 := ⟨hsz.2.2.1, hsz.2.2.2.1⟩
  have hb0 := (Below.refl w.heap.size w).alloc (Nat.le_refl _) (.cells [Value.int .i64 0, .int .i64 0, .bool false].toArray 24)
  have hn0 := Has.new w [Value.int .i64 0, .int .i64 0, .bool false] 24
  obtain ⟨W0, hW0⟩ : ∃ W0, W0 = w.alloc (.cells [Value.int .i64 0, .int .i64 0, .bool false].toArray 24) := ⟨_, rfl⟩
  rw [← hW0] at hb0 hn0
  obtain ⟨g6, hg6⟩ : ∃ g6, g6 = w.heap.size := ⟨_, rfl⟩
  have h0 : PStY Yo w B gp gg gr wd Rs Rs Ls r c pd au g6 [.int .i64 0, .int .i64 0, .bool false] v xs W0 := ⟨(PAtY.start h).below hb0, (hv.below hb0).zone (fun b _ hz e => hz (PZ.from (RowsFrom.self _ _) hb0.size b e)), by rw [hg6]; exact hn0, by rw [hg6]; exact Nat.le_refl _⟩
  have HH := Lib.hid (phold_any B gp gg gr wd Rs Ls r c pd au W0 h0.1.1)
  rw [hr2, hc2, hpd] at HH
  have H0 := Lib.hid h0
  have hvm := hv.max
  obtain ⟨ao, ca, rfl⟩ := hv.len
  have HSZ := Lib.hid hsz.2.2.2.2.2
  obtain ⟨xn, hxn⟩ : ∃ xn, xn = xs.length := ⟨_, rfl⟩
  have HLR := Lib.hid hlr
  have HLC := Lib.hid hlc
  have HXN := Lib.hid hxn
  rw [← hxn] at hvm H0 ⊢
  have hW0' : W0 = w.alloc (.cells #[Value.int .i64 0, .int .i64 0, .bool false] 24) := hW0
  clear h hv hb0 hn0 h0 hr2 hc2 hpd hsz hxn hW0 hlr hlc
  go_enter Tryz.func61, Tryz.ntmps61
  go_wp2_with fail
  rw [← hW0']
  rw [← hg6]
  refine HH.out.mono ?_
  rintro e w1 ⟨rfl, k1⟩
  obtain ⟨R1, h1⟩ := H0.out.go k1
  have H1 := Lib.hid h1
  clear k1 h1 hW0' hg6 H0 HH
  go_upto_region 4 with (fail)
  obtain ⟨k0, hk0⟩ : ∃ k0, min (max n 1) 2 = k0 := ⟨_, rfl⟩
  rw [hk0]
  have hkk : max 1 (min n 2) = k0 := by omega
  have HKK := Lib.hid hkk
  have c0 := H1.out.1.1.1.cell 0 _ rfl
  obtain ⟨q, hq⟩ : ∃ q : Bool, q = ((k0 == 2) && ((wd : Int) == 1)) := ⟨_, rfl⟩
  have hkv : k0 = 1 ∨ k0 = 2 := by omega
  go_cut [24] from 15 to 24 (fun tv wx => tv = .bool q ∧ wx = w1)
  case first =>
    rcases hkv with h1 | h2
    · have hd : (k0 == 2) = false := by rw [h1]; rfl
      rw [hd, Bool.false_and] at hq
      subst hq
      clear hkk hk0 h1
      go_wp2
      go_meet
      case rel => exact ⟨rfl, rfl⟩
    · have hd : (k0 == 2) = true := by rw [h2]; rfl
      rw [hd, Bool.true_and] at hq
      clear hkk hk0 h2
      go_wp2_with fail
      refine (gwide_any B gg gr wd R1 w1 H1.out.1.1.2.2.1).mono ?_
      rintro e w2 ⟨rfl, rfl⟩
      go_wp2
      go_meet
      case rel => exact ⟨by rw [hq], rfl⟩
  case rest =>
  obtain ⟨rfl, rfl⟩ := hcut
  obtain ⟨w1, hwq⟩ : ∃ w1, w1 = wc := ⟨_, rfl⟩
  subst hwq
  go_upto_if 24 with (fail)
  go_cut [1, 2] from 25 to 25 (fun kv tv wx => kv = .int .i64 (plcK wd n) ∧ PStY Yo w B gp gg gr wd Rs R1 Ls r2 c2 pd2 au g6 [.int .i64 0, .int .i64 0, .bool false] tv (plcX wd n xs) wx)
  case first =>
    cases q with
    | true =>
      have hq2 := hq.symm
      rw [Bool.and_eq_true, beq_iff_eq, beq_iff_eq] at hq2
      have HPK := Lib.hid (show plcK wd n = 1 from by unfold plcK; rw [hkk, hq2.1]; exact if_pos (by omega))
      have HPX := Lib.hid (show plcX wd n xs = [65533] from by unfold plcX; rw [hkk, hq2.1]; exact if_pos (by omega))
      clear hkk hk0 hq hq2 hkv
      have hb := (Below.refl w1.heap.size w1).alloc (Nat.le_refl _) (.cells [Value.int .i32 65533].toArray 21)
      have ht := heldE_one (w := w1) (ty := 21) (E := intE .i32) (Y := fun _ => False) (Z := fun b => w1.heap.size ≤ b) [.int .i32 65533] 65533 rfl (fun _ _ h => h.elim) (Nat.le_refl _)
      have HF := Lib.hid (H1.out.text hb ht)
      clear hb ht
      go_wp2
      go_meet
      case rel => exact ⟨by rw [HPK.out], by rw [HPX.out]; exact HF.out⟩
    | false =>
      have hnn : ¬ (wd : Int) < max 1 (min n 2) := by
        rw [hkk]
        rcases hkv with h1 | h2
        · omega
        · intro hlt
          rw [h2] at hq hlt
          have : (wd : Int) = 1 := by omega
          rw [this] at hq
          exact absurd hq (by decide)
      have HPK := Lib.hid (show plcK wd n = k0 from by unfold plcK; rw [if_neg hnn, hkk])
      have HPX := Lib.hid (show plcX wd n xs = xs from by unfold plcX; exact if_neg hnn)
      clear hkk hk0 hq hkv hnn
      go_wp2
      go_meet
      case rel => exact ⟨by rw [HPK.out], by rw [HPX.out]; exact H1.out⟩
  case rest =>
    obtain ⟨rfl, hst⟩ := hcut
    obtain ⟨w2, hwq⟩ : ∃ w2, w2 = wc := ⟨_, rfl⟩
    subst hwq
    have HPC := Lib.hid (plcK_cases wd n)
    obtain ⟨k, hk⟩ : ∃ k, k = plcK wd n := ⟨_, rfl⟩
    obtain ⟨ys, hys⟩ : ∃ ys, ys = plcX wd n xs := ⟨_, rfl⟩
    have HFIN := Lib.hid (show plcL Ls wd r2 c2 pd2 au n xs = pntL (p2L wd k (p1L Ls r2 pd2) (p1R Ls r2 pd2) (p1C c2 pd2) au) (p2R wd k (p1L Ls r2 pd2) (p1R Ls r2 pd2) (p1C c2 pd2) au) (p2C wd k (p1C c2 pd2) au) (ofC k ys) ∧ plcR Ls wd r2 c2 pd2 au n = p2R wd k (p1L Ls r2 pd2) (p1R Ls r2 pd2) (p1C c2 pd2) au ∧ plcC wd c2 pd2 au n = p2C wd k (p1C c2 pd2) au from by rw [hk, hys]; exact ⟨rfl, rfl, rfl⟩)
    rw [← hk] at HPC
    rw [← hys] at hst
    have HKE := Lib.hid hk
    rw [← hk]
    have HS := Lib.hid hst
    have c3 := hst.1.1.1.cell 3 _ rfl
    clear hst hk hys c0 hkk hk0 hq hkv
    go_upto_if 30 with (fail)
    go_cut [] from 31 to 32 (fun wx => ∃ R2, PStY Yo w B gp gg gr wd Rs R2 (p1L Ls r2 pd2) (p1R Ls r2 pd2 : Nat) (p1C c2 pd2 : Nat) false au g6 [.int .i64 0, .int .i64 0, .bool false] u2 ys wx)
    case first =>
      cases pd2 with
      | false =>
        go_wp2
        go_meet
        case rel => exact ⟨R1, HS.out⟩
      | true =>
        have hd := pgo_any B gp gg gr wd R1 Ls r2 c2 true au w2 HS.out.1.1 HLR.out
        go_wp2_with fail
        refine hd.mono ?_
        rintro e w4 ⟨rfl, k2⟩
        obtain ⟨R2, h2⟩ := HS.out.go k2
        have HF := Lib.hid h2
        clear hd k2 h2
        go_wp2
        go_meet
        case rel => exact ⟨R2, HF.out⟩
    case rest =>
      obtain ⟨R2, h2⟩ := hcut
      obtain ⟨w3, hwq⟩ : ∃ w3, w3 = wc := ⟨_, rfl⟩
      subst hwq
      have h1l := p1_lt pd2 HLR.out
      have h1c : p1C c2 pd2 < wd := by have := HLC.out; unfold p1C; split <;> omega
      obtain ⟨L1, hL1⟩ : ∃ L1, L1 = p1L Ls r2 pd2 := ⟨_, rfl⟩
      obtain ⟨r1, hr1⟩ : ∃ r1, r1 = p1R Ls r2 pd2 := ⟨_, rfl⟩
      obtain ⟨c1, hc1⟩ : ∃ c1, c1 = p1C c2 pd2 := ⟨_, rfl⟩
      rw [← hL1, ← hr1, ← hc1] at h2 HFIN
      rw [← hr1, ← hL1] at h1l
      rw [← hc1] at h1c
      have H2 := Lib.hid h2
      have HLL := Lib.hid h1l.1
      have HCC := Lib.hid h1c
      have e0 := ext_cell (h2.1.1.1.cell 0 _ rfl)
      have e2 := ext_cell (h2.1.1.1.cell 2 _ rfl)
      have HG := Lib.hid (show ∀ u : Growth w3, GridY Yo (ext w3 u) B gg gr wd R2 from fun u => h2.1.1.2.2.1.below u.ok)
      clear h2 h1l h1c hL1 hr1 hc1 c3
      go_upto_region 8 with (fail)
      obtain ⟨q2, hq2⟩ : ∃ q2 : Bool, q2 = ((k == 2) && ((c1 : Int) == (wd : Int) - 1)) := ⟨_, rfl⟩
      go_cut [48] from 33 to 48 (fun tv wx => tv = .bool q2 ∧ PStY Yo w B gp gg gr wd Rs R2 L1 r1 c1 false au g6 [.int .i64 0, .int .i64 0, .bool false] u2 ys wx)
      case first =>
        rcases HPC.out with h1 | ⟨h2, _⟩
        · have hd : (k == 2) = false := by rw [h1]; rfl
          rw [hd, Bool.false_and] at hq2
          subst hq2
          clear h1
          refine wp_region_ext (by kernel_rfl) (by kernel_rfl) ?_
          repeat (go_big_quiet_step ((fail)))
          refine wpQuiet_nil ?_
          intro _ hw'
          obtain ⟨u, hw''⟩ := hw'
          subst hw''
          have HF := Lib.hid (H2.out.below u.ok)
          go_wp2
          go_meet
          case rel => exact ⟨rfl, HF.out⟩
        · have hd : (k == 2) = true := by rw [h2]; rfl
          rw [hd, Bool.true_and] at hq2
          have hws : IntKind.i64.wrap ((wd : Int) - 1) = (wd : Int) - 1 := by rw [IntKind.wrap_i64]; omega
          clear h2
          refine wp_region_ext (by kernel_rfl) (by kernel_rfl) ?_
          repeat (go_big_quiet_step ((go_at_call 106; exact callx_same (gwide_any B gg gr wd R2 _ (HG.out _)))))
          refine wpQuiet_nil ?_
          intro _ hw'
          obtain ⟨u, hw''⟩ := hw'
          subst hw''
          have HF := Lib.hid (H2.out.below u.ok)
          go_wp2
          go_meet
          case rel => exact ⟨by rw [hq2], HF.out⟩
      case rest =>
      obtain ⟨rfl, h2⟩ := hcut
      obtain ⟨w4, hwq⟩ : ∃ w4, w4 = wc := ⟨_, rfl⟩
      subst hwq
      replace H2 := Lib.hid h2
      clear h2 e0 e2 HG
      go_upto_if 48 with (fail)
      go_cut [] from 49 to 50 (fun wx => ∃ R3, PStY Yo w B gp gg gr wd Rs R3 (p2L wd k L1 r1 c1 au) (p2R wd k L1 r1 c1 au : Nat) (p2C wd k c1 au : Nat) false au g6 [.int .i64 0, .int .i64 0, .bool false] u2 ys wx)
      case first =>
        cases q2 with
        | false =>
          have hnn : ¬ (k = 2 ∧ c1 + 1 = wd) := by
            rintro ⟨e1, e2⟩
            rw [e1, show (c1 : Int) = (wd : Int) - 1 from by omega] at hq2
            simp at hq2
          have HE := Lib.hid (show p2L wd k L1 r1 c1 au = L1 ∧ p2R wd k L1 r1 c1 au = r1 ∧ p2C wd k c1 au = c1 from ⟨if_neg hnn, if_neg hnn, if_neg hnn⟩)
          clear hq2 hnn
          go_wp2
          go_meet
          case rel => exact ⟨R2, by rw [HE.out.1, HE.out.2.1, HE.out.2.2]; exact H2.out⟩
        | true =>
          have hq3 := hq2.symm
          rw [Bool.and_eq_true, beq_iff_eq, beq_iff_eq] at hq3
          have hpp : k = 2 ∧ c1 + 1 = wd := ⟨hq3.1, by omega⟩
          have hk2 : 2 ≤ wd := by rcases HPC.out with h | h <;> omega
          cases au with
          | true =>
            have HE := Lib.hid (show p2L wd k L1 r1 c1 true = goL (pntL L1 r1 c1 [zc]) r1 ∧ p2R wd k L1 r1 c1 true = downR L1 r1 ∧ p2C wd k c1 true = 0 from by unfold p2L p2R p2C; rw [if_pos hpp, if_pos hpp, if_pos hpp]; exact ⟨rfl, rfl, rfl⟩)
            clear hq2 hq3 hpp hk2
            have hd := proom_on B gp gg gr wd R2 L1 r1 c1 false w4 H2.out.1.1 HLL.out HCC.out
            go_wp2_with fail
            refine hd.mono ?_
            rintro e w5 ⟨rfl, k5⟩
            obtain ⟨R3, h3⟩ := H2.out.go k5
            have HF := Lib.hid h3
            clear hd k5 h3
            go_wp2
            go_meet
            case rel => exact ⟨R3, by rw [HE.out.1, HE.out.2.1, HE.out.2.2]; exact HF.out⟩
          | false =>
            have HE := Lib.hid (show p2L wd k L1 r1 c1 false = L1 ∧ p2R wd k L1 r1 c1 false = r1 ∧ p2C wd k c1 false = c1 - 1 from by unfold p2L p2R p2C; rw [if_pos hpp, if_pos hpp, if_pos hpp]; exact ⟨rfl, rfl, rfl⟩)
            obtain ⟨c0, rfl⟩ : ∃ c0, c1 = c0 + 1 := ⟨c1 - 1, by omega⟩
            have h0 := H2.out.1.1
            rw [show ((c0 + 1 : Nat) : Int) = (c0 : Int) + 1 from by omega] at h0
            have hd := proom_off B gp gg gr wd R2 L1 r1 c0 false w4 h0 (by omega)
            clear hq2 hq3 hpp hk2 h0
            go_wp2_with fail
            refine hd.mono ?_
            rintro e w5 ⟨rfl, k5⟩
            obtain ⟨R3, h3⟩ := H2.out.go k5
            have HF := Lib.hid h3
            clear hd k5 h3
            go_wp2
            go_meet
            case rel => exact ⟨R3, by rw [HE.out.1, HE.out.2.1, HE.out.2.2]; exact HF.out⟩
      case rest =>
        obtain ⟨R3, h3⟩ := hcut
        obtain ⟨w5, hwq⟩ : ∃ w5, w5 = wc := ⟨_, rfl⟩
        subst hwq
        have hl3 := p2_lt (wd := wd) (k := k) (c := c1) au HLL.out
        have hc3 := p2_room (c := c1) au HPC.out HCC.out
        obtain ⟨L3, hL3⟩ : ∃ L3, L3 = p2L wd k L1 r1 c1 au := ⟨_, rfl⟩
        obtain ⟨r3, hr3⟩ : ∃ r3, r3 = p2R wd k L1 r1 c1 au := ⟨_, rfl⟩
        obtain ⟨c3, hcc3⟩ : ∃ c3, c3 = p2C wd k c1 au := ⟨_, rfl⟩
        rw [← hL3, ← hr3, ← hcc3] at h3 HFIN
        rw [← hr3, ← hL3] at hl3
        rw [← hcc3] at hc3
        have hwr : wrongI wd (c3 : Int) (ofC k ys) = 0 := by
          have hol := ofC_len k ys
          refine wrong_none ?_ (ofC_sound _ _)
          rw [hol]
          split <;> rcases HPC.out with h | h <;> omega
        have HWR := Lib.hid hwr
        have HL3 := Lib.hid hl3.1
        clear hL3 hr3 hcc3 hl3 hc3 hwr hq2
        have hrl := h3.1.1.sizes.2.2.2.2.1
        have HRL := Lib.hid hrl
        have H3 := Lib.hid h3
        have p1 := h3.1.1.1.cell 1 _ rfl
        have p2 := h3.1.1.1.cell 2 _ rfl
        have p3 := h3.1.1.1.cell 3 _ rfl
        have hb6 := (Below.refl w5.heap.size w5).alloc (Nat.le_refl _) (.cells [Value.int .i64 r3, .int .i64 c3, .bool false].toArray 24)
        have hn7 := Has.new w5 [Value.int .i64 r3, .int .i64 c3, .bool false] 24
        obtain ⟨W6, hW6⟩ : ∃ W6, W6 = w5.alloc (.cells [Value.int .i64 r3, .int .i64 c3, .bool false].toArray 24) := ⟨_, rfl⟩
        rw [← hW6] at hb6 hn7
        have h6 := h3.below hb6
        obtain ⟨g7, hg7⟩ : ∃ g7, g7 = w5.heap.size := ⟨_, rfl⟩
        rw [← hg7] at hn7
        have HG7 := Lib.hid (show w.heap.size ≤ g7 from by rw [hg7]; exact h3.1.2.1.size)
        have hW6' : W6 = w5.alloc (.cells #[Value.int .i64 r3, .int .i64 c3, .bool false] 24) := hW6
        have H6 := Lib.hid h6
        have HN7 := Lib.hid hn7
        have e0 := ext_cell (h6.1.1.1.cell 0 _ rfl)
        have d0 := ext_cell (hn7.cell 0 _ rfl)
        have d1 := ext_cell (hn7.cell 1 _ rfl)
        obtain ⟨gk, hgk⟩ : ∃ gk, gk = (R3.getD r3 r0).g := ⟨_, rfl⟩
        have HGR := Lib.hid (show ∀ u : Growth W6, Calls Tryz.prog 62 #[.pointer (some ⟨gg, 0, none⟩), .int .i64 r3] (ext W6 u) (fun e w' => e = .returned (.pointer (some ⟨gk, 0, none⟩)) ∧ ext W6 u = w') from fun u => by rw [hgk]; exact grow_in B gg gr wd R3 r3 _ (H6.out.1.1.2.2.1.below u.ok) (by have := HL3.out; have := HRL.out; omega))
        have HGM := Lib.hid (show ∀ u : Growth W6, Calls Tryz.prog 115 #[.pointer (some ⟨gk, 0, none⟩), .int .i64 c3, .int .i64 k, u2] (ext W6 u) (fun e w2 => e = .returned .nilIface ∧ PDoY Yo (ext W6 u) B gp gg gr wd R3 (pntL L3 r3 c3 (ofC k ys)) r3 c3 false au w2) from fun u => by rw [hgk]; exact pmark_any (PAtY.start (H6.out.below u.ok).1.1) r3 c3 k (by have := HL3.out; have := HRL.out; omega) ys u2 _ (H6.out.below u.ok).2.1 HWR.out)
        clear h3 h6 hn7 hb6 hW6 hgk hrl
        go_upto_region 11 with (fail)
        rw [← hW6']
        rw [← hg7]
        clear hW6' hg7 p1 p2 p3
        refine wp_region_ext_tail 11 (by kernel_rfl) (by simp) (by kernel_rfl) (by kernel_rfl) (by kernel_rfl) (by kernel_rfl) (by kernel_rfl) ?_
        simp only [List.take_succ_cons, List.take_zero, List.drop_succ_cons, List.drop_zero]
        repeat (go_big_quiet_step ((go_at_call 62; exact callx_same (HGR.out _))))
        refine wpQuiet_nil ?_
        intro _ hw'
        obtain ⟨u, hw''⟩ := hw'
        subst hw''
        have hd := HGM.out u
        have H7 := Lib.hid (H6.out.below u.ok)
        have HM7 := Lib.hid (HN7.out.below u.ok HN7.out.lt)
        clear d0 d1 e0
        go_wp2_with fail
        refine hd.mono ?_
        rintro e w8 ⟨rfl, R4, hp4, hu4, hf4⟩
        have h8 : PAtY Yo w B gp gg gr wd Rs R4 (pntL L3 r3 c3 (ofC k ys)) r3 c3 false au w8 := ⟨hp4, H7.out.1.2.1.trans (hu4.mono fun b _ hb => PZ.from H7.out.1.2.2 H7.out.1.2.1.size b hb), H7.out.1.2.2.trans hf4 H7.out.1.2.1.size⟩
        have hn6 := hu4.keep.has H7.out.2.2.1 (cur_off H7.out.1.1 H7.out.2.2.1)
        have hn7 := hu4.keep.has HM7.out (cur_off H7.out.1.1 HM7.out)
        have HG6 := Lib.hid H7.out.2.2.2
        have H8 := Lib.hid h8
        have HN6 := Lib.hid hn6
        have HN8 := Lib.hid hn7
        have e0 := ext_cell (h8.1.1.cell 0 _ rfl)
        have e1 := ext_cell (h8.1.1.cell 1 _ rfl)
        have e2 := ext_cell (h8.1.1.cell 2 _ rfl)
        have e3 := ext_cell (h8.1.1.cell 3 _ rfl)
        have e4 := ext_cell (h8.1.1.cell 4 _ rfl)
        have f1 := ext_free (a := ⟨gp, 1, none⟩) h8.1.lt (h8.1.1.free 1)
        have f2 := ext_free (a := ⟨gp, 2, none⟩) h8.1.lt (h8.1.1.free 2)
        have f3 := ext_free (a := ⟨gp, 3, none⟩) h8.1.lt (h8.1.1.free 3)
        have d0 := ext_cell (hn7.cell 0 _ rfl)
        have d1 := ext_cell (hn7.cell 1 _ rfl)
        have d2 := ext_cell (hn7.cell 2 _ rfl)
        have HGW := Lib.hid (show ∀ u : Growth w8, GridY Yo (ext w8 u) B gg gr wd R4 from fun u => h8.1.2.2.1.below u.ok)
        clear hd hp4 hu4 hf4 h8 hn6 hn7 H7 HM7
        go_upto_region 12 with (fail)
        refine wp_region_ext_tail 15 (by kernel_rfl) (by simp) (by kernel_rfl) (by kernel_rfl) (by kernel_rfl) (by kernel_rfl) (by kernel_rfl) ?_
        simp only [List.take_succ_cons, List.take_zero, List.drop_succ_cons, List.drop_zero]
        repeat (go_big_quiet_step ((first | (go_at_call 106; exact callx_same (gwide_any B gg gr wd R4 _ (HGW.out _))) | (go_at_call 116; exact callx (cafter_any r3 c3 false k wd au _ (by omega))))))
        refine wpQuiet_nil ?_
        intro _ hw'
        obtain ⟨u, hw''⟩ := hw'
        subst hw''
        have h9 := (show PAtY Yo w B gp gg gr wd Rs R4 (pntL L3 r3 c3 (ofC k ys)) r3 c3 false au (ext w8 u) from H8.out.below u.ok).turn r3 (aftC c3 k wd) (aftP c3 k wd au)
        have hneg : ∀ g : Nat, ∀ C : List Value, Has w8 g C 24 → g ≠ gp := fun g C hg e => by subst e; exact other_type hg H8.out.1.1 (by decide)
        have hn6 := ((((show Has (ext w8 u) g6 [.int .i64 0, .int .i64 0, .bool false] 24 from HN6.out.below u.ok HN6.out.lt).setOther ⟨gp, 1, none⟩ (.int .i64 r3) (hneg _ _ HN6.out)).setOther ⟨gp, 2, none⟩ (.int .i64 (aftC c3 k wd)) (hneg _ _ HN6.out)).setOther ⟨gp, 3, none⟩ (.bool (aftP c3 k wd au)) (hneg _ _ HN6.out))
        have hn7 := ((((show Has (ext w8 u) g7 [.int .i64 r3, .int .i64 c3, .bool false] 24 from HN8.out.below u.ok HN8.out.lt).setOther ⟨gp, 1, none⟩ (.int .i64 r3) (hneg _ _ HN8.out)).setOther ⟨gp, 2, none⟩ (.int .i64 (aftC c3 k wd)) (hneg _ _ HN8.out)).setOther ⟨gp, 3, none⟩ (.bool (aftP c3 k wd au)) (hneg _ _ HN8.out))
        obtain ⟨W9, hW9⟩ : ∃ W9, W9 = ((((ext w8 u).setCell ⟨gp, 1, none⟩ (.int .i64 r3)).setCell ⟨gp, 2, none⟩ (.int .i64 (aftC c3 k wd))).setCell ⟨gp, 3, none⟩ (.bool (aftP c3 k wd au))) := ⟨_, rfl⟩
        rw [← hW9] at h9
        rw [← hW9] at hn6 hn7
        have HW9 := Lib.hid hW9
        have H9 := Lib.hid h9
        have HN69 := Lib.hid hn6
        have HN79 := Lib.hid hn7
        clear hW9 h9 hn6 hn7 hneg d0 d1 d2 HGW
        go_upto_region 13 with (fail)
        rw [← HW9.out]
        clear e0 e1 e2 e3 e4 f1 f2 f3 HW9
        have d0 := HN79.out.cell 0 _ rfl
        have d1 := HN79.out.cell 1 _ rfl
        have d2 := HN79.out.cell 2 _ rfl
        have b0 := HN69.out.cell 0 _ rfl
        have b1 := HN69.out.cell 1 _ rfl
        have b2 := HN69.out.cell 2 _ rfl
        have s0 := HN69.out.free 0
        have s1 := HN69.out.free 1
        have s2 := HN69.out.free 2
        have hf := H9.out.cur HN69.out HG6.out (.int .i64 r3) (.int .i64 c3) (.bool false)
        have hres := ((HN69.out.set 0 (.int .i64 r3)).set 1 (.int .i64 c3)).set 2 (.bool false)
        have HF := Lib.hid hf
        have k0' := hres.cell 0 _ rfl
        have k1' := hres.cell 1 _ rfl
        have k2' := hres.cell 2 _ rfl
        have HK0 := Lib.hid k0'
        have HK1 := Lib.hid k1'
        have HK2 := Lib.hid k2'
        clear hf hres k0' k1' k2'
        go_wp2
        have k0' := HK0.out
        have k1' := HK1.out
        have k2' := HK2.out
        exact bodyPost_ret (v := .agg #[.int .i64 r3, .int .i64 c3, .bool false]) (by simp [results, Tryz.results61, go_sem, k0', k1', k2']) rfl ⟨by rw [HFIN.out.2.1, HFIN.out.2.2], by rw [HFIN.out.1, HFIN.out.2.1, HFIN.out.2.2, ← HKE.out]; exact HF.out.done⟩
end Go.Proofs.YtoeggiplcaegoaaGreatDoor
