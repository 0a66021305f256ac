/- PlacePlays (34.1, 34.2) answers true at all sides and every list of calls, and turns nothing. No condition. -/
import Derived.Test.YteinppjklhomnaaDoorMg12
import Derived.Test.YteinppjklhomnaaDoorMg1
import Derived.Test.YteinppjklhomnaaDoorMg5
import Derived.Test.YteinppjklhomnaaDoorCards
import Derived.Test.YteinppjklhomnaaDoorTie
import Derived.ProofKit
import Derived.Lib.MinMax
namespace Go.Proofs.YteinppjklhomnaaDoor.lawPlacePlays
open Go.ChangeShapes Go.WideShapes Go.ChangeAt Go.RowKit
abbrev Act6 := Int × Int × List Int × (Int × Int × Bool)
def actE : Elem Act6 := prE (intE .i64) (prE (intE .i64) (prE (slE (intE .i32)) (prE (intE .i64) (prE (intE .i64) boolE))))
abbrev za : Act6 := (0, 0, [], (0, 0, false))
theorem acts_at {Z : Zone} {w : World} {ao : Option Addr} {n cap : Nat} {L : List Act6} (h : HeldE actE Z w (.slice ao n cap) L) : n = L.length ∧ n ≤ cap ∧ ∀ i, i < L.length → ∃ b off tv, ao = some ⟨b, off, none⟩ ∧ b < w.heap.size ∧
    w.cell? ⟨b, off + i * 6, none⟩ = some (.int .i64 (L.getD i za).1) ∧ w.cell? ⟨b, off + i * 6 + 1, none⟩ = some (.int .i64 (L.getD i za).2.1) ∧ w.cell? ⟨b, off + i * 6 + 2, none⟩ = some tv ∧ w.cell? ⟨b, off + i * 6 + 3, none⟩ = some (.int .i64 (L.getD i za).2.2.2.1) ∧ w.cell? ⟨b, off + i * 6 + 4, none⟩ = some (.int .i64 (L.getD i za).2.2.2.2.1) ∧ w.cell? ⟨b, off + i * 6 + 5, none⟩ = some (.bool (L.getD i za).2.2.2.2.2) ∧ HeldE (intE .i32) Z w tv (L.getD i za).2.2.1 := by
  obtain ⟨h1, h2, h3⟩ := h.spots
  refine ⟨h1, h2, fun i hi => ?_⟩
  obtain ⟨b, off, rfl, hb, hz, C, hC, hr⟩ := h3 i hi
  obtain ⟨C1, C2, rfl, rfl, C3, C4, rfl, rfl, C5, C6, rfl, ⟨tv, rfl, ht⟩, C7, C8, rfl, rfl, C9, C10, rfl, rfl, rfl⟩ := hr
  exact ⟨b, off, tv, rfl, hb, hC 0 (by decide), hC 1 (by decide), hC 2 (by decide), hC 3 (by decide), hC 4 (by decide), hC 5 (by decide), ht⟩
theorem cur_nonq (r c : Int) (p : Bool) (w : World) : (binOp .neq 29 (.agg #[.int .i64 r, .int .i64 c, .bool p]) (.agg #[.int .i64 r, .int .i64 c, .bool p])).run Tryd.prog w = .ok (.bool false) w := by
  rw [cur_neq]
  simp [curEq]
theorem act_notx {w : World} {g : Nat} {a b c d : Int} {o : Option Addr} {n k : Nat} {p : Bool} (h : Has w g [.int .i64 a, .int .i64 b, .slice o n k, .int .i64 c, .int .i64 d, .bool p] 35) : NoTx w g := fun q x e => by
  rw [cell_of_row w g q _ _ (0, 0) h] at e
  match q with
  | 0 => simp at e
  | 1 => simp at e
  | 2 => simp at e
  | 3 => simp at e
  | 4 => simp at e
  | 5 => simp at e
  | q + 6 => simp at e
set_option maxRecDepth 100000 in
set_option maxHeartbeats 16000000 in
theorem walkH (W : World) (a b : Int) (va : Value) (A : List Act6) (Z : Zone) (hb : HeldE actE Z W va A) : Calls Tryd.prog 3 #[.int .i64 a, .int .i64 b, va] W (Yes W) := by
  obtain ⟨ao, ca, rfl⟩ := hb.len
  have hlb := hb.max
  obtain ⟨_, hcap, hc⟩ := acts_at hb
  obtain ⟨m, hm⟩ : ∃ m, m = A.length := ⟨_, rfl⟩
  rw [← hm] at hc hlb hcap ⊢
  have HC := Lib.hid hc
  clear hb hc hm
  by_cases h2 : 60 < m
  · have hd60 : decide ((60 : Int) < m) = true := by rw [decide_eq_true_eq]; omega
    go_enter Tryd.func3, Tryd.ntmps3
    go_wp2_with fail
    refine (works34_any _).mono ?_
    rintro e w1 ⟨rfl, b1⟩
    go_wp2_with fail
    refine (works34_any _).mono ?_
    rintro e w2 ⟨rfl, b2⟩
    have B := b1.trans (b2.mono b1.size)
    go_wp2
    go_ret
    exact ⟨(ret_eq (by first | rfl | (simp <;> omega))), B⟩

  have hd60 : decide ((60 : Int) < m) = false := by rw [decide_eq_false_iff_not]; omega
  obtain ⟨y, hy⟩ : ∃ y, y = IntKind.u64.wrap a := ⟨_, rfl⟩
  have hy0 : 0 ≤ y ∧ y ≤ 18446744073709551615 := by rw [hy, IntKind.wrap_u64]; omega
  obtain ⟨c, hc⟩ : ∃ c : Nat, y % 9 = (c : Int) := ⟨(y % 9).toNat, by omega⟩
  have hc9 : c < 9 := by omega
  have hy' : IntKind.u64.wrap a = y := hy.symm
  have hct : y.tmod 9 = (c : Int) := by rw [Int.tmod_eq_emod_of_nonneg hy0.1]; exact hc
  have hwc : IntKind.i64.wrap (c : Int) = (c : Int) := by rw [IntKind.wrap_i64]; omega
  obtain ⟨wd, hwd⟩ : ∃ wd : Nat, IntKind.i64.wrap (1 + (c : Int)) = (wd : Int) ∧ 1 ≤ wd ∧ wd ≤ 9 := ⟨1 + c, by rw [IntKind.wrap_i64]; omega, by omega, by omega⟩
  obtain ⟨hww, hw1, hw9⟩ := hwd
  clear hy hy0 hc hc9
  obtain ⟨y2, hy⟩ : ∃ y2, y2 = IntKind.u64.wrap b := ⟨_, rfl⟩
  have hy0 : 0 ≤ y2 ∧ y2 ≤ 18446744073709551615 := by rw [hy, IntKind.wrap_u64]; omega
  obtain ⟨d, hc⟩ : ∃ d : Nat, y2 % 5 = (d : Int) := ⟨(y2 % 5).toNat, by omega⟩
  have hc9 : d < 5 := by omega
  have hy2' : IntKind.u64.wrap b = y2 := hy.symm
  have hct2 : y2.tmod 5 = (d : Int) := by rw [Int.tmod_eq_emod_of_nonneg hy0.1]; exact hc
  have hwc2 : IntKind.i64.wrap (d : Int) = (d : Int) := by rw [IntKind.wrap_i64]; omega
  obtain ⟨ht, hht⟩ : ∃ ht : Nat, IntKind.i64.wrap (1 + (d : Int)) = (ht : Int) ∧ 1 ≤ ht ∧ ht ≤ 5 := ⟨1 + d, by rw [IntKind.wrap_i64]; omega, by omega, by omega⟩
  obtain ⟨hww2, hh1, hh5⟩ := hht
  clear hy hy0 hc hc9
  go_enter Tryd.func3, Tryd.ntmps3
  go_wp2_with fail
  refine (works34_any _).mono ?_
  rintro e w1 ⟨rfl, b1⟩
  have hpn := pnew_any (wd : Int) (ht : Int) w1
  rw [show rowN (wd : Int) = wd from by unfold rowN; omega, show rowN (ht : Int) = ht from by unfold rowN; omega] at hpn
  go_wp2_with fail
  refine hpn.mono ?_
  rintro e w2 ⟨gp, gg, gr, R0, rfl, hp2, b2⟩
  have hrn := rpnew_any wd ht (by omega) (by omega) w2
  go_wp2_with fail
  refine hrn.mono ?_
  rintro e w3 ⟨v3, rfl, hv3, b3⟩
  obtain ⟨o3, k3, ev⟩ := hv3.len
  subst ev
  obtain ⟨L0, hL0⟩ : ∃ L0, L0 = List.replicate ht ((List.replicate wd zc, false) : Ln) := ⟨_, rfl⟩
  have he0 : Even L0 wd := by
    rw [hL0]
    refine ⟨by rw [List.length_replicate]; omega, by rw [List.length_replicate]; omega, by omega, by omega, fun i hi => ?_⟩
    rw [List.length_replicate] at hi
    simp [List.getD, List.getElem?_replicate, hi]
  rw [← hL0] at hp2 hv3 ⊢
  have hb4 := (Below.refl w3.heap.size w3).alloc (Nat.le_refl _) (.cells [Value.slice o3 L0.length k3, .int .i64 0, .int .i64 0, .bool false, .bool true].toArray 31)
  have hn4 := Has.new w3 [Value.slice o3 L0.length k3, .int .i64 0, .int .i64 0, .bool false, .bool true] 31
  have hq0 : QAt W w1.heap.size gp gg gr wd w3.heap.size R0 L0 0 0 false true L0 0 0 false true o3 k3 (w3.alloc (.cells [Value.slice o3 L0.length k3, .int .i64 0, .int .i64 0, .bool false, .bool true].toArray 31)) := by
    refine ⟨(hp2.below b3).below hb4, hn4, ?_, (b1.trans (b2.mono b1.size)).trans ((b3.mono (Nat.le_trans b1.size b2.size)).trans (hb4.mono (Nat.le_trans (Nat.le_trans b1.size b2.size) b3.size)))⟩
    exact ((hv3.zone (Y := fun x => w2.heap.size ≤ x ∧ x < w3.heap.size) (fun x hx hz => ⟨by omega, hx⟩)).below hb4).zone fun x hx hz => ⟨new_off hp2 x hz.1 hx, by omega⟩
  have HQ0 := Lib.hid hq0
  have HEV0 := Lib.hid he0
  obtain ⟨b8, hb8⟩ : ∃ b8, b8 = w3.heap.size := ⟨_, rfl⟩
  obtain ⟨BB, hBB⟩ : ∃ BB, BB = w1.heap.size := ⟨_, rfl⟩
  have HWB := Lib.hid (show W.heap.size ≤ BB from by rw [hBB]; exact b1.size)
  have HB8 := Lib.hid (show BB ≤ b8 from by rw [hBB, hb8]; exact Nat.le_trans b2.size b3.size)
  have HWB8 := Lib.hid (show W.heap.size ≤ b8 from Nat.le_trans HWB.out HB8.out)
  obtain ⟨W4, hW4⟩ : ∃ W4, W4 = w3.alloc (.cells [Value.slice o3 L0.length k3, .int .i64 0, .int .i64 0, .bool false, .bool true].toArray 31) := ⟨_, rfl⟩
  rw [← hW4, ← hb8, ← hBB] at HQ0
  have hW4' : W4 = w3.alloc (.cells #[Value.slice o3 L0.length k3, .int .i64 0, .int .i64 0, .bool false, .bool true] 31) := hW4
  clear hq0 he0 hn4 hb4 hv3 b3 hrn hpn hp2 b2 b1 hBB hW4 hL0
  go_upto_region 5 with (fail)
  rw [← hW4', ← hb8]
  clear hW4' hb8
  go_wp2
  go_loopw [9] (fun iv wr => ∃ (i : Nat) (R : List Rw) (Lk : List Ln) (r c : Int) (pd au : Bool) (o : Option Addr) (k : Nat), i ≤ m ∧ iv = .int .i64 i ∧ QAt W BB gp gg gr wd b8 R Lk r c pd au Lk r c pd au o k wr ∧ Even Lk wd) (fun iv _ => m - (intOf iv).toNat)
  case atStart => exact ⟨0, R0, L0, 0, 0, false, true, o3, k3, Nat.zero_le _, rfl, HQ0.out, HEV0.out⟩
  case round =>
    obtain ⟨i, R, Lk, r, c, pd, au, o, k, hi, rfl, hq, hev⟩ := hrel
    obtain ⟨wq, hwq⟩ : ∃ wq, wq = wr := ⟨_, rfl⟩
    subst hwq
    have HQ := Lib.hid hq
    have HEK := Lib.hid hev
    clear hq hev HQ0 HEV0
    by_cases hlt : i < m
    · obtain ⟨b, off, tv, rfl, hbb, c0, c1, c2, c3, c4, c5, htv⟩ := HC.out i hlt
      obtain ⟨⟨K, N, T, P, Q, S⟩, hS⟩ : ∃ y, y = A.getD i za := ⟨_, rfl⟩
      rw [← hS] at c0 c1 c3 c4 c5 htv
      simp only at c0 c1 c3 c4 c5 htv
      obtain ⟨ta, tc, rfl⟩ := htv.len
      obtain ⟨tn, htn⟩ : ∃ tn, tn = T.length := ⟨_, rfl⟩
      rw [← htn] at c2 htv
      have bw := HQ.out.2.2.2
      have c0 := (bw.cell (p := ⟨b, off + i * 6, none⟩) hbb).trans c0
      have c1 := (bw.cell (p := ⟨b, off + i * 6 + 1, none⟩) hbb).trans c1
      have c2 := (bw.cell (p := ⟨b, off + i * 6 + 2, none⟩) hbb).trans c2
      have c3 := (bw.cell (p := ⟨b, off + i * 6 + 3, none⟩) hbb).trans c3
      have c4 := (bw.cell (p := ⟨b, off + i * 6 + 4, none⟩) hbb).trans c4
      have c5 := (bw.cell (p := ⟨b, off + i * 6 + 5, none⟩) hbb).trans c5
      have hbs : b < wq.heap.size := Nat.lt_of_lt_of_le hbb bw.size
      have hb5 := (Below.refl wq.heap.size wq).alloc (Nat.le_refl _) (.cells [Value.int .i64 K, .int .i64 N, .slice ta tn tc, .int .i64 P, .int .i64 Q, .bool S].toArray 35)
      have hn5 := Has.new wq [Value.int .i64 K, .int .i64 N, .slice ta tn tc, .int .i64 P, .int .i64 Q, .bool S] 35
      obtain ⟨W5, hW5⟩ : ∃ W5, W5 = wq.alloc (.cells [Value.int .i64 K, .int .i64 N, .slice ta tn tc, .int .i64 P, .int .i64 Q, .bool S].toArray 35) := ⟨_, rfl⟩
      rw [← hW5] at hb5 hn5
      obtain ⟨g10, hg10⟩ : ∃ g10, g10 = wq.heap.size := ⟨_, rfl⟩
      rw [← hg10] at hn5
      have hW5' : W5 = wq.alloc (.cells #[Value.int .i64 K, .int .i64 N, .slice ta tn tc, .int .i64 P, .int .i64 Q, .bool S] 35) := hW5
      have HQ5 := Lib.hid (HQ.out.below hb5)
      have HX := Lib.hid hn5
      have HT5 := Lib.hid (((htv.zone (Y := fun x => x < W.heap.size) (fun x hx _ => hx)).below bw).below hb5)
      have HTO := Lib.hid (show ∀ (w' : World) (R' : List Rw), (∃ L' r' c' p' a', PenAt w' BB gp gg gr wd R' L' r' c' p' a') → ∀ x, x < W.heap.size → ¬ PZ w' gp gr R' x from fun w' R' ⟨_, _, _, _, _, h⟩ x hx e => by
        have := pz_ge h (Nat.le_trans h.2.1 (Nat.le_of_lt h.lt)) x e
        have := HWB.out
        omega)
      have HGE := Lib.hid (show b8 < wq.heap.size ∧ wq.heap.size = g10 from ⟨HQ.out.2.1.lt, hg10.symm⟩)
      have HTN := Lib.hid htn
      clear bw hb5 hn5 hW5 htv hS hbb htn
      go_upto_region 9 with (fail)
      rw [← hW5', ← hg10]
      clear c0 c1 c2 c3 c4 c5 hW5' hg10 hbs
      have hxb := HX.out
      have y0 := hxb.cell 0 _ rfl
      have y1 := hxb.cell 1 _ rfl
      have y2 := hxb.cell 2 _ rfl
      have y3 := hxb.cell 3 _ rfl
      have y4 := hxb.cell 4 _ rfl
      have y5 := hxb.cell 5 _ rfl
      clear hxb
      by_cases h40 : 40 < tn
      · have hd40 : decide ((40 : Int) < tn) = true := by rw [decide_eq_true_eq]; omega
        have HF := Lib.hid HQ5.out.2.2.2
        go_wp2
        go_ret
        exact ⟨(ret_eq (by first | rfl | (simp <;> omega))), HF.out⟩

      have hd40 : decide ((40 : Int) < tn) = false := by rw [decide_eq_false_iff_not]; omega
      obtain ⟨r2, hr2, hlr⟩ := in_nat r HEK.out.1 (by have := HEK.out.2.1; omega)
      obtain ⟨c2, hc2, hlc⟩ := in_nat c HEK.out.2.2.1 HEK.out.2.2.2.1
      obtain ⟨pd2, hpd2⟩ : ∃ pd2, holdP c pd wd = pd2 := ⟨_, rfl⟩
      have HR2 := Lib.hid hr2
      have HC2 := Lib.hid hc2
      have HPD := Lib.hid hpd2
      have HLR := Lib.hid hlr
      have HLC := Lib.hid hlc
      have HTX := Lib.hid (HT5.out.zone (Y := fun x => ¬ PZ W5 gp gr R x) (fun x _ hx => HTO.out W5 R ⟨_, _, _, _, _, HQ5.out.1⟩ x hx))
      clear hr2 hc2 hpd2 hlr hlc
      by_cases hk0 : K = 0
      ·
        have k0 : (K == 0) = true := by rw [beq_iff_eq]; omega
        have hpu := pput_any BB gp gg gr wd R Lk r c pd au N (.slice ta tn tc) T W5 HQ5.out.1 HTX.out r2 c2 pd2 HR2.out HC2.out HPD.out HLR.out HLC.out
        obtain ⟨LP, hLP⟩ : ∃ LP, LP = plcL Lk wd r2 c2 pd2 au N T := ⟨_, rfl⟩
        obtain ⟨rr, hrr⟩ : ∃ rr, rr = plcR Lk wd r2 c2 pd2 au N := ⟨_, rfl⟩
        obtain ⟨cc, hcc⟩ : ∃ cc, cc = plcC wd c2 pd2 au N := ⟨_, rfl⟩
        have HEV := Lib.hid (show Even LP wd from by rw [hLP]; exact plc_even HEK.out pd2 au N T HLR.out)
        have HRP := Lib.hid (fun (Zq : Zone) (w' : World) (h1 : HeldE lineE Zq w' (.slice o Lk.length k) Lk) (h2 : HeldE (intE .i32) Zq w' (.slice ta tn tc) T) (h3 : ∀ b, Zq b → b < w'.heap.size) => rpput_any Zq (.slice o Lk.length k) Lk r c pd au N (.slice ta tn tc) T w' wd h1 h2 h3 HEK.out r2 c2 pd2 HR2.out HC2.out HPD.out HLR.out HLC.out)
        rw [← hLP, ← hrr, ← hcc] at hpu HRP
        obtain ⟨ac, hac⟩ : ∃ ac, ac = aftC (cc : Int) (plcK wd N) wd := ⟨_, rfl⟩
        obtain ⟨ap, hap⟩ : ∃ ap, ap = aftP (cc : Int) (plcK wd N) wd au := ⟨_, rfl⟩
        rw [← hac, ← hap] at hpu HRP
        obtain ⟨lk, hlk⟩ : ∃ lk, lk = Lk.length := ⟨_, rfl⟩
        have HLK := Lib.hid hlk
        rw [← hlk] at HRP
        have HPU := Lib.hid hpu
        clear hpu hLP hrr hcc hac hap hlk
        go_wp2_with fail
        refine HPU.out.mono ?_
        rintro e w6 ⟨rfl, k6⟩
        have hbb := HQ5.out.1.2.1
        have hlt5 := HQ5.out.1.lt
        obtain ⟨R6, k61, k62, k63⟩ := k6
        have hx6 := k62.keep.has HX.out (has_off HQ5.out.1 HX.out (by decide) (by decide) (by decide) (by decide) (by decide))
        obtain ⟨R7, q6⟩ := QAt.go HWB.out (by omega) HQ5.out ⟨R6, k61, k62, k63⟩
        have ht6 := HT5.out.upd k62 (fun x hx e => HTO.out W5 R ⟨_, _, _, _, _, HQ5.out.1⟩ x hx e)
        have hb7 := (Below.refl w6.heap.size w6).alloc (Nat.le_refl _) (.cells [Value.int .i64 rr, .int .i64 cc, .bool false].toArray 29)
        have hn7 := Has.new w6 [Value.int .i64 rr, .int .i64 cc, .bool false] 29
        obtain ⟨W7, hW7⟩ : ∃ W7, W7 = w6.alloc (.cells [Value.int .i64 rr, .int .i64 cc, .bool false].toArray 29) := ⟨_, rfl⟩
        rw [← hW7] at hb7 hn7
        have hW7' : W7 = w6.alloc (.cells #[Value.int .i64 rr, .int .i64 cc, .bool false] 29) := hW7
        obtain ⟨g11, hg11⟩ : ∃ g11, g11 = w6.heap.size := ⟨_, rfl⟩
        rw [← hg11] at hn7
        have HW7' := Lib.hid hW7'
        have HG11 := Lib.hid hg11
        have hb8' := (Below.refl W7.heap.size W7).alloc (Nat.le_refl _) (.cells [Value.int .i64 0, .int .i64 0, .bool false].toArray 29)
        have hn8 := Has.new W7 [Value.int .i64 0, .int .i64 0, .bool false] 29
        obtain ⟨W8, hW8⟩ : ∃ W8, W8 = W7.alloc (.cells [Value.int .i64 0, .int .i64 0, .bool false].toArray 29) := ⟨_, rfl⟩
        rw [← hW8] at hb8' hn8
        have hW8' : W8 = W7.alloc (.cells #[Value.int .i64 0, .int .i64 0, .bool false] 29) := hW8
        obtain ⟨g12, hg12⟩ : ∃ g12, g12 = W7.heap.size := ⟨_, rfl⟩
        rw [← hg12] at hn8
        have HW8' := Lib.hid hW8'
        have HG12 := Lib.hid hg12
        have HQ8 := Lib.hid ((q6.below hb7).below hb8')
        have hx8 := (hx6.below hb7 hx6.lt).below hb8' (by have := hx6.lt; have := hb7.size; omega)
        have HX8 := Lib.hid hx8
        have HT8 := Lib.hid ((ht6.below hb7).below hb8')
        have H11 := Lib.hid (hn7.below hb8' hn7.lt)
        have H12 := Lib.hid hn8
        have HSZ8 := Lib.hid (show g11 ≠ g12 ∧ W5.heap.size ≤ g11 ∧ W5.heap.size ≤ g12 from ⟨by have := hn7.lt; omega, by rw [hg11]; exact k62.size, by rw [hg12]; exact Nat.le_trans k62.size hb7.size⟩)
        clear hx6 q6 ht6 hb7 hn7 hW7 hb8' hn8 hW8 hx8 k61 k62 k63 y0 y1 y2 y3 y4 y5 HPU hbb hlt5 hW7' hW8' hg11 hg12
        go_upto_region 17 with (fail)
        rw [← HW7'.out]
        rw [← HG11.out]
        go_upto_region 18 with (fail)
        rw [← HW8'.out]
        rw [← HG12.out]
        clear HW7' HW8' HG11 HG12
        have hqb := HQ8.out.2.1
        rw [← HLK.out] at hqb
        have hxb := HX8.out
        have q0 := hqb.cell 0 _ rfl
        have q1 := hqb.cell 1 _ rfl
        have q2 := hqb.cell 2 _ rfl
        have q3 := hqb.cell 3 _ rfl
        have q4 := hqb.cell 4 _ rfl
        have y0 := hxb.cell 0 _ rfl
        have y1 := hxb.cell 1 _ rfl
        have y2 := hxb.cell 2 _ rfl
        have y3 := hxb.cell 3 _ rfl
        have y4 := hxb.cell 4 _ rfl
        have y5 := hxb.cell 5 _ rfl
        clear hqb hxb
        have hrp := HRP.out (fun b => (¬ PZ W8 gp gr R7 b ∧ b ≠ b8) ∧ b < W8.heap.size) W8 (by have h := HQ8.out.2.2.1.zone (Y := fun b => (¬ PZ W8 gp gr R7 b ∧ b ≠ b8) ∧ b < W8.heap.size) (fun b hb hz => ⟨hz, hb⟩); rw [← HLK.out] at h; exact h) (HT8.out.zone fun b hb hz => ⟨⟨fun e => HTO.out W8 R7 ⟨_, _, _, _, _, HQ8.out.1⟩ b hz e, by have := HWB8.out; omega⟩, hb⟩) (fun b hb => hb.2)
        go_wp2_with fail
        refine hrp.mono ?_
        rintro e w9 ⟨v9, rfl, h9, b9⟩
        obtain ⟨o9, k9, ev9⟩ := h9.len
        subst ev9
        obtain ⟨n9, hn9⟩ : ∃ n9, n9 = LP.length := ⟨_, rfl⟩
        have HN9 := Lib.hid hn9
        rw [← hn9] at h9 ⊢
        have q10 := QAt.put (r3 := rr) (c3 := ac) (pd3 := ap) (au3 := au) HWB8.out HQ8.out b9 h9
        have hqb := HQ8.out.2.1.below b9 HQ8.out.2.1.lt
        have f0 := hqb.free 0
        have f1 := hqb.free 1
        have f2 := hqb.free 2
        have f3 := hqb.free 3
        have f4 := hqb.free 4
        have hu10 := pres_upd (W := w9) b8 (.slice o9 n9 k9) (.int .i64 rr) (.int .i64 ac) (.bool ap) (.bool au)
        have hne11 : g11 ≠ b8 := by have := HSZ8.out; have := HQ5.out.2.1.lt; omega
        have hne12 : g12 ≠ b8 := by have := HSZ8.out; have := HQ5.out.2.1.lt; omega
        have h11 := hu10.keep.has (H11.out.below b9 H11.out.lt) (fun e => hne11 e)
        have h12 := hu10.keep.has (H12.out.below b9 H12.out.lt) (fun e => hne12 e)
        obtain ⟨W10, hW10⟩ : ∃ W10, W10 = (((((w9.setCell ⟨b8, 0, none⟩ (.slice o9 n9 k9)).setCell ⟨b8, 1, none⟩ (.int .i64 rr)).setCell ⟨b8, 2, none⟩ (.int .i64 ac)).setCell ⟨b8, 3, none⟩ (.bool ap)).setCell ⟨b8, 4, none⟩ (.bool au)) := ⟨_, rfl⟩
        rw [← hW10] at q10 h11 h12
        have hu12 : Upd (fun x => x = g12) W10 (((W10.setCell ⟨g12, 0, none⟩ (.int .i64 rr)).setCell ⟨g12, 1, none⟩ (.int .i64 cc)).setCell ⟨g12, 2, none⟩ (.bool false)) := (((Upd.refl (fun b => b = g12) W10).setCell (p := ⟨g12, 0, none⟩) (.inl rfl) _).setCell (p := ⟨g12, 1, none⟩) (.inl rfl) _).setCell (p := ⟨g12, 2, none⟩) (.inl rfl) _
        have q11 := QAt.cursor HWB8.out q10 h12 (show W.heap.size ≤ g12 from by have := HSZ8.out; have := HQ5.out.2.1.lt; have := HWB8.out; omega) hne12 hu12
        have h12' := ((h12.set 0 (.int .i64 rr)).set 1 (.int .i64 cc)).set 2 (.bool false)
        have h11' := hu12.keep.has h11 (fun e => HSZ8.out.1 e)
        have z0 := (H12.out.below b9 H12.out.lt).cell 0 _ rfl
        have z1 := (H12.out.below b9 H12.out.lt).cell 1 _ rfl
        have z2 := (H12.out.below b9 H12.out.lt).cell 2 _ rfl
        have s0 := (H12.out.below b9 H12.out.lt).free 0
        have s1 := (H12.out.below b9 H12.out.lt).free 1
        have s2 := (H12.out.below b9 H12.out.lt).free 2
        have x0 := hqb.cell 0 _ rfl
        have x1 := hqb.cell 1 _ rfl
        have x2 := hqb.cell 2 _ rfl
        have x3 := hqb.cell 3 _ rfl
        have x4 := hqb.cell 4 _ rfl
        obtain ⟨W11, hW11⟩ : ∃ W11, W11 = (((W10.setCell ⟨g12, 0, none⟩ (.int .i64 rr)).setCell ⟨g12, 1, none⟩ (.int .i64 cc)).setCell ⟨g12, 2, none⟩ (.bool false)) := ⟨_, rfl⟩
        rw [← hW11] at q11 h12' h11'
        have HQ11 := Lib.hid q11
        have H12' := Lib.hid h12'
        have H11' := Lib.hid h11'
        have HW10 := Lib.hid hW10
        have HW11 := Lib.hid hW11
        have HNE := Lib.hid hne12
        clear q10 q11 hu10 hu12 h11 h12 h12' h11' hqb hW10 hW11 hrp h9 b9 hn9 q0 q1 q2 q3 q4 y0 y1 y2 y3 y4 y5 hne11
        have hne12' : b8 ≠ g12 := fun e => hne12 e.symm
        go_upto_region 19 with (fail)
        rw [← HW10.out]
        rw [← HW11.out]
        clear f0 f1 f2 f3 f4 z0 z1 z2 s0 s1 s2 x0 x1 x2 x3 x4 hne12 hne12'
        have z0 := H12'.out.cell 0 _ rfl
        have z1 := H12'.out.cell 1 _ rfl
        have z2 := H12'.out.cell 2 _ rfl
        have x0 := H11'.out.cell 0 _ rfl
        have x1 := H11'.out.cell 1 _ rfl
        have x2 := H11'.out.cell 2 _ rfl
        have qn := cur_nonq rr cc false
        go_upto_region 27 with (fail)
        clear z0 z1 z2 x0 x1 x2 qn
        have hqb := HQ11.out.2.1
        rw [← HN9.out] at hqb
        have q0 := hqb.cell 0 _ rfl
        have q1 := hqb.cell 1 _ rfl
        have q2 := hqb.cell 2 _ rfl
        have q3 := hqb.cell 3 _ rfl
        have q4 := hqb.cell 4 _ rfl
        have hal := alike_any BB gp gg gr wd R7 LP rr ac ap au _ _ W11 HQ11.out.1 HQ11.out.2.2.1
        rw [← HN9.out] at hal
        have HAL := Lib.hid hal
        clear hqb hal
        go_wp2_with fail
        refine HAL.out.mono ?_
        rintro e wz ⟨rfl, bz⟩
        have HZZ := Lib.hid (HQ11.out.below bz)
        clear bz q0 q1 q2 q3 q4
        go_wp2
        go_roundw
        case rel => exact ⟨i + 1, R7, LP, rr, ac, ap, au, o9, k9, by omega, by go_num, HZZ.out, HEV.out⟩
        case measure => simp [intOf] <;> omega
      by_cases hk1 : K = 1
      ·
        have k0 : (K == 0) = false := by rw [beq_eq_false_iff_ne]; omega
        have k1 : (K == 1) = true := by rw [beq_iff_eq]; omega
        have hpu := pput_any BB gp gg gr wd R Lk r c pd au N (.slice ta tn tc) T W5 HQ5.out.1 HTX.out r2 c2 pd2 HR2.out HC2.out HPD.out HLR.out HLC.out
        obtain ⟨LP, hLP⟩ : ∃ LP, LP = plcL Lk wd r2 c2 pd2 au N T := ⟨_, rfl⟩
        obtain ⟨rr, hrr⟩ : ∃ rr, rr = plcR Lk wd r2 c2 pd2 au N := ⟨_, rfl⟩
        obtain ⟨cc, hcc⟩ : ∃ cc, cc = plcC wd c2 pd2 au N := ⟨_, rfl⟩
        have HEV := Lib.hid (show Even LP wd from by rw [hLP]; exact plc_even HEK.out pd2 au N T HLR.out)
        have HRP := Lib.hid (fun (Zq : Zone) (w' : World) (h1 : HeldE lineE Zq w' (.slice o Lk.length k) Lk) (h2 : HeldE (intE .i32) Zq w' (.slice ta tn tc) T) (h3 : ∀ b, Zq b → b < w'.heap.size) => rpput_any Zq (.slice o Lk.length k) Lk r c pd au N (.slice ta tn tc) T w' wd h1 h2 h3 HEK.out r2 c2 pd2 HR2.out HC2.out HPD.out HLR.out HLC.out)
        rw [← hLP, ← hrr, ← hcc] at hpu HRP
        obtain ⟨ac, hac⟩ : ∃ ac, ac = aftC (cc : Int) (plcK wd N) wd := ⟨_, rfl⟩
        obtain ⟨ap, hap⟩ : ∃ ap, ap = aftP (cc : Int) (plcK wd N) wd au := ⟨_, rfl⟩
        rw [← hac, ← hap] at hpu HRP
        obtain ⟨lk, hlk⟩ : ∃ lk, lk = Lk.length := ⟨_, rfl⟩
        have HLK := Lib.hid hlk
        rw [← hlk] at HRP
        have HPU := Lib.hid hpu
        clear hpu hLP hrr hcc hac hap hlk
        go_wp2_with fail
        refine HPU.out.mono ?_
        rintro e w6 ⟨rfl, k6⟩
        have hbb := HQ5.out.1.2.1
        have hlt5 := HQ5.out.1.lt
        obtain ⟨R6, k61, k62, k63⟩ := k6
        have hx6 := k62.keep.has HX.out (has_off HQ5.out.1 HX.out (by decide) (by decide) (by decide) (by decide) (by decide))
        obtain ⟨R7, q6⟩ := QAt.go HWB.out (by omega) HQ5.out ⟨R6, k61, k62, k63⟩
        have ht6 := HT5.out.upd k62 (fun x hx e => HTO.out W5 R ⟨_, _, _, _, _, HQ5.out.1⟩ x hx e)
        have hb7 := (Below.refl w6.heap.size w6).alloc (Nat.le_refl _) (.cells [Value.int .i64 rr, .int .i64 cc, .bool false].toArray 29)
        have hn7 := Has.new w6 [Value.int .i64 rr, .int .i64 cc, .bool false] 29
        obtain ⟨W7, hW7⟩ : ∃ W7, W7 = w6.alloc (.cells [Value.int .i64 rr, .int .i64 cc, .bool false].toArray 29) := ⟨_, rfl⟩
        rw [← hW7] at hb7 hn7
        have hW7' : W7 = w6.alloc (.cells #[Value.int .i64 rr, .int .i64 cc, .bool false] 29) := hW7
        obtain ⟨g11, hg11⟩ : ∃ g11, g11 = w6.heap.size := ⟨_, rfl⟩
        rw [← hg11] at hn7
        have HW7' := Lib.hid hW7'
        have HG11 := Lib.hid hg11
        have hb8' := (Below.refl W7.heap.size W7).alloc (Nat.le_refl _) (.cells [Value.int .i64 0, .int .i64 0, .bool false].toArray 29)
        have hn8 := Has.new W7 [Value.int .i64 0, .int .i64 0, .bool false] 29
        obtain ⟨W8, hW8⟩ : ∃ W8, W8 = W7.alloc (.cells [Value.int .i64 0, .int .i64 0, .bool false].toArray 29) := ⟨_, rfl⟩
        rw [← hW8] at hb8' hn8
        have hW8' : W8 = W7.alloc (.cells #[Value.int .i64 0, .int .i64 0, .bool false] 29) := hW8
        obtain ⟨g12, hg12⟩ : ∃ g12, g12 = W7.heap.size := ⟨_, rfl⟩
        rw [← hg12] at hn8
        have HW8' := Lib.hid hW8'
        have HG12 := Lib.hid hg12
        have HQ8 := Lib.hid ((q6.below hb7).below hb8')
        have hx8 := (hx6.below hb7 hx6.lt).below hb8' (by have := hx6.lt; have := hb7.size; omega)
        have HX8 := Lib.hid hx8
        have HT8 := Lib.hid ((ht6.below hb7).below hb8')
        have H11 := Lib.hid (hn7.below hb8' hn7.lt)
        have H12 := Lib.hid hn8
        have HSZ8 := Lib.hid (show g11 ≠ g12 ∧ W5.heap.size ≤ g11 ∧ W5.heap.size ≤ g12 from ⟨by have := hn7.lt; omega, by rw [hg11]; exact k62.size, by rw [hg12]; exact Nat.le_trans k62.size hb7.size⟩)
        clear hx6 q6 ht6 hb7 hn7 hW7 hb8' hn8 hW8 hx8 k61 k62 k63 y0 y1 y2 y3 y4 y5 HPU hbb hlt5 hW7' hW8' hg11 hg12
        go_upto_region 17 with (fail)
        rw [← HW7'.out]
        rw [← HG11.out]
        go_upto_region 18 with (fail)
        rw [← HW8'.out]
        rw [← HG12.out]
        clear HW7' HW8' HG11 HG12
        have hqb := HQ8.out.2.1
        rw [← HLK.out] at hqb
        have hxb := HX8.out
        have q0 := hqb.cell 0 _ rfl
        have q1 := hqb.cell 1 _ rfl
        have q2 := hqb.cell 2 _ rfl
        have q3 := hqb.cell 3 _ rfl
        have q4 := hqb.cell 4 _ rfl
        have y0 := hxb.cell 0 _ rfl
        have y1 := hxb.cell 1 _ rfl
        have y2 := hxb.cell 2 _ rfl
        have y3 := hxb.cell 3 _ rfl
        have y4 := hxb.cell 4 _ rfl
        have y5 := hxb.cell 5 _ rfl
        clear hqb hxb
        have hrp := HRP.out (fun b => (¬ PZ W8 gp gr R7 b ∧ b ≠ b8) ∧ b < W8.heap.size) W8 (by have h := HQ8.out.2.2.1.zone (Y := fun b => (¬ PZ W8 gp gr R7 b ∧ b ≠ b8) ∧ b < W8.heap.size) (fun b hb hz => ⟨hz, hb⟩); rw [← HLK.out] at h; exact h) (HT8.out.zone fun b hb hz => ⟨⟨fun e => HTO.out W8 R7 ⟨_, _, _, _, _, HQ8.out.1⟩ b hz e, by have := HWB8.out; omega⟩, hb⟩) (fun b hb => hb.2)
        go_wp2_with fail
        refine hrp.mono ?_
        rintro e w9 ⟨v9, rfl, h9, b9⟩
        obtain ⟨o9, k9, ev9⟩ := h9.len
        subst ev9
        obtain ⟨n9, hn9⟩ : ∃ n9, n9 = LP.length := ⟨_, rfl⟩
        have HN9 := Lib.hid hn9
        rw [← hn9] at h9 ⊢
        have q10 := QAt.put (r3 := rr) (c3 := ac) (pd3 := ap) (au3 := au) HWB8.out HQ8.out b9 h9
        have hqb := HQ8.out.2.1.below b9 HQ8.out.2.1.lt
        have f0 := hqb.free 0
        have f1 := hqb.free 1
        have f2 := hqb.free 2
        have f3 := hqb.free 3
        have f4 := hqb.free 4
        have hu10 := pres_upd (W := w9) b8 (.slice o9 n9 k9) (.int .i64 rr) (.int .i64 ac) (.bool ap) (.bool au)
        have hne11 : g11 ≠ b8 := by have := HSZ8.out; have := HQ5.out.2.1.lt; omega
        have hne12 : g12 ≠ b8 := by have := HSZ8.out; have := HQ5.out.2.1.lt; omega
        have h11 := hu10.keep.has (H11.out.below b9 H11.out.lt) (fun e => hne11 e)
        have h12 := hu10.keep.has (H12.out.below b9 H12.out.lt) (fun e => hne12 e)
        obtain ⟨W10, hW10⟩ : ∃ W10, W10 = (((((w9.setCell ⟨b8, 0, none⟩ (.slice o9 n9 k9)).setCell ⟨b8, 1, none⟩ (.int .i64 rr)).setCell ⟨b8, 2, none⟩ (.int .i64 ac)).setCell ⟨b8, 3, none⟩ (.bool ap)).setCell ⟨b8, 4, none⟩ (.bool au)) := ⟨_, rfl⟩
        rw [← hW10] at q10 h11 h12
        have hu12 : Upd (fun x => x = g12) W10 (((W10.setCell ⟨g12, 0, none⟩ (.int .i64 rr)).setCell ⟨g12, 1, none⟩ (.int .i64 cc)).setCell ⟨g12, 2, none⟩ (.bool false)) := (((Upd.refl (fun b => b = g12) W10).setCell (p := ⟨g12, 0, none⟩) (.inl rfl) _).setCell (p := ⟨g12, 1, none⟩) (.inl rfl) _).setCell (p := ⟨g12, 2, none⟩) (.inl rfl) _
        have q11 := QAt.cursor HWB8.out q10 h12 (show W.heap.size ≤ g12 from by have := HSZ8.out; have := HQ5.out.2.1.lt; have := HWB8.out; omega) hne12 hu12
        have h12' := ((h12.set 0 (.int .i64 rr)).set 1 (.int .i64 cc)).set 2 (.bool false)
        have h11' := hu12.keep.has h11 (fun e => HSZ8.out.1 e)
        have z0 := (H12.out.below b9 H12.out.lt).cell 0 _ rfl
        have z1 := (H12.out.below b9 H12.out.lt).cell 1 _ rfl
        have z2 := (H12.out.below b9 H12.out.lt).cell 2 _ rfl
        have s0 := (H12.out.below b9 H12.out.lt).free 0
        have s1 := (H12.out.below b9 H12.out.lt).free 1
        have s2 := (H12.out.below b9 H12.out.lt).free 2
        have x0 := hqb.cell 0 _ rfl
        have x1 := hqb.cell 1 _ rfl
        have x2 := hqb.cell 2 _ rfl
        have x3 := hqb.cell 3 _ rfl
        have x4 := hqb.cell 4 _ rfl
        obtain ⟨W11, hW11⟩ : ∃ W11, W11 = (((W10.setCell ⟨g12, 0, none⟩ (.int .i64 rr)).setCell ⟨g12, 1, none⟩ (.int .i64 cc)).setCell ⟨g12, 2, none⟩ (.bool false)) := ⟨_, rfl⟩
        rw [← hW11] at q11 h12' h11'
        have HQ11 := Lib.hid q11
        have H12' := Lib.hid h12'
        have H11' := Lib.hid h11'
        have HW10 := Lib.hid hW10
        have HW11 := Lib.hid hW11
        have HNE := Lib.hid hne12
        clear q10 q11 hu10 hu12 h11 h12 h12' h11' hqb hW10 hW11 hrp h9 b9 hn9 q0 q1 q2 q3 q4 y0 y1 y2 y3 y4 y5 hne11
        have hne12' : b8 ≠ g12 := fun e => hne12 e.symm
        go_upto_region 19 with (fail)
        rw [← HW10.out]
        rw [← HW11.out]
        clear f0 f1 f2 f3 f4 z0 z1 z2 s0 s1 s2 x0 x1 x2 x3 x4 hne12 hne12'
        have z0 := H12'.out.cell 0 _ rfl
        have z1 := H12'.out.cell 1 _ rfl
        have z2 := H12'.out.cell 2 _ rfl
        have x0 := H11'.out.cell 0 _ rfl
        have x1 := H11'.out.cell 1 _ rfl
        have x2 := H11'.out.cell 2 _ rfl
        have qn := cur_nonq rr cc false
        go_upto_region 27 with (fail)
        clear z0 z1 z2 x0 x1 x2 qn
        have hqb := HQ11.out.2.1
        rw [← HN9.out] at hqb
        have q0 := hqb.cell 0 _ rfl
        have q1 := hqb.cell 1 _ rfl
        have q2 := hqb.cell 2 _ rfl
        have q3 := hqb.cell 3 _ rfl
        have q4 := hqb.cell 4 _ rfl
        have hal := alike_any BB gp gg gr wd R7 LP rr ac ap au _ _ W11 HQ11.out.1 HQ11.out.2.2.1
        rw [← HN9.out] at hal
        have HAL := Lib.hid hal
        clear hqb hal
        go_wp2_with fail
        refine HAL.out.mono ?_
        rintro e wz ⟨rfl, bz⟩
        have HZZ := Lib.hid (HQ11.out.below bz)
        clear bz q0 q1 q2 q3 q4
        go_wp2
        go_roundw
        case rel => exact ⟨i + 1, R7, LP, rr, ac, ap, au, o9, k9, by omega, by go_num, HZZ.out, HEV.out⟩
        case measure => simp [intOf] <;> omega
      by_cases hk2 : K = 2
      ·
        have k0 : (K == 0) = false := by rw [beq_eq_false_iff_ne]; omega
        have k1 : (K == 1) = false := by rw [beq_eq_false_iff_ne]; omega
        have k2 : (K == 2) = true := by rw [beq_iff_eq]; omega
        have hpu := pnew_line BB gp gg gr wd R Lk r c pd au W5 HQ5.out.1 r2 c2 HR2.out HC2.out HLR.out
        obtain ⟨LP, hLP⟩ : ∃ LP, LP = downL Lk r2 := ⟨_, rfl⟩
        obtain ⟨rr, hrr⟩ : ∃ rr, rr = downR Lk r2 := ⟨_, rfl⟩
        have HEV := Lib.hid (show Even LP wd from by rw [hLP]; exact HEK.out.down r2)
        have HRP := Lib.hid (fun (Zq : Zone) (w' : World) (h1 : HeldE lineE Zq w' (.slice o Lk.length k) Lk) (h3 : ∀ b, Zq b → b < w'.heap.size) => rpnl_any Zq (.slice o Lk.length k) Lk r c pd au w' wd h1 h3 HEK.out r2 c2 HR2.out HC2.out HLR.out)
        rw [← hLP, ← hrr] at hpu HRP
        obtain ⟨lk, hlk⟩ : ∃ lk, lk = Lk.length := ⟨_, rfl⟩
        have HLK := Lib.hid hlk
        rw [← hlk] at HRP
        have HPU := Lib.hid hpu
        clear hpu hLP hrr hlk
        go_wp2_with fail
        refine HPU.out.mono ?_
        rintro e w6 ⟨rfl, k6⟩
        have hbb := HQ5.out.1.2.1
        have hlt5 := HQ5.out.1.lt
        obtain ⟨R7, q6⟩ := QAt.go HWB.out (by omega) HQ5.out k6
        have HQ8 := Lib.hid q6
        clear q6 k6 y0 y1 y2 y3 y4 y5 HPU hbb hlt5
        have hqb := HQ8.out.2.1
        rw [← HLK.out] at hqb
        have q0 := hqb.cell 0 _ rfl
        have q1 := hqb.cell 1 _ rfl
        have q2 := hqb.cell 2 _ rfl
        have q3 := hqb.cell 3 _ rfl
        have q4 := hqb.cell 4 _ rfl
        clear hqb
        have hrp := HRP.out (fun b => (¬ PZ w6 gp gr R7 b ∧ b ≠ b8) ∧ b < w6.heap.size) w6 (by have h := HQ8.out.2.2.1.zone (Y := fun b => (¬ PZ w6 gp gr R7 b ∧ b ≠ b8) ∧ b < w6.heap.size) (fun b hb hz => ⟨hz, hb⟩); rw [← HLK.out] at h; exact h) (fun b hb => hb.2)
        go_wp2_with fail
        refine hrp.mono ?_
        rintro e w9 ⟨v9, rfl, h9, b9⟩
        obtain ⟨o9, k9, ev9⟩ := h9.len
        subst ev9
        obtain ⟨n9, hn9⟩ : ∃ n9, n9 = LP.length := ⟨_, rfl⟩
        have HN9 := Lib.hid hn9
        rw [← hn9] at h9 ⊢
        have q10 := QAt.put (r3 := rr) (c3 := c2) (pd3 := false) (au3 := au) HWB8.out HQ8.out b9 h9
        have hqb := HQ8.out.2.1.below b9 HQ8.out.2.1.lt
        have f0 := hqb.free 0
        have f1 := hqb.free 1
        have f2 := hqb.free 2
        have f3 := hqb.free 3
        have f4 := hqb.free 4
        have x0 := hqb.cell 0 _ rfl
        have x1 := hqb.cell 1 _ rfl
        have x2 := hqb.cell 2 _ rfl
        have x3 := hqb.cell 3 _ rfl
        have x4 := hqb.cell 4 _ rfl
        obtain ⟨W11, hW11⟩ : ∃ W11, W11 = (((((w9.setCell ⟨b8, 0, none⟩ (.slice o9 n9 k9)).setCell ⟨b8, 1, none⟩ (.int .i64 rr)).setCell ⟨b8, 2, none⟩ (.int .i64 c2)).setCell ⟨b8, 3, none⟩ (.bool false)).setCell ⟨b8, 4, none⟩ (.bool au)) := ⟨_, rfl⟩
        rw [← hW11] at q10
        have HQ11 := Lib.hid q10
        have HW11 := Lib.hid hW11
        clear q10 hqb hW11 hrp h9 b9 hn9 q0 q1 q2 q3 q4
        go_upto_region 27 with (fail)
        rw [← HW11.out]
        clear f0 f1 f2 f3 f4 x0 x1 x2 x3 x4
        have hqb := HQ11.out.2.1
        rw [← HN9.out] at hqb
        have q0 := hqb.cell 0 _ rfl
        have q1 := hqb.cell 1 _ rfl
        have q2 := hqb.cell 2 _ rfl
        have q3 := hqb.cell 3 _ rfl
        have q4 := hqb.cell 4 _ rfl
        have hal := alike_any BB gp gg gr wd R7 LP rr c2 false au _ _ W11 HQ11.out.1 HQ11.out.2.2.1
        rw [← HN9.out] at hal
        have HAL := Lib.hid hal
        clear hqb hal
        go_wp2_with fail
        refine HAL.out.mono ?_
        rintro e wz ⟨rfl, bz⟩
        have HZZ := Lib.hid (HQ11.out.below bz)
        clear bz q0 q1 q2 q3 q4
        go_wp2
        go_roundw
        case rel => exact ⟨i + 1, R7, LP, rr, c2, false, au, o9, k9, by omega, by go_num, HZZ.out, HEV.out⟩
        case measure => simp [intOf] <;> omega
      by_cases hk3 : K = 3
      ·
        have k0 : (K == 0) = false := by rw [beq_eq_false_iff_ne]; omega
        have k1 : (K == 1) = false := by rw [beq_eq_false_iff_ne]; omega
        have k2 : (K == 2) = false := by rw [beq_eq_false_iff_ne]; omega
        have k3 : (K == 3) = true := by rw [beq_iff_eq]; omega
        have hbb := HQ5.out.1.2.1
        have hlt5 := HQ5.out.1.lt
        have HEV := Lib.hid HEK.out
        have k6 := PDo.cur HQ5.out.1 (Below.refl _ _) P Q S
        obtain ⟨W6, hW6⟩ : ∃ W6, W6 = (((W5.setCell ⟨gp, 1, none⟩ (.int .i64 P)).setCell ⟨gp, 2, none⟩ (.int .i64 Q)).setCell ⟨gp, 3, none⟩ (.bool S)) := ⟨_, rfl⟩
        rw [← hW6] at k6
        obtain ⟨R6, k61, k62, k63⟩ := k6
        have hx6 := k62.keep.has HX.out (has_off HQ5.out.1 HX.out (by decide) (by decide) (by decide) (by decide) (by decide))
        obtain ⟨R7, q6⟩ := QAt.go HWB.out (by omega) HQ5.out ⟨R6, k61, k62, k63⟩
        have HQ8 := Lib.hid q6
        have HX8 := Lib.hid hx6
        have p1 := HQ5.out.1.1.cell 1 _ rfl
        have p2 := HQ5.out.1.1.cell 2 _ rfl
        have p3 := HQ5.out.1.1.cell 3 _ rfl
        have f1 := HQ5.out.1.1.free 1
        have f2 := HQ5.out.1.1.free 2
        have f3 := HQ5.out.1.1.free 3
        have HW6 := Lib.hid hW6
        obtain ⟨lk, hlk⟩ : ∃ lk, lk = Lk.length := ⟨_, rfl⟩
        have HLK := Lib.hid hlk
        clear hx6 q6 k61 k62 k63 hW6 hbb hlt5 hlk
        go_upto_region 26 with (fail)
        rw [← HW6.out]
        clear p1 p2 p3 f1 f2 f3 y0 y1 y2 y3 y4 y5
        have hxb := HX8.out
        have y0 := hxb.cell 0 _ rfl
        have y1 := hxb.cell 1 _ rfl
        have y2 := hxb.cell 2 _ rfl
        have y3 := hxb.cell 3 _ rfl
        have y4 := hxb.cell 4 _ rfl
        have y5 := hxb.cell 5 _ rfl
        have hqb := HQ8.out.2.1
        rw [← HLK.out] at hqb
        have q0 := hqb.cell 0 _ rfl
        have q1 := hqb.cell 1 _ rfl
        have q2 := hqb.cell 2 _ rfl
        have q3 := hqb.cell 3 _ rfl
        have q4 := hqb.cell 4 _ rfl
        have f0 := hqb.free 0
        have f1 := hqb.free 1
        have f2 := hqb.free 2
        have f3 := hqb.free 3
        have f4 := hqb.free 4
        have q10 := QAt.cur HWB8.out HQ8.out P Q S
        obtain ⟨W11, hW11⟩ : ∃ W11, W11 = (((W6.setCell ⟨b8, 1, none⟩ (.int .i64 P)).setCell ⟨b8, 2, none⟩ (.int .i64 Q)).setCell ⟨b8, 3, none⟩ (.bool S)) := ⟨_, rfl⟩
        rw [← hW11] at q10
        have HQ11 := Lib.hid q10
        have HW11 := Lib.hid hW11
        clear hxb hqb q10 hW11
        go_upto_region 27 with (fail)
        rw [← HW11.out]
        clear f0 f1 f2 f3 f4 q0 q1 q2 q3 q4 y0 y1 y2 y3 y4 y5
        have hqb := HQ11.out.2.1
        rw [← HLK.out] at hqb
        have q0 := hqb.cell 0 _ rfl
        have q1 := hqb.cell 1 _ rfl
        have q2 := hqb.cell 2 _ rfl
        have q3 := hqb.cell 3 _ rfl
        have q4 := hqb.cell 4 _ rfl
        have hal := alike_any BB gp gg gr wd R7 Lk P Q S au _ _ W11 HQ11.out.1 HQ11.out.2.2.1
        rw [← HLK.out] at hal
        have HAL := Lib.hid hal
        clear hqb hal
        go_wp2_with fail
        refine HAL.out.mono ?_
        rintro e wz ⟨rfl, bz⟩
        have HZZ := Lib.hid (HQ11.out.below bz)
        clear bz q0 q1 q2 q3 q4
        go_wp2
        go_roundw
        case rel => exact ⟨i + 1, R7, Lk, P, Q, S, au, o, k, by omega, by go_num, HZZ.out, HEV.out⟩
        case measure => simp [intOf] <;> omega
      have k0 : (K == 0) = false := by rw [beq_eq_false_iff_ne]; omega
      have k1 : (K == 1) = false := by rw [beq_eq_false_iff_ne]; omega
      have k2 : (K == 2) = false := by rw [beq_eq_false_iff_ne]; omega
      have k3 : (K == 3) = false := by rw [beq_eq_false_iff_ne]; omega
      have hbb := HQ5.out.1.2.1
      have hlt5 := HQ5.out.1.lt
      have HEV := Lib.hid HEK.out
      obtain ⟨z, hzd⟩ : ∃ z, decide ((0 : Int) < N) = z := ⟨_, rfl⟩
      have k6 := PDo.auto HQ5.out.1 z
      obtain ⟨W6, hW6⟩ : ∃ W6, W6 = W5.setCell ⟨gp, 4, none⟩ (.bool z) := ⟨_, rfl⟩
      rw [← hW6] at k6
      obtain ⟨R6, k61, k62, k63⟩ := k6
      have hx6 := k62.keep.has HX.out (has_off HQ5.out.1 HX.out (by decide) (by decide) (by decide) (by decide) (by decide))
      obtain ⟨R7, q6⟩ := QAt.go HWB.out (by omega) HQ5.out ⟨R6, k61, k62, k63⟩
      have HQ8 := Lib.hid q6
      have HX8 := Lib.hid hx6
      have p4 := HQ5.out.1.1.cell 4 _ rfl
      have f4 := HQ5.out.1.1.free 4
      have HW6 := Lib.hid hW6
      obtain ⟨lk, hlk⟩ : ∃ lk, lk = Lk.length := ⟨_, rfl⟩
      have HLK := Lib.hid hlk
      clear hx6 q6 k61 k62 k63 hW6 hbb hlt5 hlk
      go_upto_region 13 with (fail)
      rw [← HW6.out]
      clear p4 f4 y0 y1 y2 y3 y4 y5
      have hxb := HX8.out
      have y0 := hxb.cell 0 _ rfl
      have y1 := hxb.cell 1 _ rfl
      have y2 := hxb.cell 2 _ rfl
      have y3 := hxb.cell 3 _ rfl
      have y4 := hxb.cell 4 _ rfl
      have y5 := hxb.cell 5 _ rfl
      have hqb := HQ8.out.2.1
      rw [← HLK.out] at hqb
      have q0 := hqb.cell 0 _ rfl
      have q1 := hqb.cell 1 _ rfl
      have q2 := hqb.cell 2 _ rfl
      have q3 := hqb.cell 3 _ rfl
      have q4 := hqb.cell 4 _ rfl
      have f0 := hqb.free 0
      have f1 := hqb.free 1
      have f2 := hqb.free 2
      have f3 := hqb.free 3
      have f4 := hqb.free 4
      have q10 := QAt.auto HWB8.out HQ8.out z
      obtain ⟨W11, hW11⟩ : ∃ W11, W11 = W6.setCell ⟨b8, 4, none⟩ (.bool z) := ⟨_, rfl⟩
      rw [← hW11] at q10
      have HQ11 := Lib.hid q10
      have HW11 := Lib.hid hW11
      clear hxb hqb q10 hW11
      go_upto_region 27 with (fail)
      rw [← HW11.out]
      clear f0 f1 f2 f3 f4 q0 q1 q2 q3 q4 y0 y1 y2 y3 y4 y5 hzd
      have hqb := HQ11.out.2.1
      rw [← HLK.out] at hqb
      have q0 := hqb.cell 0 _ rfl
      have q1 := hqb.cell 1 _ rfl
      have q2 := hqb.cell 2 _ rfl
      have q3 := hqb.cell 3 _ rfl
      have q4 := hqb.cell 4 _ rfl
      have hal := alike_any BB gp gg gr wd R7 Lk r c pd z _ _ W11 HQ11.out.1 HQ11.out.2.2.1
      rw [← HLK.out] at hal
      have HAL := Lib.hid hal
      clear hqb hal
      go_wp2_with fail
      refine HAL.out.mono ?_
      rintro e wz ⟨rfl, bz⟩
      have HZZ := Lib.hid (HQ11.out.below bz)
      clear bz q0 q1 q2 q3 q4
      go_wp2
      go_roundw
      case rel => exact ⟨i + 1, R7, Lk, r, c, pd, z, o, k, by omega, by go_num, HZZ.out, HEV.out⟩
      case measure => simp [intOf] <;> omega
    · obtain rfl : i = m := by omega
      have HF := Lib.hid HQ.out.2.2.2
      go_wp2
      go_ret
      exact ⟨(ret_eq (by first | rfl | (simp <;> omega))), HF.out⟩
set_option maxRecDepth 100000 in
theorem acts_arg {H : Type} {enc : TypeId × Value → H} {W : World} {base : Nat} {v : Value} {d : DataW H} {p : List MemPlace} (hv : Value.okWide Tryd.prog W .any base 22 v) (h : DataW.Trod enc Tryd.prog W 0 (fun _ => true) true 22 v d p) : ∃ L, HeldE actE (fun _ => True) W v L := by
  obtain ⟨L, hL, _⟩ := opens_arg (E := actE) Tryd.underlying22 (by kernel_rfl) (by decide) (opens_four Tryd.underlying35 (by kernel_rfl) rfl rfl rfl rfl (opens_int Tryd.underlying3 (by kernel_rfl)) (opens_int Tryd.underlying3 (by kernel_rfl)) (opens_slice Tryd.underlying33 (by kernel_rfl) (by decide) (opens_int Tryd.underlying21 (by kernel_rfl))) (opens_triple Tryd.underlying29 (by kernel_rfl) rfl rfl rfl (opens_int Tryd.underlying3 (by kernel_rfl)) (opens_int Tryd.underlying3 (by kernel_rfl)) (opens_bool Tryd.underlying4 (by kernel_rfl)))) hv h
  exact ⟨L, hL.zone (fun _ _ _ => trivial)⟩
set_option maxRecDepth 100000 in
theorem walk {H : Type} {enc : TypeId × Value → H} (W : World) (a : Int) (_ : (Lit.int .i64 a).wf = true) (b : Int) (_ : (Lit.int .i64 b).wf = true) (u : Value) {base : Nat} {d : DataW H} {p : List MemPlace} (hv : Value.okWide Tryd.prog W .any base 22 u) (h : DataW.Trod enc Tryd.prog W 0 (fun _ => true) true 22 u d p) (_ : laidMetH Tryd.prog Rows.placePlaysRow.laid W) : Calls Tryd.prog 3 #[.int .i64 a, .int .i64 b, u] W (Yes W) := by
  obtain ⟨A, hA⟩ := acts_arg hv h
  exact walkH W a b u A _ hA

theorem door_met (os : Os) : laidMetH Tryd.prog Rows.placePlaysRow.laid ((World.doorLaid Tryd.prog 400 os).forCall (fun _ _ => 0) ⟨#[], #[.int .i64 0, .int .i64 0, .slice none 0 0], []⟩).memory :=
  laidMetH_of_parts3 (fuel := 8) (laidMet_of_run' 8 (by kernel_rfl) (by kernel_rfl)) (by kernel_rfl) (by kernel_rfl)

set_option maxRecDepth 100000 in
theorem lifted (os : Os) (started : os.Started) (H : Type) (enc : TypeId × Value → H) :
    ReturnsInHanded {} Tryd.checked os 3 .any (fun w args => (Rows.placePlaysSpec.pre enc Tryd.prog Tryd.f3 [] false w args ∧ laidMetH Tryd.prog Rows.placePlaysRow.laid w) ∧ sizedMet enc Tryd.prog Tryd.f3 (OpenSpec.ofChange Rows.placePlaysSpec) false w args)
      (Rows.placePlaysSpec.post enc Tryd.prog Tryd.f3 false true false false) := by
  refine law_frame (C := Tryd.checked) (tb := 4) (by kernel_rfl) started (by kernel_rfl) Tryd.func3 (by kernel_rfl) (by kernel_rfl) Tryd.underlying4 rfl
    (by rw [Tryd.params3]; intro t ht; simp at ht; rcases ht with rfl | rfl <;> exact ⟨by kernel_rfl, of_decide_eq_true (by kernel_rfl)⟩)
    (by rw [Tryd.params3]; intro ds hd; match ds, hd with | [_, _, _], _ => rfl)
    (ChangeSpec.witness_shaped (enc := enc) (C := Tryd.checked) (os := os) (X := fun w _ => laidMetH Tryd.prog Rows.placePlaysRow.laid w) false (World.doorLaid Tryd.prog 400 os) #[.int .i64 0, .int .i64 0, .slice none 0 0] 8 rfl (World.shaped_of_RefB (by kernel_rfl) (by kernel_rfl)) (by kernel_rfl) (by kernel_rfl) (by kernel_rfl) (door_met os)) ?_
  intro W base args ds before hval hA hsz hL
  rw [Tryd.params3] at hA hval
  obtain ⟨v0, vs0, d0, ds0, p0, q0, hargs, rfl, rfl, h0, r0⟩ := trodAll_cons hA
  obtain ⟨v1, vs1, d1, ds1, p1, q1, rfl, rfl, rfl, h1, r1⟩ := trodAll_cons r0
  obtain ⟨v2, vs2, d2, ds2, p2, q2, rfl, rfl, rfl, h2, r2⟩ := trodAll_cons r1
  obtain ⟨rfl, rfl, rfl⟩ := trodAll_nil r2
  obtain rfl : args = #[v0, v1, v2] := by cases args; simp_all
  obtain ⟨x0, rfl, rfl, rfl, wx0⟩ := open_int Tryd.underlying3 (hval 0 3 v0 rfl rfl) h0
  obtain ⟨x1, rfl, rfl, rfl, wx1⟩ := open_int Tryd.underlying3 (hval 1 3 v1 rfl rfl) h1
  exact walk W x0 wx0 x1 wx1 v2 (hval 2 22 v2 rfl rfl) h2 hL

theorem said : Rows.PlacePlaysSaid :=
  OpenClaim.holds_of_wide 3 Tryd.f3 rfl rfl rfl rfl rfl rfl rfl ⟨rfl, rfl, rfl, rfl, rfl⟩ rfl rfl rfl rfl rfl (by kernel_rfl) Tryd.func3 (by kernel_rfl)
    (of_decide_eq_true (by kernel_rfl)) (by unfold Func.isWrapper; first | (rw [if_pos (by decide +kernel)]; kernel_rfl) | (rw [if_neg (by decide +kernel)]; exact ⟨rfl, rfl⟩))
    (fun os started H enc _ => lifted os started H enc)

theorem plain (f : FuncId) (fn : Func) (hf : Tryd.pinned.checked.prog.funcNamed "linotype/linotypelaw34.PlacePlays" = some f) (hfn : Tryd.pinned.checked.prog.funcs[f]? = some fn) :
    true = Tryd.pinned.checked.prog.looks [] ∧ ∀ (j : Nat) t, fn.params[j]? = some t → Tryd.pinned.checked.prog.wantsStandIn t = false := by
  obtain rfl : f = 3 := Option.some.inj ((show Tryd.prog.funcNamed "linotype/linotypelaw34.PlacePlays" = some 3 by kernel_rfl).symm.trans hf) |>.symm
  obtain rfl : fn = Tryd.f3 := (Option.some.inj (Tryd.func3.symm.trans hfn)).symm
  refine ⟨by kernel_rfl, fun j t ht => ?_⟩
  rw [Tryd.params3] at ht
  have hm : t ∈ [3, 3, 22] := by simpa using Array.mem_of_getElem? ht
  have hall : ([3, 3, 22].all fun u => !Tryd.prog.wantsStandIn u) = true := by kernel_rfl
  exact (show Tryd.prog.wantsStandIn t = false by simpa using List.all_eq_true.1 hall t hm)

/-- THE CARD. -/
theorem card : Rows.PlacePlaysCardSaid :=
  Claim7.holds_tied_plain_at .later [] _ _ _ _ said (fun _ h => by cases h) (by kernel_rfl) (fun _ h => by cases h) placePlays_row_tie rfl ⟨rfl, rfl⟩ (by kernel_rfl) rfl plain (by kernel_rfl)
#print axioms card

end Go.Proofs.YteinppjklhomnaaDoor.lawPlacePlays
