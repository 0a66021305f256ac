/- RowPaints (24.1 to 24.3) answers true at every width and every list of strokes, and turns nothing. Conditions: api's eight errors read as their initialisers lay them (tied to the program's text by the card). -/
import Derived.Test.YtfkeeigaocmalaaDoorRowW
import Derived.Test.YtfkeeigaocmalaaDoorRowX
import Derived.Test.YtfkeeigaocmalaaDoorCellU
import Derived.Test.YtfkeeigaocmalaaDoorCellS
import Derived.Test.YtfkeeigaocmalaaDoorErrS
import Derived.Test.YtfkeeigaocmalaaDoorCards
import Derived.Test.YtfkeeigaocmalaaDoorTie
import Derived.ProofKit
import Derived.Lib.MinMax
namespace Go.Proofs.YtfkeeigaocmalaaDoor.lawRowPaints
open Go.ChangeShapes Go.WideShapes Go.ChangeAt Go.RowKit
abbrev Stroke := Int × Bool × List Cl
def strokeE : Elem Stroke := prE (intE .i64) (prE boolE cellsE)
abbrev zs : Stroke := (0, false, [])
theorem stroke_rep {Z : Zone} {w : World} {C : List Value} {x : Stroke} : strokeE.rep Z w C x ↔ ∃ v, C = [.int .i64 x.1, .bool x.2.1, v] ∧ HeldE cellE Z w v x.2.2 := by
  constructor
  · rintro ⟨C1, C2, rfl, rfl, C3, C4, rfl, rfl, v, rfl, h⟩
    exact ⟨v, rfl, h⟩
  · rintro ⟨v, rfl, h⟩
    exact ⟨[_], [_, v], rfl, rfl, [_], [v], rfl, rfl, v, rfl, h⟩
theorem strokes_at {Z : Zone} {w : World} {ao : Option Addr} {n cap : Nat} {L : List Stroke} (h : HeldE strokeE Z w (.slice ao n cap) L) : n = L.length ∧ n ≤ cap ∧ ∀ i, i < L.length → ∃ b off v, ao = some ⟨b, off, none⟩ ∧ b < w.heap.size ∧ Z b ∧
    w.cell? ⟨b, off + i * 3, none⟩ = some (.int .i64 (L.getD i zs).1) ∧ w.cell? ⟨b, off + i * 3 + 1, none⟩ = some (.bool (L.getD i zs).2.1) ∧ w.cell? ⟨b, off + i * 3 + 2, none⟩ = some v ∧ HeldE cellE Z w v (L.getD i zs).2.2 := by
  obtain ⟨h1, h2, h3⟩ := h.spots
  refine ⟨h1, h2, fun i hi => ?_⟩
  obtain ⟨b, off, rfl, hb, hz, C, hC, hr⟩ := h3 i hi
  obtain ⟨v, rfl, ht⟩ := stroke_rep.1 hr
  exact ⟨b, off, v, rfl, hb, hz, hC 0 (by decide), hC 1 (by decide), hC 2 (by decide), ht⟩
set_option maxRecDepth 100000 in
set_option maxHeartbeats 8000000 in
theorem walkH (W : World) (n : Int) (vb : Value) (L : List Stroke) (Z : Zone) (hb : HeldE strokeE Z W vb L) (sa : Nat → Addr) (hsa : Sents W sa) : Calls Tryd.prog 4 #[.int .i64 n, vb] W (Yes W) := by
  have hlb := hb.max
  have hb := hb.lower
  obtain ⟨bo, cb, rfl⟩ := hb.len
  obtain ⟨_, _, hc⟩ := strokes_at hb
  have HC := Lib.hid hc
  have HSA := Lib.hid hsa
  clear hb hc hsa
  by_cases h1 : 60 < L.length
  · go_enter Tryd.func4, Tryd.ntmps4
    go_wp2_with fail
    refine (works24_any _).mono ?_
    rintro e w1 ⟨rfl, b1⟩
    go_wp2_with fail
    refine (works24_any _).mono ?_
    rintro e w2 ⟨rfl, b2⟩
    have b2 := b1.trans (b2.mono b1.size)
    go_wp2
    go_ret
    exact ⟨(ret_eq (by first | rfl | (simp <;> omega))), b2⟩
  · have h2 : L.length ≤ 60 := by omega
    clear h1
    obtain ⟨x, hx⟩ : ∃ x, x = IntKind.u64.wrap n := ⟨_, rfl⟩
    have hx0 : 0 ≤ x ∧ x ≤ 18446744073709551615 := by rw [hx, IntKind.wrap_u64]; omega
    obtain ⟨y, hy⟩ : ∃ y : Nat, x % 20 = y := ⟨(x % 20).toNat, by omega⟩
    have hy20 : y < 20 := by omega
    have hx' : IntKind.u64.wrap n = x := hx.symm
    obtain ⟨hx1, hx2⟩ := hx0
    clear hx
    obtain ⟨N, hN⟩ : ∃ N : Nat, (1 : Int) + y = N := ⟨y + 1, by omega⟩
    have hN1 : 1 ≤ N := by omega
    have hN2 : N ≤ 20 := by omega
    have hd60 : decide ((60 : Int) < L.length) = false := by simp; omega
    obtain ⟨i0, hi, hz0, hz1, hz2⟩ := info_parts info_cell
    have HI := Lib.hid (And.intro hi (And.intro hz0 (And.intro hz1 hz2)))
    have HRN := Lib.hid (show rowN (N : Int) = N by unfold rowN; omega)
    clear hi hz0 hz1 hz2
    go_enter Tryd.func4, Tryd.ntmps4
    go_wp2_with fail
    refine (works24_any _).mono ?_
    rintro e w1 ⟨rfl, b1⟩
    have B1 := Lib.hid b1
    clear b1
    go_wp2_with fail
    refine (rnew_any (fun _ => True) (N : Int) w1).mono ?_
    rintro e w2 ⟨g, gc, rfl, hr2, b2⟩
    rw [HRN.out] at hr2
    have hlt2 := hr2.lt
    have HLT := Lib.hid hlt2
    have HR2 := Lib.hid hr2
    have B2 := Lib.hid (B1.out.trans (b2.mono B1.out.size))
    clear hr2 b2 hlt2
    go_wp2_with (at_make; refine wpList_make_full w2 rfl (.tmp 32) (.tmp 32) 22 rfl w2.heap.size 37 i0 (.agg #[.int .i64 0, .slice none 0 0]) 2 Tryd.underlying22 HI.out.1 HI.out.2.1 HI.out.2.2.1 .i64 .i64 _ _ N rfl rfl rfl rfl (by rw [HI.out.2.2.2]; omega) (by unfold maxLen; omega) (Nat.le_refl _) ?_)
    intro w3 hown3 hg3
    have b3 : Below w2.heap.size w2 w3 := (Below.refl _ _).grown hg3 (Nat.le_refl _) (by intro k hk; cases hk)
    have ho3 := blank_own (Z := fun b => b ≠ g ∧ b ≠ gc) hown3
    have H3 := Lib.hid (ho3.held (fun b hb _ => by have := HLT.out; exact ⟨by omega, by omega⟩))
    have HR3 := Lib.hid (HR2.out.below b3)
    have B3 := Lib.hid (B2.out.trans (b3.mono B2.out.size))
    clear hown3 hg3 b3 ho3 hN
    go_wp2
    go_loopw [6, 7, 8] (fun cv wv i wr => ∃ (k : Nat) (Lk : List Cl) (wk : Bool), k ≤ L.length ∧ i = .int .i64 k ∧ wv = .bool wk ∧ RowAt (fun _ => True) wr w1.heap.size g gc Lk wk ∧ Go.RowKit.Hid (Lk.length = N) ∧ HeldE cellE (fun b => b ≠ g ∧ b ≠ gc) wr cv Lk ∧ Below W.heap.size W wr) (fun _ _ i _ => L.length - (intOf i).toNat)
    case atStart => exact ⟨0, List.replicate N zc, false, Nat.zero_le _, rfl, rfl, HR3.out, Lib.hid (by simp), H3.out, B3.out⟩
    case round =>
      obtain ⟨k, Lk, wk, hk, rfl, rfl, hr, HLN0, hcv, hbw⟩ := hrel
      have HR := Lib.hid hr
      have HCV := Lib.hid hcv
      have HBW := Lib.hid hbw
      clear hr hcv hbw
      by_cases hlt : k < L.length
      · obtain ⟨b, off, pv, rfl, hb, _, c0, c1, c2, hp⟩ := HC.out k hlt
        obtain ⟨⟨At, On, P⟩, hS⟩ : ∃ y, y = L.getD k zs := ⟨_, rfl⟩
        rw [← hS] at c0 c1 hp
        simp only at c0 c1 hp
        have hpm := hp.max
        have HF := Lib.hid (show ∀ w2, Below W.heap.size W w2 → w2.cell? ⟨b, off + k * 3, none⟩ = some (.int .i64 At) ∧ w2.cell? ⟨b, off + k * 3 + 1, none⟩ = some (.bool On) ∧ w2.cell? ⟨b, off + k * 3 + 2, none⟩ = some pv from fun w2 h => ⟨(h.cell (p := ⟨b, off + k * 3, none⟩) hb).trans c0, (h.cell (p := ⟨b, off + k * 3 + 1, none⟩) hb).trans c1, (h.cell (p := ⟨b, off + k * 3 + 2, none⟩) hb).trans c2⟩)
        have HP := Lib.hid hp
        obtain ⟨pa, pc, rfl⟩ := hp.len
        clear hS c0 c1 c2 hp hb
        obtain ⟨c0, c1, c2⟩ := HF.out wr HBW.out
        by_cases h40 : 40 < P.length
        · go_wp2
          go_ret
          exact ⟨(ret_eq (by first | rfl | (simp <;> omega))), HBW.out⟩
        · go_upto_if 51 with (fail)
          go_cut [7] from 52 to 53 (fun wv wx => wv = .bool (On || wk) ∧ RowAt (fun _ => True) wx w1.heap.size g gc Lk (On || wk) ∧ HeldE cellE (fun b => b ≠ g ∧ b ≠ gc) wx u6 Lk ∧ Below W.heap.size W wx)
          case first =>
            cases On with
            | false =>
              go_wp2
              go_meet
              case rel => exact ⟨rfl, HR.out, HCV.out, HBW.out⟩
            | true =>
              go_wp2_with fail
              refine (rgoon_any _ _ g gc _ _ true wr HR.out).mono ?_
              rintro e wx ⟨rfl, hrx, hux⟩
              have HRX := Lib.hid hrx
              have HUX := Lib.hid hux
              clear hrx hux c0 c1 c2
              go_wp2
              go_meet
              case rel => exact ⟨rfl, HRX.out, HCV.out.upd HUX.out (fun b hb e => by rcases e with e | e; exact hb.1 e; exact hb.2 e), HBW.out.upd HUX.out HBW.out.size (fun x e => by have := HLT.out; have := B1.out.size; rcases e with e | e <;> omega)⟩
          case rest =>
            obtain ⟨rfl, hrx, hcx, hbx⟩ := hcut
            obtain ⟨q, hq⟩ : ∃ q, q = (On || wk) := ⟨_, rfl⟩
            rw [← hq] at hrx ⊢
            have HRX := Lib.hid hrx
            have HCX := Lib.hid hcx
            have HBX := Lib.hid hbx
            have hltx := hrx.lt
            have HLX := Lib.hid hltx
            clear hq hrx hcx hbx c0 c1 c2 HR HCV HBW hltx
            go_wp2_with fail
            refine (rcopy_any _ _ g gc _ _ wc HRX.out).mono ?_
            rintro e w4 ⟨g2, gc2, rfl, hr4, b4⟩
            have HW4 := Lib.hid hr4
            have HR4 := Lib.hid (HRX.out.below b4)
            have HC4 := Lib.hid (HCX.out.below b4)
            have B4 := Lib.hid (HBX.out.trans (b4.mono HBX.out.size))
            have HS4 := Lib.hid b4.size
            have hl4 := hr4.lt
            have HL4 := Lib.hid hl4
            clear hr4 b4 hl4
            obtain ⟨c0, c1, c2⟩ := HF.out w4 B4.out
            have d0 := ext_cell c0
            have d2 := ext_cell c2
            clear c0 c1 c2
            go_wp2
            refine wp_region_ext_tail 11 (by kernel_rfl) (by simp) (by kernel_rfl) (by kernel_rfl) (by kernel_rfl) (by kernel_rfl) (by kernel_rfl) ?_
            simp only [List.take_succ_cons, List.take_zero, List.drop_succ_cons, List.drop_zero]
            repeat (go_big_quiet_step ((fail)))
            refine wpQuiet_nil ?_
            intro _ hw'
            obtain ⟨u, hw''⟩ := hw'
            subst hw''
            have b5 := u.ok
            obtain ⟨w5, hw5⟩ : ∃ w5, w5 = ext w4 u := ⟨_, rfl⟩
            have b5 : Below w4.heap.size w4 w5 := by rw [hw5]; exact u.ok
            rw [← hw5]
            have HW5 := Lib.hid (HW4.out.below b5)
            have HR5 := Lib.hid (HR4.out.below b5)
            have HC5 := Lib.hid (HC4.out.below b5)
            have B5 := Lib.hid (B4.out.trans (b5.mono B4.out.size))
            have HS5 := Lib.hid (Nat.le_trans HS4.out b5.size)
            clear hw5 b5 d0 d2
            by_cases hg : wrongI (N : Int) At P = 0
            · obtain ⟨a, rfl, hla, hsp⟩ := wrong_good hg
              have HG := Lib.hid hg
              have HSP := Lib.hid hsp
              clear hg hsp
              go_wp2_with fail
              refine (rpaint_good _ (fun b => b < W.heap.size) _ g gc Lk P q _ w5 HR5.out (HP.out.below B5.out) (fun b hb => by have := HLT.out; have := B1.out.size; exact ⟨by omega, by omega⟩) (fun _ _ => trivial) a (by rw [HLN0.out]; exact hla) HSP.out).mono ?_
              rintro e w6 ⟨rfl, hr6, hu6⟩
              have hus : ∀ x, (x = g ∨ x = gc) → w1.heap.size ≤ x ∧ x < wc.heap.size := fun x e => by have := HLX.out; rcases e with e | e <;> omega
              have HR6 := Lib.hid hr6
              have HC6 := Lib.hid (HC5.out.upd hu6 (fun b hb e => by rcases e with e | e; exact hb.1 e; exact hb.2 e))
              have HW6 := Lib.hid (HW5.out.upd hu6 (fun b hb e => by have := hus b e; omega) (fun e => by have := hus _ e; have := HL4.out; omega) (fun e => by have := hus _ e; have := HL4.out; omega))
              have B6 := Lib.hid (B5.out.upd hu6 B5.out.size (fun x e => by have := hus x e; have := B1.out.size; omega))
              have HU6 := Lib.hid hu6.size
              have HLN := Lib.hid (show (paintL Lk P a).length = N by rw [paint_len]; exact HLN0.out)
              clear hr6 hu6 hus
              obtain ⟨c0, c1, c2⟩ := HF.out w6 B6.out
              have d0 := ext_cell c0
              have d2 := ext_cell c2
              clear c0 c1 c2
              go_wp2
              refine wp_region_ext_tail 11 (by kernel_rfl) (by simp) (by kernel_rfl) (by kernel_rfl) (by kernel_rfl) (by kernel_rfl) (by kernel_rfl) ?_
              simp only [List.take_succ_cons, List.take_zero, List.drop_succ_cons, List.drop_zero]
              repeat (go_big_quiet_step ((fail)))
              refine wpQuiet_nil ?_
              intro _ hw'
              obtain ⟨u, hw''⟩ := hw'
              subst hw''
              obtain ⟨w7, hw7⟩ : ∃ w7, w7 = ext w6 u := ⟨_, rfl⟩
              have b7 : Below w6.heap.size w6 w7 := by rw [hw7]; exact u.ok
              rw [← hw7]
              clear hw7 d0 d2
              have B7 := Lib.hid (B6.out.trans (b7.mono B6.out.size))
              go_wp2_with fail
              have hwr := rwrong_any _ (N : Int) (a : Int) _ P w7 (HP.out.below B7.out) (by omega) (by omega)
              rw [HG.out] at hwr
              refine hwr.mono ?_
              rintro e w8 ⟨rfl, b8⟩
              have b8 := b7.trans (b8.mono b7.size)
              have HR8 := Lib.hid (HR6.out.below b8)
              have HC8 := Lib.hid (HC6.out.below b8)
              have HW8 := Lib.hid (HW6.out.below b8)
              have B8 := Lib.hid (B6.out.trans (b8.mono B6.out.size))
              have HU8 := Lib.hid (Nat.le_trans HU6.out b8.size)
              clear b7 b8 hwr
              go_wp2_with fail
              refine (code_nil w8).mono ?_
              rintro e w9 ⟨rfl, rfl⟩
              obtain ⟨Erg, hErg⟩ : ∃ EE : Nat → Value → World → Prop, EE = fun jj xx ww => match jj with
                  | 0 => xx = u6
                  | 1 => xx = .bool q
                  | 2 => xx = .slice (some ⟨b, off, none⟩) L.length cb
                  | 3 => xx = .int .i64 k
                  | 4 => xx = .pointer (some ⟨b, off + k * 3, none⟩)
                  | 5 => xx = .pointer (some ⟨b, off + k * 3, none⟩)
                  | 6 => xx = .int .i64 a
                  | 7 => xx = .slice (some ⟨b, off, none⟩) L.length cb
                  | 8 => xx = .int .i64 k
                  | 9 => xx = .pointer (some ⟨b, off + k * 3, none⟩)
                  | 10 => xx = .pointer (some ⟨b, off + k * 3 + 2, none⟩)
                  | 11 => xx = .slice pa P.length pc
                  | 12 => (fun x w' => ∃ v9, x = .tuple #[v9, .bool (q && !lastHit Lk P a)] ∧ OwnE cellE (fun b => b ≠ g ∧ b ≠ gc) w' w8.heap.size 37 v9 (paintL Lk P a)) xx ww
                  | 13 => (fun x w' => ∃ v9, x = .tuple #[v9, .bool (q && !lastHit Lk P a)] ∧ OwnE cellE (fun b => b ≠ g ∧ b ≠ gc) w' w8.heap.size 37 v9 (paintL Lk P a)) xx ww
                  | 14 => (fun x w' => OwnE cellE (fun b => b ≠ g ∧ b ≠ gc) w' w8.heap.size 37 x (paintL Lk P a)) xx ww
                  | 15 => xx = .bool (q && !lastHit Lk P a)
                  | 16 => (fun x w' => OwnE cellE (fun b => b ≠ g ∧ b ≠ gc) w' w8.heap.size 37 x (paintL Lk P a)) xx ww
                  | 17 => xx = .bool (q && !lastHit Lk P a)
                  | _ => True := ⟨_, rfl⟩
              have erg0 : ∀ xx ww, Erg 0 xx ww = (xx = u6) := fun xx ww => congrFun (congrFun (congrFun hErg 0) xx) ww
              have erg1 : ∀ xx ww, Erg 1 xx ww = (xx = .bool q) := fun xx ww => congrFun (congrFun (congrFun hErg 1) xx) ww
              have erg2 : ∀ xx ww, Erg 2 xx ww = (xx = .slice (some ⟨b, off, none⟩) L.length cb) := fun xx ww => congrFun (congrFun (congrFun hErg 2) xx) ww
              have erg3 : ∀ xx ww, Erg 3 xx ww = (xx = .int .i64 k) := fun xx ww => congrFun (congrFun (congrFun hErg 3) xx) ww
              have erg4 : ∀ xx ww, Erg 4 xx ww = (xx = .pointer (some ⟨b, off + k * 3, none⟩)) := fun xx ww => congrFun (congrFun (congrFun hErg 4) xx) ww
              have erg5 : ∀ xx ww, Erg 5 xx ww = (xx = .pointer (some ⟨b, off + k * 3, none⟩)) := fun xx ww => congrFun (congrFun (congrFun hErg 5) xx) ww
              have erg6 : ∀ xx ww, Erg 6 xx ww = (xx = .int .i64 a) := fun xx ww => congrFun (congrFun (congrFun hErg 6) xx) ww
              have erg7 : ∀ xx ww, Erg 7 xx ww = (xx = .slice (some ⟨b, off, none⟩) L.length cb) := fun xx ww => congrFun (congrFun (congrFun hErg 7) xx) ww
              have erg8 : ∀ xx ww, Erg 8 xx ww = (xx = .int .i64 k) := fun xx ww => congrFun (congrFun (congrFun hErg 8) xx) ww
              have erg9 : ∀ xx ww, Erg 9 xx ww = (xx = .pointer (some ⟨b, off + k * 3, none⟩)) := fun xx ww => congrFun (congrFun (congrFun hErg 9) xx) ww
              have erg10 : ∀ xx ww, Erg 10 xx ww = (xx = .pointer (some ⟨b, off + k * 3 + 2, none⟩)) := fun xx ww => congrFun (congrFun (congrFun hErg 10) xx) ww
              have erg11 : ∀ xx ww, Erg 11 xx ww = (xx = .slice pa P.length pc) := fun xx ww => congrFun (congrFun (congrFun hErg 11) xx) ww
              have erg12 : ∀ xx ww, Erg 12 xx ww = ((fun x w' => ∃ v9, x = .tuple #[v9, .bool (q && !lastHit Lk P a)] ∧ OwnE cellE (fun b => b ≠ g ∧ b ≠ gc) w' w8.heap.size 37 v9 (paintL Lk P a)) xx ww) := fun xx ww => congrFun (congrFun (congrFun hErg 12) xx) ww
              have erg13 : ∀ xx ww, Erg 13 xx ww = ((fun x w' => ∃ v9, x = .tuple #[v9, .bool (q && !lastHit Lk P a)] ∧ OwnE cellE (fun b => b ≠ g ∧ b ≠ gc) w' w8.heap.size 37 v9 (paintL Lk P a)) xx ww) := fun xx ww => congrFun (congrFun (congrFun hErg 13) xx) ww
              have erg14 : ∀ xx ww, Erg 14 xx ww = ((fun x w' => OwnE cellE (fun b => b ≠ g ∧ b ≠ gc) w' w8.heap.size 37 x (paintL Lk P a)) xx ww) := fun xx ww => congrFun (congrFun (congrFun hErg 14) xx) ww
              have erg15 : ∀ xx ww, Erg 15 xx ww = (xx = .bool (q && !lastHit Lk P a)) := fun xx ww => congrFun (congrFun (congrFun hErg 15) xx) ww
              have erg16 : ∀ xx ww, Erg 16 xx ww = ((fun x w' => OwnE cellE (fun b => b ≠ g ∧ b ≠ gc) w' w8.heap.size 37 x (paintL Lk P a)) xx ww) := fun xx ww => congrFun (congrFun (congrFun hErg 16) xx) ww
              have erg17 : ∀ xx ww, Erg 17 xx ww = (xx = .bool (q && !lastHit Lk P a)) := fun xx ww => congrFun (congrFun (congrFun hErg 17) xx) ww
              obtain ⟨Crg, hCrg⟩ : ∃ CC : Array Bool → World → Prop, CC = fun L8 w' => Below w8.heap.size w8 w' := ⟨_, rfl⟩
              have krg : ∀ i L w,  Crg L w → Crg (L.setIfInBounds i true) w := by
                intro i L w  h
                rw [hCrg] at h ⊢
                exact h
              obtain ⟨Xrg, hXrg⟩ : ∃ XX : World → World → Prop, XX = fun x y => Below x.heap.size x y := ⟨_, rfl⟩
              have xrg : ∀ w, Xrg w w := fun w => by rw [hXrg]; exact Below.refl _ _
              have strg : ∀ j x w w1, Xrg w w1 → Erg j x w → Erg j x w1 := by
                intro j x w w1 hx h
                rw [hXrg] at hx
                match j with
                | 0 => rw [erg0] at h ⊢; exact h
                | 1 => rw [erg1] at h ⊢; exact h
                | 2 => rw [erg2] at h ⊢; exact h
                | 3 => rw [erg3] at h ⊢; exact h
                | 4 => rw [erg4] at h ⊢; exact h
                | 5 => rw [erg5] at h ⊢; exact h
                | 6 => rw [erg6] at h ⊢; exact h
                | 7 => rw [erg7] at h ⊢; exact h
                | 8 => rw [erg8] at h ⊢; exact h
                | 9 => rw [erg9] at h ⊢; exact h
                | 10 => rw [erg10] at h ⊢; exact h
                | 11 => rw [erg11] at h ⊢; exact h
                | 12 => rw [erg12] at h ⊢; (first | exact OwnE.below h hx | (obtain ⟨v9, e9, h9⟩ := h; exact ⟨v9, e9, OwnE.below h9 hx⟩))
                | 13 => rw [erg13] at h ⊢; (first | exact OwnE.below h hx | (obtain ⟨v9, e9, h9⟩ := h; exact ⟨v9, e9, OwnE.below h9 hx⟩))
                | 14 => rw [erg14] at h ⊢; (first | exact OwnE.below h hx | (obtain ⟨v9, e9, h9⟩ := h; exact ⟨v9, e9, OwnE.below h9 hx⟩))
                | 15 => rw [erg15] at h ⊢; exact h
                | 16 => rw [erg16] at h ⊢; (first | exact OwnE.below h hx | (obtain ⟨v9, e9, h9⟩ := h; exact ⟨v9, e9, OwnE.below h9 hx⟩))
                | 17 => rw [erg17] at h ⊢; exact h
                | j + 18 => rw [hErg]; trivial
              have crg : Crg (Array.replicate 18 false) w8.drew := by rw [hCrg]; exact (Below.refl _ _).drew
              have brg : ∀ L w w1, Crg L w → Below w.heap.size w w1 → Crg L w1 := by
                intro L w w1 h hb
                rw [hCrg] at h ⊢
                exact h.trans (hb.mono h.size)
              have xbrg : ∀ w w1, Below w.heap.size w w1 → Xrg w w1 := by
                intro w w1 hb
                rw [hXrg]
                exact hb
              have Hrgb := Lib.hid brg
              have Hrgxb := Lib.hid xbrg
              clear brg xbrg
              clear hErg
              have Hrgk := Lib.hid krg
              have Hrgx := Lib.hid xrg
              have Hrgst := Lib.hid strg
              have Hrgc := Lib.hid crg
              have HrghC := Lib.hid hCrg
              have HrghX := Lib.hid hXrg
              have Hrge0 := Lib.hid erg0
              have Hrge1 := Lib.hid erg1
              have Hrge2 := Lib.hid erg2
              have Hrge3 := Lib.hid erg3
              have Hrge4 := Lib.hid erg4
              have Hrge5 := Lib.hid erg5
              have Hrge6 := Lib.hid erg6
              have Hrge7 := Lib.hid erg7
              have Hrge8 := Lib.hid erg8
              have Hrge9 := Lib.hid erg9
              have Hrge10 := Lib.hid erg10
              have Hrge11 := Lib.hid erg11
              have Hrge12 := Lib.hid erg12
              have Hrge13 := Lib.hid erg13
              have Hrge14 := Lib.hid erg14
              have Hrge15 := Lib.hid erg15
              have Hrge16 := Lib.hid erg16
              have Hrge17 := Lib.hid erg17
              clear krg xrg strg crg hCrg hXrg erg0 erg1 erg2 erg3 erg4 erg5 erg6 erg7 erg8 erg9 erg10 erg11 erg12 erg13 erg14 erg15 erg16 erg17
              go_wp2_with fail
              refine Reg.regionF Erg Crg Xrg Hrgst.out (by kernel_rfl) (by kernel_rfl) (by kernel_rfl) Hrgc.out (fun Frg hFrg => ?_)
              simp only [Reg.frame, Reg.dsts, List.map_cons, List.map_nil, Mix.put_lit, Reg.put_none, List.set_cons_succ, List.set_cons_zero, Array.getD, Nat.zero_add, Nat.reduceAdd] at hFrg
              refine ⟨?_, ?_⟩
              · refine ⟨?_, ?_, ?_, ?_, ?_, ?_, ?_, ?_, ?_, ?_, ?_, ?_, ?_, ?_, ?_, ?_, ?_, ?_, trivial⟩
                · intro Lq wq xq hh
                  have d16 := hh.old 16 (by kernel_rfl)
                  simp only [hFrg, d16]
                  clear d16
                  refine .inl ⟨rfl, ?_⟩
                  unfold Reg.upon
                  have hk := Hrgk.out 0 Lq wq  hh.cls
                  have hx := Hrgx.out wq
                  have he : Erg 0 (u6) wq := by rw [Hrge0.out]
                  have HK := Lib.hid (And.intro hk (And.intro he hx))
                  clear hk hx he
                  go_simp
                  exact HK.out
                · intro Lq wq xq hh
                  have d17 := hh.old 17 (by kernel_rfl)
                  simp only [hFrg, d17]
                  clear d17
                  refine .inl ⟨rfl, ?_⟩
                  unfold Reg.upon
                  have hk := Hrgk.out 1 Lq wq  hh.cls
                  have hx := Hrgx.out wq
                  have he : Erg 1 (.bool q) wq := by rw [Hrge1.out]
                  have HK := Lib.hid (And.intro hk (And.intro he hx))
                  clear hk hx he
                  go_simp
                  exact HK.out
                · intro Lq wq xq hh
                  simp only [hFrg]
                  refine .inl ⟨rfl, ?_⟩
                  unfold Reg.upon
                  have hk := Hrgk.out 2 Lq wq  hh.cls
                  have hx := Hrgx.out wq
                  have he : Erg 2 (.slice (some ⟨b, off, none⟩) L.length cb) wq := by rw [Hrge2.out]
                  have HK := Lib.hid (And.intro hk (And.intro he hx))
                  clear hk hx he
                  go_simp
                  exact HK.out
                · intro Lq wq xq hh
                  simp only [hFrg]
                  refine .inl ⟨rfl, ?_⟩
                  unfold Reg.upon
                  have hk := Hrgk.out 3 Lq wq  hh.cls
                  have hx := Hrgx.out wq
                  have he : Erg 3 (.int .i64 k) wq := by rw [Hrge3.out]
                  have HK := Lib.hid (And.intro hk (And.intro he hx))
                  clear hk hx he
                  go_simp
                  exact HK.out
                · intro Lq wq xq hh
                  have d2 : Erg 2 (xq 2) wq := hh.val 2 (by kernel_rfl) (by kernel_rfl)
                  rw [Hrge2.out] at d2
                  have d3 : Erg 3 (xq 3) wq := hh.val 3 (by kernel_rfl) (by kernel_rfl)
                  rw [Hrge3.out] at d3
                  simp only [hFrg, d2, d3]
                  clear d2 d3
                  refine .inl ⟨rfl, ?_⟩
                  unfold Reg.upon
                  have hk := Hrgk.out 4 Lq wq  hh.cls
                  have hx := Hrgx.out wq
                  have he : Erg 4 (.pointer (some ⟨b, off + k * 3, none⟩)) wq := by rw [Hrge4.out]
                  have HK := Lib.hid (And.intro hk (And.intro he hx))
                  clear hk hx he
                  go_simp
                  exact HK.out
                · intro Lq wq xq hh
                  have d4 : Erg 4 (xq 4) wq := hh.val 4 (by kernel_rfl) (by kernel_rfl)
                  rw [Hrge4.out] at d4
                  simp only [hFrg, d4]
                  clear d4
                  refine .inl ⟨rfl, ?_⟩
                  unfold Reg.upon
                  have hk := Hrgk.out 5 Lq wq  hh.cls
                  have hx := Hrgx.out wq
                  have he : Erg 5 (.pointer (some ⟨b, off + k * 3, none⟩)) wq := by rw [Hrge5.out]
                  have HK := Lib.hid (And.intro hk (And.intro he hx))
                  clear hk hx he
                  go_simp
                  exact HK.out
                · intro Lq wq xq hh
                  have d5 : Erg 5 (xq 5) wq := hh.val 5 (by kernel_rfl) (by kernel_rfl)
                  rw [Hrge5.out] at d5
                  simp only [hFrg, d5]
                  clear d5
                  refine .inl ⟨rfl, ?_⟩
                  unfold Reg.upon
                  have hc : Crg Lq wq := hh.cls
                  rw [HrghC.out] at hc
                  have hc6 := (HF.out wq (B8.out.trans (hc.mono B8.out.size))).1
                  clear hc
                  have hk := Hrgk.out 6 Lq wq  hh.cls
                  have hx := Hrgx.out wq
                  have he : Erg 6 (.int .i64 a) wq := by rw [Hrge6.out]
                  have HK := Lib.hid (And.intro hk (And.intro he hx))
                  clear hk hx he
                  go_simp
                  exact HK.out
                · intro Lq wq xq hh
                  simp only [hFrg]
                  refine .inl ⟨rfl, ?_⟩
                  unfold Reg.upon
                  have hk := Hrgk.out 7 Lq wq  hh.cls
                  have hx := Hrgx.out wq
                  have he : Erg 7 (.slice (some ⟨b, off, none⟩) L.length cb) wq := by rw [Hrge7.out]
                  have HK := Lib.hid (And.intro hk (And.intro he hx))
                  clear hk hx he
                  go_simp
                  exact HK.out
                · intro Lq wq xq hh
                  simp only [hFrg]
                  refine .inl ⟨rfl, ?_⟩
                  unfold Reg.upon
                  have hk := Hrgk.out 8 Lq wq  hh.cls
                  have hx := Hrgx.out wq
                  have he : Erg 8 (.int .i64 k) wq := by rw [Hrge8.out]
                  have HK := Lib.hid (And.intro hk (And.intro he hx))
                  clear hk hx he
                  go_simp
                  exact HK.out
                · intro Lq wq xq hh
                  have d7 : Erg 7 (xq 7) wq := hh.val 7 (by kernel_rfl) (by kernel_rfl)
                  rw [Hrge7.out] at d7
                  have d8 : Erg 8 (xq 8) wq := hh.val 8 (by kernel_rfl) (by kernel_rfl)
                  rw [Hrge8.out] at d8
                  simp only [hFrg, d7, d8]
                  clear d7 d8
                  refine .inl ⟨rfl, ?_⟩
                  unfold Reg.upon
                  have hk := Hrgk.out 9 Lq wq  hh.cls
                  have hx := Hrgx.out wq
                  have he : Erg 9 (.pointer (some ⟨b, off + k * 3, none⟩)) wq := by rw [Hrge9.out]
                  have HK := Lib.hid (And.intro hk (And.intro he hx))
                  clear hk hx he
                  go_simp
                  exact HK.out
                · intro Lq wq xq hh
                  have d9 : Erg 9 (xq 9) wq := hh.val 9 (by kernel_rfl) (by kernel_rfl)
                  rw [Hrge9.out] at d9
                  simp only [hFrg, d9]
                  clear d9
                  refine .inl ⟨rfl, ?_⟩
                  unfold Reg.upon
                  have hk := Hrgk.out 10 Lq wq  hh.cls
                  have hx := Hrgx.out wq
                  have he : Erg 10 (.pointer (some ⟨b, off + k * 3 + 2, none⟩)) wq := by rw [Hrge10.out]
                  have HK := Lib.hid (And.intro hk (And.intro he hx))
                  clear hk hx he
                  go_simp
                  exact HK.out
                · intro Lq wq xq hh
                  have d10 : Erg 10 (xq 10) wq := hh.val 10 (by kernel_rfl) (by kernel_rfl)
                  rw [Hrge10.out] at d10
                  simp only [hFrg, d10]
                  clear d10
                  refine .inl ⟨rfl, ?_⟩
                  unfold Reg.upon
                  have hc : Crg Lq wq := hh.cls
                  rw [HrghC.out] at hc
                  have hc11 := (HF.out wq (B8.out.trans (hc.mono B8.out.size))).2.2
                  clear hc
                  have hk := Hrgk.out 11 Lq wq  hh.cls
                  have hx := Hrgx.out wq
                  have he : Erg 11 (.slice pa P.length pc) wq := by rw [Hrge11.out]
                  have HK := Lib.hid (And.intro hk (And.intro he hx))
                  clear hk hx he
                  go_simp
                  exact HK.out
                · intro Lq wq xq hh
                  have d0 : Erg 0 (xq 0) wq := hh.val 0 (by kernel_rfl) (by kernel_rfl)
                  rw [Hrge0.out] at d0
                  have d1 : Erg 1 (xq 1) wq := hh.val 1 (by kernel_rfl) (by kernel_rfl)
                  rw [Hrge1.out] at d1
                  have d6 : Erg 6 (xq 6) wq := hh.val 6 (by kernel_rfl) (by kernel_rfl)
                  rw [Hrge6.out] at d6
                  have d11 : Erg 11 (xq 11) wq := hh.val 11 (by kernel_rfl) (by kernel_rfl)
                  rw [Hrge11.out] at d11
                  simp only [hFrg, d0, d1, d6, d11]
                  clear d0 d1 d6 d11
                  refine .inl ⟨rfl, ?_⟩
                  unfold Reg.upon
                  have hc : Crg Lq wq := hh.cls
                  rw [HrghC.out] at hc
                  go_simp
                  refine (rfpaint_any (fun b => b ≠ g ∧ b ≠ gc) _ _ Lk P q a wq (fun b hb => by have := HLX.out; have := HS5.out; have := HU8.out; have := hc.size; exact ⟨by omega, by omega⟩) (HC8.out.below hc) ((HP.out.below (B8.out.trans (hc.mono B8.out.size))).zone (fun b _ hb => by have := HLT.out; have := B1.out.size; exact ⟨by omega, by omega⟩)) (by rw [HLN0.out]; omega) (by rw [HLN0.out]; omega) (by rw [HLN0.out]; exact hla)).mono ?_
                  rintro e w2 ⟨v2, rfl, ho, hb⟩
                  refine ⟨_, rfl, Hrgk.out 12 Lq w2 (Hrgb.out Lq wq w2 hh.cls hb), ?_, Hrgxb.out wq w2 hb⟩
                  rw [Hrge12.out]
                  exact ⟨_, rfl, ho.base hc.size⟩
                · intro Lq wq xq hh
                  have d12 : Erg 12 (xq 12) wq := hh.val 12 (by kernel_rfl) (by kernel_rfl)
                  rw [Hrge12.out] at d12
                  simp only [hFrg]
                  refine .inl ⟨rfl, ?_⟩
                  unfold Reg.upon
                  go_simp
                  exact ⟨Hrgk.out 13 Lq wq hh.cls, (by rw [Hrge13.out]; exact d12), Hrgx.out _⟩
                · intro Lq wq xq hh
                  have d13 : Erg 13 (xq 13) wq := hh.val 13 (by kernel_rfl) (by kernel_rfl)
                  rw [Hrge13.out] at d13
                  simp only [hFrg]
                  refine .inl ⟨rfl, ?_⟩
                  unfold Reg.upon
                  obtain ⟨v9, e9, h9⟩ := d13
                  rw [e9]
                  go_simp
                  exact ⟨Hrgk.out 14 Lq wq hh.cls, (by rw [Hrge14.out]; exact h9), Hrgx.out _⟩
                · intro Lq wq xq hh
                  have d13 : Erg 13 (xq 13) wq := hh.val 13 (by kernel_rfl) (by kernel_rfl)
                  rw [Hrge13.out] at d13
                  simp only [hFrg]
                  refine .inl ⟨rfl, ?_⟩
                  unfold Reg.upon
                  obtain ⟨v9, e9, h9⟩ := d13
                  rw [e9]
                  go_simp
                  exact ⟨Hrgk.out 15 Lq wq hh.cls, (by rw [Hrge15.out]), Hrgx.out _⟩
                · intro Lq wq xq hh
                  have d14 : Erg 14 (xq 14) wq := hh.val 14 (by kernel_rfl) (by kernel_rfl)
                  rw [Hrge14.out] at d14
                  simp only [hFrg]
                  refine .inl ⟨rfl, ?_⟩
                  unfold Reg.upon
                  go_simp
                  exact ⟨Hrgk.out 16 Lq wq hh.cls, (by rw [Hrge16.out]; exact d14), Hrgx.out _⟩
                · intro Lq wq xq hh
                  have d15 : Erg 15 (xq 15) wq := hh.val 15 (by kernel_rfl) (by kernel_rfl)
                  rw [Hrge15.out] at d15
                  simp only [hFrg, d15]
                  clear d15
                  refine .inl ⟨rfl, ?_⟩
                  unfold Reg.upon
                  have hk := Hrgk.out 17 Lq wq  hh.cls
                  have hx := Hrgx.out wq
                  have he : Erg 17 (.bool (q && !lastHit Lk P a)) wq := by rw [Hrge17.out]
                  have HK := Lib.hid (And.intro hk (And.intro he hx))
                  clear hk hx he
                  go_simp
                  exact HK.out
              intro xq wrg hcrg hvrg
              rw [HrghC.out] at hcrg
              simp only [hFrg]
              have vrg16 : Erg 16 (xq 16) wrg := hvrg 16 (by decide)
              rw [Hrge16.out] at vrg16
              have vrg17 : Erg 17 (xq 17) wrg := hvrg 17 (by decide)
              rw [Hrge17.out] at vrg17
              rw [vrg17]
              clear hvrg hFrg Hrgk Hrgx Hrgst Hrgc HrghC HrghX Hrgb Hrgxb Hrge0 Hrge1 Hrge2 Hrge3 Hrge4 Hrge5 Hrge6 Hrge7 Hrge8 Hrge9 Hrge10 Hrge11 Hrge12 Hrge13 Hrge14 Hrge15 Hrge16 Hrge17
              obtain ⟨v10, hv10⟩ : ∃ v10, v10 = xq 16 := ⟨_, rfl⟩
              rw [← hv10] at vrg16 ⊢
              clear hv10 vrg17
              have ho10 := vrg16
              have b10 := hcrg
              obtain ⟨w10, hw10⟩ : ∃ w10, w10 = wrg := ⟨_, rfl⟩
              rw [← hw10] at ho10 b10 ⊢
              clear vrg16 hcrg hw10
              have RX := Lib.hid (HR8.out.below b10)
              have CX := Lib.hid (ho10.held (fun b hb _ => by have := HLX.out; have := HS5.out; have := HU8.out; exact ⟨by omega, by omega⟩))
              have WX := Lib.hid (HW8.out.below b10)
              have OX := Lib.hid (HC8.out.below b10)
              have BX := Lib.hid (B8.out.trans (b10.mono B8.out.size))
              clear ho10 b10
              obtain ⟨q2, hq2⟩ : ∃ q2, q2 = (q && !lastHit Lk P a) := ⟨_, rfl⟩
              rw [← hq2] at RX ⊢
              clear hq2
              go_wp2_with fail
              refine (rcells_any _ _ g gc _ _ _ RX.out).mono ?_
              rintro e wa ⟨va, rfl, hoa, ba⟩
              have BA := Lib.hid (BX.out.trans (ba.mono BX.out.size))
              have RA := Lib.hid (RX.out.below ba)
              have CA := Lib.hid (CX.out.below ba)
              have WA := Lib.hid (WX.out.below ba)
              have OA := Lib.hid (OX.out.below ba)
              have HA := Lib.hid (hoa.held (fun b hb _ => hb))
              clear hoa ba
              go_wp2_with fail
              refine (rcsame_any _ _ _ _ _ _ _ HA.out CA.out).mono ?_
              rintro e wb ⟨rfl, bb⟩
              rw [sameC_self]
              have BB := Lib.hid (BA.out.trans (bb.mono BA.out.size))
              have RB := Lib.hid (RA.out.below bb)
              have CB := Lib.hid (CA.out.below bb)
              have WB := Lib.hid (WA.out.below bb)
              have OB := Lib.hid (OA.out.below bb)
              clear bb
              go_wp2_with fail
              refine (rwrap_any _ _ g gc _ _ _ RB.out).mono ?_
              rintro e wc2 ⟨rfl, rfl⟩
              have hqq : (q2 != q2) = false := by simp
              go_wp2_with fail
              refine (rcells_any _ _ g gc _ _ _ RB.out).mono ?_
              rintro e wd ⟨vd, rfl, hod, bd⟩
              have BD := Lib.hid (BB.out.trans (bd.mono BB.out.size))
              have RD := Lib.hid (RB.out.below bd)
              have CD := Lib.hid (CB.out.below bd)
              have WD := Lib.hid (WB.out.below bd)
              have OD := Lib.hid (OB.out.below bd)
              have HD := Lib.hid (hod.held (fun b hb _ => hb))
              clear hod bd hqq
              go_wp2_with fail
              have hse := rsound_any _ _ _ _ HD.out
              rw [← sound_iff, RD.out.len.2.2] at hse
              refine hse.mono ?_
              rintro e we ⟨rfl, be⟩
              have BE := Lib.hid (BD.out.trans (be.mono BD.out.size))
              have RE := Lib.hid (RD.out.below be)
              have CE := Lib.hid (CD.out.below be)
              have WE := Lib.hid (WD.out.below be)
              have OE := Lib.hid (OD.out.below be)
              clear be hse
              go_wp2_with fail
              refine (rcells_any _ _ g2 gc2 _ _ _ WE.out).mono ?_
              rintro e wf ⟨vf, rfl, hof, bf⟩
              have BF := Lib.hid (BE.out.trans (bf.mono BE.out.size))
              have RF := Lib.hid (RE.out.below bf)
              have CF := Lib.hid (CE.out.below bf)
              have WF := Lib.hid (WE.out.below bf)
              have OF := Lib.hid (OE.out.below bf)
              have HF := Lib.hid (hof.held (fun b hb _ => hb))
              clear hof bf
              go_wp2_with fail
              refine (rcsame_any _ _ _ _ _ _ _ HF.out OF.out).mono ?_
              rintro e wg ⟨rfl, bg⟩
              rw [sameC_self]
              have BG := Lib.hid (BF.out.trans (bg.mono BF.out.size))
              have RG := Lib.hid (RF.out.below bg)
              have CG := Lib.hid (CF.out.below bg)
              have WG := Lib.hid (WF.out.below bg)
              clear bg
              go_wp2_with fail
              refine (rwrap_any _ _ g2 gc2 _ _ _ WG.out).mono ?_
              rintro e wh ⟨rfl, rfl⟩
              have hqq : (q != q) = false := by simp
              go_wp2
              clear hqq
              go_roundw
              case rel => exact ⟨k + 1, paintL Lk P a, q2, by omega, by go_num, rfl, RG.out, HLN.out, CG.out, BG.out⟩
              case measure => simp [intOf] <;> omega
            · obtain ⟨m, hm8, hwm, hcall⟩ := rpaint_bad sa _ (fun b => b < W.heap.size) _ g gc Lk P q At _ w5 (HSA.out.below B5.out) HR5.out (HP.out.below B5.out) (by rw [HLN0.out]; exact hg)
              rw [HLN0.out] at hwm
              have HWM := Lib.hid hwm
              have HCALL := Lib.hid hcall
              clear hwm hcall hg
              have HLN := HLN0
              go_wp2_with fail
              refine HCALL.out.mono ?_
              rintro e w6 ⟨rfl, b6⟩
              have HR6 := Lib.hid (HR5.out.below b6)
              have HC6 := Lib.hid (HC5.out.below b6)
              have HW6 := Lib.hid (HW5.out.below b6)
              have B6 := Lib.hid (B5.out.trans (b6.mono B5.out.size))
              clear b6
              obtain ⟨c0, c1, c2⟩ := HF.out w6 B6.out
              have d0 := ext_cell c0
              have d2 := ext_cell c2
              clear c0 c1 c2
              go_wp2
              refine wp_region_ext_tail 11 (by kernel_rfl) (by simp) (by kernel_rfl) (by kernel_rfl) (by kernel_rfl) (by kernel_rfl) (by kernel_rfl) ?_
              simp only [List.take_succ_cons, List.take_zero, List.drop_succ_cons, List.drop_zero]
              repeat (go_big_quiet_step ((fail)))
              refine wpQuiet_nil ?_
              intro _ hw'
              obtain ⟨u, hw''⟩ := hw'
              subst hw''
              obtain ⟨w7, hw7⟩ : ∃ w7, w7 = ext w6 u := ⟨_, rfl⟩
              have b7 : Below w6.heap.size w6 w7 := by rw [hw7]; exact u.ok
              rw [← hw7]
              clear hw7 d0 d2
              have B7 := Lib.hid (B6.out.trans (b7.mono B6.out.size))
              go_wp2_with fail
              have hwr := rwrong_any _ (N : Int) At _ P w7 (HP.out.below B7.out) (by omega) (by omega)
              rw [HWM.out] at hwr
              refine hwr.mono ?_
              rintro e w8 ⟨rfl, b8⟩
              have b8 := b7.trans (b8.mono b7.size)
              have RX := Lib.hid (HR6.out.below b8)
              have CX := Lib.hid (HC6.out.below b8)
              have WX := Lib.hid (HW6.out.below b8)
              have BX := Lib.hid (B6.out.trans (b8.mono B6.out.size))
              clear b7 b8 hwr
              go_wp2_with fail
              refine (code_sent sa w8 (HSA.out.below BX.out) m hm8).mono ?_
              rintro e w9 ⟨rfl, rfl⟩
              have hmm : ((m : Int) + 1 != (m : Int) + 1) = false := by simp
              have hm0 : ((m : Int) + 1 == 0) = false := by rw [beq_eq_false_iff_ne]; omega
              go_wp2_with fail
              refine (rcells_any _ _ g gc _ _ _ RX.out).mono ?_
              rintro e wa ⟨va, rfl, hoa, ba⟩
              have BA := Lib.hid (BX.out.trans (ba.mono BX.out.size))
              have RA := Lib.hid (RX.out.below ba)
              have CA := Lib.hid (CX.out.below ba)
              have WA := Lib.hid (WX.out.below ba)
              have OA := Lib.hid (CX.out.below ba)
              have HA := Lib.hid (hoa.held (fun b hb _ => hb))
              clear hoa ba hmm hm0
              go_wp2_with fail
              refine (rcsame_any _ _ _ _ _ _ _ HA.out CA.out).mono ?_
              rintro e wb ⟨rfl, bb⟩
              rw [sameC_self]
              have BB := Lib.hid (BA.out.trans (bb.mono BA.out.size))
              have RB := Lib.hid (RA.out.below bb)
              have CB := Lib.hid (CA.out.below bb)
              have WB := Lib.hid (WA.out.below bb)
              have OB := Lib.hid (OA.out.below bb)
              clear bb
              go_wp2_with fail
              refine (rwrap_any _ _ g gc _ _ _ RB.out).mono ?_
              rintro e wc2 ⟨rfl, rfl⟩
              have hqq : (q != q) = false := by simp
              go_wp2_with fail
              refine (rcells_any _ _ g gc _ _ _ RB.out).mono ?_
              rintro e wd ⟨vd, rfl, hod, bd⟩
              have BD := Lib.hid (BB.out.trans (bd.mono BB.out.size))
              have RD := Lib.hid (RB.out.below bd)
              have CD := Lib.hid (CB.out.below bd)
              have WD := Lib.hid (WB.out.below bd)
              have OD := Lib.hid (OB.out.below bd)
              have HD := Lib.hid (hod.held (fun b hb _ => hb))
              clear hod bd hqq
              go_wp2_with fail
              have hse := rsound_any _ _ _ _ HD.out
              rw [← sound_iff, RD.out.len.2.2] at hse
              refine hse.mono ?_
              rintro e we ⟨rfl, be⟩
              have BE := Lib.hid (BD.out.trans (be.mono BD.out.size))
              have RE := Lib.hid (RD.out.below be)
              have CE := Lib.hid (CD.out.below be)
              have WE := Lib.hid (WD.out.below be)
              have OE := Lib.hid (OD.out.below be)
              clear be hse
              go_wp2_with fail
              refine (rcells_any _ _ g2 gc2 _ _ _ WE.out).mono ?_
              rintro e wf ⟨vf, rfl, hof, bf⟩
              have BF := Lib.hid (BE.out.trans (bf.mono BE.out.size))
              have RF := Lib.hid (RE.out.below bf)
              have CF := Lib.hid (CE.out.below bf)
              have WF := Lib.hid (WE.out.below bf)
              have OF := Lib.hid (OE.out.below bf)
              have HF := Lib.hid (hof.held (fun b hb _ => hb))
              clear hof bf
              go_wp2_with fail
              refine (rcsame_any _ _ _ _ _ _ _ HF.out OF.out).mono ?_
              rintro e wg ⟨rfl, bg⟩
              rw [sameC_self]
              have BG := Lib.hid (BF.out.trans (bg.mono BF.out.size))
              have RG := Lib.hid (RF.out.below bg)
              have CG := Lib.hid (CF.out.below bg)
              have WG := Lib.hid (WF.out.below bg)
              clear bg
              go_wp2_with fail
              refine (rwrap_any _ _ g2 gc2 _ _ _ WG.out).mono ?_
              rintro e wh ⟨rfl, rfl⟩
              have hqq : (q != q) = false := by simp
              go_wp2
              clear hqq
              go_roundw
              case rel => exact ⟨k + 1, Lk, q, by omega, by go_num, rfl, RG.out, HLN.out, CG.out, BG.out⟩
              case measure => simp [intOf] <;> omega
      · have hnil := Lib.hid (rpaint_nil sa 0 (.slice none 0 0))
        go_wp2_with fail
        refine (rgoon_nil true wr).mono ?_
        rintro e w4 ⟨rfl, rfl⟩
        go_wp2_with fail
        refine (rcell_nil 0 wr).mono ?_
        rintro e w5 ⟨rfl, b5⟩
        have B5 := Lib.hid ((HBW.out.trans (b5.mono HBW.out.size)).alloc (HBW.out.trans (b5.mono HBW.out.size)).size (.cells #[.int .i64 0, .slice none 0 0] 37))
        clear b5
        go_wp2_with fail
        refine (rwide_nil _).mono ?_
        rintro e w' ⟨rfl, rfl⟩
        go_wp2_with fail
        refine (rcells_nil _).mono ?_
        rintro e w' ⟨rfl, rfl⟩
        go_wp2_with fail
        refine (rwrap_nil _).mono ?_
        rintro e w' ⟨rfl, rfl⟩
        go_wp2_with fail
        refine (rcopy_nil _).mono ?_
        rintro e w' ⟨rfl, rfl⟩
        go_wp2_with fail
        refine (hnil.out _ (HSA.out.below B5.out)).mono ?_
        rintro e w6 ⟨rfl, b6⟩
        have B6 := Lib.hid (B5.out.trans (b6.mono B5.out.size))
        clear b6
        go_wp2_with fail
        refine (code_sent sa w6 (HSA.out.below B6.out) 2 (by decide)).mono ?_
        rintro e w7 ⟨rfl, rfl⟩
        go_wp2
        go_ret
        exact ⟨(ret_eq (by first | rfl | (simp <;> omega))), B6.out⟩
theorem strokes_opens : Opens Tryd.prog strokeE (fun x => (Lit.int .i64 x.1).wf = true ∧ True ∧ ∀ c ∈ x.2.2, (Lit.int .i64 c.1).wf = true ∧ ∀ n ∈ c.2, (Lit.int .i32 n).wf = true) 44 :=
  opens_triple Tryd.underlying44 (by kernel_rfl) rfl rfl rfl (opens_int Tryd.underlying3 (by kernel_rfl)) (opens_bool Tryd.underlying4 (by kernel_rfl)) (opens_slice Tryd.underlying22 (by kernel_rfl) (by decide) (opens_pair Tryd.underlying37 (by kernel_rfl) rfl rfl (opens_int Tryd.underlying3 (by kernel_rfl)) (opens_slice Tryd.underlying35 (by kernel_rfl) (by decide) (opens_int Tryd.underlying21 (by kernel_rfl)))))
set_option maxRecDepth 100000 in
theorem walk {H : Type} {enc : TypeId × Value → H} (W : World) (n : Int) (_ : (Lit.int .i64 n).wf = true) (u : Value) {base' : Nat} {d' : DataW H} {p' : List MemPlace} (hv' : Value.okWide Tryd.prog W .any base' 41 u) (h' : DataW.Trod enc Tryd.prog W 0 (fun _ => true) true 41 u d' p') (hL : laidMetH Tryd.prog Rows.rowPaintsRow.laid W) : Calls Tryd.prog 4 #[.int .i64 n, u] W (Yes W) := by
  obtain ⟨M, hM, _⟩ := opens_arg Tryd.underlying41 (by kernel_rfl) (by decide) strokes_opens hv' h'
  obtain ⟨sa, hsa⟩ := sents_of_row hL
  exact walkH W n u M _ hM sa hsa

theorem door_met (os : Os) : laidMetH Tryd.prog Rows.rowPaintsRow.laid ((World.doorLaid Tryd.prog 400 os).forCall (fun _ _ => 0) ⟨#[], #[.int .i64 0, .slice none 0 0], []⟩).memory :=
  laidMetH_of_parts3 (fuel := 8) (laidMet_of_run' 8 (by kernel_rfl) (by kernel_rfl)) (by kernel_rfl) (by kernel_rfl)

set_option maxRecDepth 100000 in
theorem lifted (os : Os) (started : os.Started) (H : Type) (enc : TypeId × Value → H) :
    ReturnsInHanded {} Tryd.checked os 4 .any (fun w args => (Rows.rowPaintsSpec.pre enc Tryd.prog Tryd.f4 [] false w args ∧ laidMetH Tryd.prog Rows.rowPaintsRow.laid w) ∧ sizedMet enc Tryd.prog Tryd.f4 (OpenSpec.ofChange Rows.rowPaintsSpec) false w args)
      (Rows.rowPaintsSpec.post enc Tryd.prog Tryd.f4 false true false false) := by
  refine law_frame (C := Tryd.checked) (tb := 4) (by kernel_rfl) started (by kernel_rfl) Tryd.func4 (by kernel_rfl) (by kernel_rfl) Tryd.underlying4 rfl
    (by rw [Tryd.params4]; intro t ht; simp at ht; rcases ht with rfl | rfl <;> exact ⟨by kernel_rfl, of_decide_eq_true (by kernel_rfl)⟩)
    (by rw [Tryd.params4]; intro ds hd; match ds, hd with | [_, _], _ => rfl)
    (ChangeSpec.witness_shaped (enc := enc) (C := Tryd.checked) (os := os) (X := fun w _ => laidMetH Tryd.prog Rows.rowPaintsRow.laid w) false (World.doorLaid Tryd.prog 400 os) #[.int .i64 0, .slice none 0 0] 8 rfl (World.shaped_of_RefB (by kernel_rfl) (by kernel_rfl)) (by kernel_rfl) (by kernel_rfl) (by kernel_rfl) (door_met os)) ?_
  intro W base args ds before hval hA hsz hL
  rw [Tryd.params4] at hA hval
  obtain ⟨v0, vs0, d0, ds0, p0, q0, hargs, rfl, rfl, h0, r0⟩ := trodAll_cons hA
  obtain ⟨v1, vs1, d1, ds1, p1, q1, rfl, rfl, rfl, h1, r1⟩ := trodAll_cons r0
  obtain ⟨rfl, rfl, rfl⟩ := trodAll_nil r1
  obtain rfl : args = #[v0, v1] := by cases args; simp_all
  obtain ⟨x0, rfl, rfl, rfl, wx0⟩ := open_int Tryd.underlying3 (hval 0 3 v0 rfl rfl) h0
  exact walk W x0 wx0 v1 (hval 1 41 v1 rfl rfl) h1 hL

theorem said : Rows.RowPaintsSaid :=
  OpenClaim.holds_of_wide 4 Tryd.f4 rfl rfl rfl rfl rfl rfl rfl ⟨rfl, rfl, rfl, rfl, rfl⟩ rfl rfl rfl rfl rfl (by kernel_rfl) Tryd.func4 (by kernel_rfl)
    (of_decide_eq_true (by kernel_rfl)) (by unfold Func.isWrapper; first | (rw [if_pos (by decide +kernel)]; kernel_rfl) | (rw [if_neg (by decide +kernel)]; exact ⟨rfl, rfl⟩))
    (fun os started H enc _ => lifted os started H enc)

theorem plain (f : FuncId) (fn : Func) (hf : Tryd.pinned.checked.prog.funcNamed "linotype/linotypelaw24.RowPaints" = some f) (hfn : Tryd.pinned.checked.prog.funcs[f]? = some fn) :
    true = Tryd.pinned.checked.prog.looks [] ∧ ∀ (j : Nat) t, fn.params[j]? = some t → Tryd.pinned.checked.prog.wantsStandIn t = false := by
  obtain rfl : f = 4 := Option.some.inj ((show Tryd.prog.funcNamed "linotype/linotypelaw24.RowPaints" = some 4 by kernel_rfl).symm.trans hf) |>.symm
  obtain rfl : fn = Tryd.f4 := (Option.some.inj (Tryd.func4.symm.trans hfn)).symm
  refine ⟨by kernel_rfl, fun j t ht => ?_⟩
  rw [Tryd.params4] at ht
  have hm : t ∈ [3, 41] := by simpa using Array.mem_of_getElem? ht
  have hall : ([3, 41].all fun u => !Tryd.prog.wantsStandIn u) = true := by kernel_rfl
  exact (show Tryd.prog.wantsStandIn t = false by simpa using List.all_eq_true.1 hall t hm)

/-- THE CARD. -/
theorem card : Rows.RowPaintsCardSaid :=
  Claim7.holds_tied_plain_at .later [] _ _ _ _ said (fun _ h => by cases h) (by kernel_rfl) (fun _ h => by cases h) rowPaints_row_tie rfl ⟨rfl, rfl⟩ (by kernel_rfl) rfl plain (by kernel_rfl)
#print axioms card

end Go.Proofs.YtfkeeigaocmalaaDoor.lawRowPaints
