/- ScrollPlays (33.1 to 33.3) answers true at all lines and every list of calls, and turns nothing. No condition. -/
import Derived.Test.YteolfknlcnihaaaDoorScrX
import Derived.Test.YteolfknlcnihaaaDoorMg5
import Derived.Test.YteolfknlcnihaaaDoorMg1
import Derived.Test.YteolfknlcnihaaaDoorCards
import Derived.Test.YteolfknlcnihaaaDoorTie
import Derived.ProofKit
import Derived.Lib.MinMax
namespace Go.Proofs.YteolfknlcnihaaaDoor.lawScrollPlays
open Go.ChangeShapes Go.WideShapes Go.ChangeAt Go.RowKit
abbrev Act4 := Bool × Int × Int × Int
def actE : Elem Act4 := prE boolE (prE (intE .i64) (prE (intE .i64) (intE .i64)))
abbrev za : Act4 := (false, 0, 0, 0)
theorem acts_at {Z : Zone} {w : World} {ao : Option Addr} {n cap : Nat} {L : List Act4} (h : HeldE actE Z w (.slice ao n cap) L) : n = L.length ∧ n ≤ cap ∧ ∀ i, i < L.length → ∃ b off, ao = some ⟨b, off, none⟩ ∧ b < w.heap.size ∧
    w.cell? ⟨b, off + i * 4, none⟩ = some (.bool (L.getD i za).1) ∧ w.cell? ⟨b, off + i * 4 + 1, none⟩ = some (.int .i64 (L.getD i za).2.1) ∧ w.cell? ⟨b, off + i * 4 + 2, none⟩ = some (.int .i64 (L.getD i za).2.2.1) ∧ w.cell? ⟨b, off + i * 4 + 3, none⟩ = some (.int .i64 (L.getD i za).2.2.2) := by
  obtain ⟨h1, h2, h3⟩ := h.spots
  refine ⟨h1, h2, fun i hi => ?_⟩
  obtain ⟨b, off, rfl, hb, hz, C, hC, hr⟩ := h3 i hi
  obtain ⟨C1, C2, rfl, rfl, C3, C4, rfl, rfl, C5, C6, rfl, rfl, rfl⟩ := hr
  exact ⟨b, off, rfl, hb, hC 0 (by decide), hC 1 (by decide), hC 2 (by decide), hC 3 (by decide)⟩
set_option maxRecDepth 100000 in
set_option maxHeartbeats 16000000 in
theorem mainW (W : World) (ao bo : Option Addr) (n ca m cb : Nat) (Ls : List Ln) (A : List Act4) (hn : n = Ls.length) (hm : m = A.length) (ha : HeldE lineE (fun b => b < W.heap.size) W (.slice ao n ca) Ls)
    (hc : ∀ i, i < m → ∃ b off, bo = some ⟨b, off, none⟩ ∧ b < W.heap.size ∧ W.cell? ⟨b, off + i * 4, none⟩ = some (.bool (A.getD i za).1) ∧ W.cell? ⟨b, off + i * 4 + 1, none⟩ = some (.int .i64 (A.getD i za).2.1) ∧ W.cell? ⟨b, off + i * 4 + 2, none⟩ = some (.int .i64 (A.getD i za).2.2.1) ∧ W.cell? ⟨b, off + i * 4 + 3, none⟩ = some (.int .i64 (A.getD i za).2.2.2))
    (h1 : n ≤ 40) (h0 : 0 < n) (h2 : m ≤ 60) (hall : AllGood Ls) : Calls Tryd.prog 4 #[.slice ao n ca, .slice bo m cb] W (Yes W) := by
  have HN := Lib.hid hn
  have HM := Lib.hid hm
  have HA := Lib.hid ha
  have HC := Lib.hid hc
  have HALL := Lib.hid hall
  have HWR := Lib.hid (rlwrong_any _ _ Ls W ha)
  clear ha hn hm hc hall
  have hd40 : decide ((40 : Int) < n) = false := by rw [decide_eq_false_iff_not]; omega
  have hd40n : decide (40 < n) = false := by rw [decide_eq_false_iff_not]; omega
  have hz : ((n : Int) == 0) = false := by rw [beq_eq_false_iff_ne]; omega
  have hd60 : decide ((60 : Int) < m) = false := by rw [decide_eq_false_iff_not]; omega
  have hd60n : decide (60 < m) = false := by rw [decide_eq_false_iff_not]; omega
  go_enter Tryd.func4, Tryd.ntmps4
  go_wp2_with fail
  refine HWR.out.mono ?_
  rintro e w0 hq
  obtain ⟨at_, cc, rfl, hat, b0⟩ := hq.say
  obtain rfl : at_ = -1 := by rcases hat with h | h; exact h.2; exact absurd HALL.out h.2
  clear hq hat
  go_wp2_with fail
  refine (works33_any _).mono ?_
  rintro e w2 ⟨rfl, b2⟩
  have B := Lib.hid (b0.trans (b2.mono b0.size))
  clear b0 b2
  have hg := gof_good _ _ Ls w2 HALL.out (HA.out.below B.out) (by rw [← HN.out]; omega) (by rw [← HN.out]; omega)
  go_wp2_with fail
  refine hg.mono ?_
  rintro e w3 ⟨gg, gr, Rs, rfl, hg3, hm3, b3⟩
  clear hd40 hd40n hd60 hd60n hz
  have G := Lib.hid hg3
  have ML := Lib.hid hm3
  have BS := Lib.hid (show W.heap.size ≤ w2.heap.size from B.out.size)
  have OF := Lib.hid (show OffG (fun b => b < W.heap.size) gg gr Rs from fun b hb => by have := hg3.lt; have := BS.out; exact ⟨by omega, by omega, fun i hi => by have := hg3.lt.2.2.2.2.2 i hi; omega⟩)
  replace B := Lib.hid (B.out.trans (b3.mono B.out.size))
  clear b3
  have HA3 := Lib.hid (HA.out.below B.out)
  obtain ⟨n0, hn0⟩ : ∃ n0, n0 = firstN Ls := ⟨_, rfl⟩
  rw [← hn0] at G
  have ZS := Lib.hid (show ∀ b, b < W.heap.size → b < w3.heap.size from fun b h => Nat.lt_of_lt_of_le h B.out.size)
  clear hg hg3 hm3 hn0 HA HALL HWR
  go_wp2
  go_loopw [0, 9] (fun lv i wr => ∃ (k : Nat) (Lk : List Ln) (Rk : List Rw) (Zk : Zone), k ≤ m ∧ i = .int .i64 k ∧ HeldE lineE Zk wr lv Lk ∧ Go.RowKit.Hid (∀ b, Zk b → b < wr.heap.size) ∧ Go.RowKit.Hid (OffG Zk gg gr Rk) ∧ Go.RowKit.Hid (GridAt wr w2.heap.size gg gr n0 Rk) ∧ Go.RowKit.Hid (Rk.map lineOf = Lk) ∧ Go.RowKit.Hid (Lk.length = n) ∧ Below W.heap.size W wr) (fun _ i _ => m - (intOf i).toNat)
  case atStart => exact ⟨0, Ls, Rs, fun b => b < W.heap.size, Nat.zero_le _, rfl, HA3.out, ZS, OF, G, ML, Lib.hid HN.out.symm, B.out⟩
  case round =>
    obtain ⟨k, Lk, Rk, Zk, hk, rfl, hlv, ZS, OF, G, ML, LN, hbw⟩ := hrel
    obtain ⟨lo, lc, hlo⟩ := hlv.len
    subst hlo
    replace B := Lib.hid hbw
    have HL := Lib.hid hlv
    clear hlv hbw HA3
    by_cases hlt : k < m
    · obtain ⟨b, off, rfl, hb, c0, c1, c2, c3⟩ := HC.out k hlt
      obtain ⟨⟨D, P, Q, R⟩, hS⟩ : ∃ y, y = A.getD k za := ⟨_, rfl⟩
      rw [← hS] at c0 c1 c2 c3
      simp only at c0 c1 c2 c3
      have c0 := (B.out.cell (p := ⟨b, off + k * 4, none⟩) hb).trans c0
      have c1 := (B.out.cell (p := ⟨b, off + k * 4 + 1, none⟩) hb).trans c1
      have c2 := (B.out.cell (p := ⟨b, off + k * 4 + 2, none⟩) hb).trans c2
      have c3 := (B.out.cell (p := ⟨b, off + k * 4 + 3, none⟩) hb).trans c3
      have hbs : b < wr.heap.size := Nat.lt_of_lt_of_le hb B.out.size
      clear hS
      obtain ⟨W5, hW5⟩ : ∃ W5, W5 = wr.alloc (.cells #[.bool D, .int .i64 P, .int .i64 Q, .int .i64 R] 45) := ⟨_, rfl⟩
      have b5 : Below wr.heap.size wr W5 := by rw [hW5]; exact (Below.refl _ _).alloc (Nat.le_refl _) _
      have HH := Lib.hid (show Has W5 wr.heap.size [.bool D, .int .i64 P, .int .i64 Q, .int .i64 R] 45 by rw [hW5]; exact Has.new wr _ _)
      have HBX := Lib.hid (show OffG (fun b => b = wr.heap.size) gg gr Rk from fun b e => by have := G.out.lt; exact ⟨by omega, by omega, fun i hi => by have := this.2.2.2.2.2 i hi; omega⟩)
      obtain ⟨gb, hgb⟩ : ∃ gb, gb = wr.heap.size := ⟨_, rfl⟩
      rw [← hgb] at HH HBX
      have HGB := Lib.hid (show W.heap.size ≤ gb from by rw [hgb]; exact B.out.size)
      have HGW := Lib.hid (show gb < W5.heap.size from HH.out.lt)
      have HLW := Lib.hid (show ∀ i, i < Lk.length → (Lk.getD i zl).1.length ≤ 1024 from fun i hi => by
        have hs := G.out.sizes
        have hl := map_len ML.out
        rw [← lines_at_i ML.out i (by omega)]
        have := hs.2.2.2.2 i (by omega)
        show (Rk.getD i r0).L.length ≤ 1024
        omega)
      have HRM := Lib.hid (rmove_all _ Zk Lk P Q R (!D) W5 (HL.out.below b5) (fun b hb => Nat.lt_of_lt_of_le (ZS.out b hb) b5.size) (by rw [LN.out]; omega) HLW.out)
      replace G := Lib.hid (G.out.below b5)
      replace B := Lib.hid (B.out.trans (b5.mono B.out.size))
      have ZS5 := Lib.hid (show ∀ b, Zk b → b < W5.heap.size from fun b hb => Nat.lt_of_lt_of_le (ZS.out b hb) b5.size)
      rw [show wr.heap.size = gb from hgb.symm] at hbs
      clear b5 HL ZS HLW
      obtain ⟨s5, hs5⟩ : ∃ s5, s5 = W5.heap.size := ⟨_, rfl⟩
      have OF5 := Lib.hid (show ∀ w' : World, OffG (fun b => Zk b ∨ (s5 ≤ b ∧ b < w'.heap.size)) gg gr Rk from fun w' => by rw [hs5]; exact G.out.offNew Zk OF.out w')
      have HS5 := Lib.hid hs5
      rw [← hs5] at HRM HGW ZS5
      obtain ⟨Lm, hLm⟩ : ∃ Lm, Lm = mvd Lk P Q R (!D) := ⟨_, rfl⟩
      have HLM := Lib.hid (show Lm.length = n from by rw [hLm, mvd_len]; exact LN.out)
      have HDO := Lib.hid (show ∀ w', GridAt w' w2.heap.size gg gr n0 Rk → Calls Tryd.prog 22 #[.pointer (some ⟨gg, 0, none⟩), .agg #[.bool D, .int .i64 P, .int .i64 Q, .int .i64 R]] w' (Moved w' w2.heap.size gg gr n0 Rk Lm) from fun w' h => by rw [hLm]; exact scdo_all _ gg gr n0 Rk Lk D P Q R w' h ML.out)
      rw [← hLm] at HRM
      have HGE := Lib.hid hgb
      have hh0 := HH.out
      rw [hgb] at hh0
      have a0 := hh0.cell 0 _ rfl
      have a1 := hh0.cell 1 _ rfl
      have a2 := hh0.cell 2 _ rfl
      have a3 := hh0.cell 3 _ rfl
      clear hs5 hLm hgb hh0
      cases D
      all_goals
        subst hW5
        go_wp2_with fail
        refine HRM.out.mono ?_
        clear a0 a1 a2 a3 c0 c1 c2 c3 HRM
        rintro e w6 ⟨v6, rfl, h6, b6⟩
        rw [HS5.out] at b6
        obtain ⟨o6, p6, rfl⟩ := h6.len
        have HL6 := Lib.hid h6
        have OF6 := Lib.hid (OF5.out w6)
        have HSW := Lib.hid (show s5 ≤ w6.heap.size from by rw [HS5.out]; exact b6.size)
        have ZS6 := Lib.hid (show ∀ b, (Zk b ∨ (s5 ≤ b ∧ b < w6.heap.size)) → b < w6.heap.size from fun b hb => by rcases hb with hb | hb; exact Nat.lt_of_lt_of_le (ZS5.out b hb) HSW.out; exact hb.2)
        replace G := Lib.hid (G.out.below b6)
        replace B := Lib.hid (B.out.trans (b6.mono B.out.size))
        replace HH := Lib.hid (HH.out.below b6 HH.out.lt)
        have hh0 := HH.out
        rw [HGE.out] at hh0
        have a0 := hh0.cell 0 _ rfl
        have a1 := hh0.cell 1 _ rfl
        have a2 := hh0.cell 2 _ rfl
        have a3 := hh0.cell 3 _ rfl
        have hdo := HDO.out w6 G.out
        clear h6 b6 OF5 ZS5 OF hh0
        go_wp2_with fail
        refine hdo.mono ?_
        clear a0 a1 a2 a3 hdo
        rintro e w7 ⟨rfl, R7, hg7, hm7, hu7, hf7⟩
        have OF7 := Lib.hid (OF6.out.from ZS6.out hf7)
        have HL7 := Lib.hid (HL6.out.upd hu7 (fun b hb => OF6.out.not ZS6.out b hb))
        have HSV := Lib.hid hu7.size
        have ZS7 := Lib.hid (show ∀ b, (Zk b ∨ (s5 ≤ b ∧ b < w6.heap.size)) → b < w7.heap.size from fun b hb => Nat.lt_of_lt_of_le (ZS6.out b hb) HSV.out)
        have hgb7 : ∀ b, GridB w6 gr Rk b → W.heap.size ≤ b := fun b hb => by
          have hlt := G.out.lt
          have := BS.out
          have := B.out.size
          rcases hb with e | ⟨i, hi, e⟩ | e
          · omega
          · have := hlt.2.2.2.2.2 i hi; omega
          · omega
        replace B := Lib.hid (B.out.upd hu7 B.out.size hgb7)
        have hx7 := HBX.out.not (w := w6) (fun b e => by subst e; have := HGW.out; have := HSW.out; omega) gb rfl
        replace HH := Lib.hid (hu7.keep.has HH.out hx7)
        have G7 := Lib.hid hg7
        have ML7 := Lib.hid hm7
        clear hg7 hm7 hu7 hf7 hgb7 hx7 G ML HL6 OF6 ZS6 HDO
        have hh0 := HH.out
        rw [HGE.out] at hh0
        have a0 := hh0.cell 0 _ rfl
        have a1 := hh0.cell 1 _ rfl
        have a2 := hh0.cell 2 _ rfl
        have a3 := hh0.cell 3 _ rfl
        clear hh0
        go_wp2_with fail
        refine (scdo_nil _ P Q R w7).mono ?_
        clear a0 a1 a2 a3
        rintro e w8 ⟨rfl, b8⟩
        replace HL7 := Lib.hid (HL7.out.below b8)
        replace G7 := Lib.hid (G7.out.below b8)
        have ZS8 := Lib.hid (show ∀ b, (Zk b ∨ (s5 ≤ b ∧ b < w6.heap.size)) → b < w8.heap.size from fun b hb => Nat.lt_of_lt_of_le (ZS7.out b hb) b8.size)
        replace B := Lib.hid (B.out.trans (b8.mono B.out.size))
        clear b8 HH
        have hgl := glines_any _ gg gr n0 R7 w8 G7.out
        rw [ML7.out] at hgl
        go_wp2_with fail
        refine hgl.mono ?_
        rintro e w9 ⟨v9, rfl, ho9, b9⟩
        have H9 := Lib.hid (ho9.held (fun b hb _ => hb))
        replace HL7 := Lib.hid (HL7.out.below b9)
        replace G7 := Lib.hid (G7.out.below b9)
        have ZS9 := Lib.hid (show ∀ b, (Zk b ∨ (s5 ≤ b ∧ b < w6.heap.size)) → b < w9.heap.size from fun b hb => Nat.lt_of_lt_of_le (ZS8.out b hb) b9.size)
        replace B := Lib.hid (B.out.trans (b9.mono B.out.size))
        clear b9 ho9 hgl
        have hse := rlsame_any _ _ _ _ Lm Lm w9 H9.out HL7.out
        rw [sameL_self] at hse
        go_wp2_with fail
        refine hse.mono ?_
        rintro e wa ⟨rfl, ba⟩
        replace HL7 := Lib.hid (HL7.out.below ba)
        replace G7 := Lib.hid (G7.out.below ba)
        have ZSA := Lib.hid (show ∀ b, (Zk b ∨ (s5 ≤ b ∧ b < w6.heap.size)) → b < wa.heap.size from fun b hb => Nat.lt_of_lt_of_le (ZS9.out b hb) ba.size)
        replace B := Lib.hid (B.out.trans (ba.mono B.out.size))
        clear ba hse
        go_wp2
        go_roundw
        case rel => exact ⟨k + 1, Lm, R7, _, by omega, by go_num, HL7.out, ZSA, OF7, G7, ML7, HLM, B.out⟩
        case measure => simp [intOf] <;> omega
    · obtain rfl : k = m := by omega
      go_wp2
      go_ret
      exact ⟨(ret_eq (by first | rfl | (simp <;> omega))), B.out⟩
set_option maxRecDepth 100000 in
set_option maxHeartbeats 16000000 in
theorem walkH (W : World) (va vb : Value) (Ls : List Ln) (A : List Act4) (Z Y : Zone) (ha : HeldE lineE Z W va Ls) (hb : HeldE actE Y W vb A) : Calls Tryd.prog 4 #[va, vb] W (Yes W) := by
  obtain ⟨bo, cb, rfl⟩ := hb.len
  have hlb := hb.max
  obtain ⟨_, _, hc⟩ := acts_at hb
  obtain ⟨m, hm⟩ : ∃ m, m = A.length := ⟨_, rfl⟩
  have HM := Lib.hid hm
  rw [← hm] at hc hlb ⊢
  have HC := Lib.hid hc
  clear hb hc hm
  have hla := ha.max
  have ha := ha.lower
  obtain ⟨ao, ca, rfl⟩ := ha.len
  obtain ⟨n, hn⟩ : ∃ n, n = Ls.length := ⟨_, rfl⟩
  have HN := Lib.hid hn
  rw [← hn] at ha hla ⊢
  have HA := Lib.hid ha
  have HWR := Lib.hid (rlwrong_any _ _ Ls W ha)
  clear ha hn
  by_cases h1 : 40 < n
  · have hd : decide ((40 : Int) < n) = true := by rw [decide_eq_true_eq]; omega
    go_enter Tryd.func4, Tryd.ntmps4
    go_wp2_with fail
    refine HWR.out.mono ?_
    rintro e w0 hq
    obtain ⟨at_, cc, rfl, hat, b0⟩ := hq.say
    clear hq
    go_wp2_with fail
    refine (works33_any _).mono ?_
    rintro e w1 ⟨rfl, b1⟩
    have B := b0.trans (b1.mono b0.size)
    go_wp2_with fail
    refine (works33_any _).mono ?_
    rintro e w2 ⟨rfl, b2⟩
    have B := B.trans (b2.mono B.size)
    go_wp2
    go_ret
    exact ⟨(ret_eq (by first | rfl | (simp <;> omega))), B⟩

  have hd40 : decide ((40 : Int) < n) = false := by rw [decide_eq_false_iff_not]; omega
  have hd40n : decide (40 < n) = false := by rw [decide_eq_false_iff_not]; omega
  by_cases h0 : n = 0
  · have hz : ((n : Int) == 0) = true := by rw [beq_iff_eq]; omega
    clear h0
    go_enter Tryd.func4, Tryd.ntmps4
    go_wp2_with fail
    refine HWR.out.mono ?_
    rintro e w0 hq
    obtain ⟨at_, cc, rfl, hat, b0⟩ := hq.say
    clear hq
    go_wp2_with fail
    refine (works33_any _).mono ?_
    rintro e w1 ⟨rfl, b1⟩
    have B := b0.trans (b1.mono b0.size)
    go_wp2_with fail
    refine (works33_any _).mono ?_
    rintro e w2 ⟨rfl, b2⟩
    have B := B.trans (b2.mono B.size)
    go_wp2
    go_ret
    exact ⟨(ret_eq (by first | rfl | (simp <;> omega))), B⟩

  have hz : ((n : Int) == 0) = false := by rw [beq_eq_false_iff_ne]; omega
  by_cases hall : AllGood Ls
  rotate_left
  · have HALL := Lib.hid hall
    go_enter Tryd.func4, Tryd.ntmps4
    go_wp2_with fail
    refine HWR.out.mono ?_
    rintro e w0 hq
    obtain ⟨at_, cc, rfl, hat, b0⟩ := hq.say
    have hge : decide ((0 : Int) ≤ at_) = true := by rw [decide_eq_true_eq]; rcases hat with h | h; exact absurd h.1 HALL.out; exact h.1
    clear hq
    go_wp2_with fail
    refine (works33_any _).mono ?_
    rintro e w1 ⟨rfl, b1⟩
    have B := b0.trans (b1.mono b0.size)
    go_wp2_with fail
    refine (works33_any _).mono ?_
    rintro e w2 ⟨rfl, b2⟩
    have B := B.trans (b2.mono B.size)
    go_wp2
    go_ret
    exact ⟨(ret_eq (by first | rfl | (simp <;> omega))), B⟩

  have HALL := Lib.hid hall
  clear hall
  by_cases h2 : 60 < m
  · have hd60 : decide ((60 : Int) < m) = true := by rw [decide_eq_true_eq]; omega
    go_enter Tryd.func4, Tryd.ntmps4
    go_wp2_with fail
    refine HWR.out.mono ?_
    rintro e w0 hq
    obtain ⟨at_, cc, rfl, hat, b0⟩ := hq.say
    obtain rfl : at_ = -1 := by rcases hat with h | h; exact h.2; exact absurd HALL.out h.2
    clear hq
    go_wp2_with fail
    refine (works33_any _).mono ?_
    rintro e w1 ⟨rfl, b1⟩
    have B := b0.trans (b1.mono b0.size)
    go_wp2_with fail
    refine (works33_any _).mono ?_
    rintro e w2 ⟨rfl, b2⟩
    have B := B.trans (b2.mono B.size)
    go_wp2
    go_ret
    exact ⟨(ret_eq (by first | rfl | (simp <;> omega))), B⟩

  have _ := h2
  exact mainW W ao bo n ca m cb Ls A HN.out HM.out HA.out HC.out (by omega) (by omega) (by omega) HALL.out
set_option maxRecDepth 100000 in
theorem acts_arg {H : Type} {enc : TypeId × Value → H} {W : World} {base : Nat} {v : Value} {d : DataW H} {p : List MemPlace} (hv : Value.okWide Tryd.prog W .any base 38 v) (h : DataW.Trod enc Tryd.prog W 0 (fun _ => true) true 38 v d p) : ∃ L, HeldE actE (fun _ => True) W v L := by
  obtain ⟨L, hL, _⟩ := opens_arg (E := actE) Tryd.underlying38 (by kernel_rfl) (by decide) (opens_four Tryd.underlying45 (by kernel_rfl) rfl rfl rfl rfl (opens_bool Tryd.underlying4 (by kernel_rfl)) (opens_int Tryd.underlying3 (by kernel_rfl)) (opens_int Tryd.underlying3 (by kernel_rfl)) (opens_int Tryd.underlying3 (by kernel_rfl))) hv h
  exact ⟨L, hL.zone (fun _ _ _ => trivial)⟩
set_option maxRecDepth 100000 in
theorem walk {H : Type} {enc : TypeId × Value → H} (W : World) (u : Value) {base : Nat} {d : DataW H} {p : List MemPlace} (hv : Value.okWide Tryd.prog W .any base 37 u) (h : DataW.Trod enc Tryd.prog W 0 (fun _ => true) true 37 u d p) (u' : Value) {base' : Nat} {d' : DataW H} {p' : List MemPlace} (hv' : Value.okWide Tryd.prog W .any base' 38 u') (h' : DataW.Trod enc Tryd.prog W 0 (fun _ => true) true 38 u' d' p') (_ : laidMetH Tryd.prog Rows.scrollPlaysRow.laid W) : Calls Tryd.prog 4 #[u, u'] W (Yes W) := by
  obtain ⟨L, hL2⟩ := lines_arg hv h
  obtain ⟨A, hA2⟩ := acts_arg hv' h'
  exact walkH W u u' L A _ _ hL2 hA2

theorem door_met (os : Os) : laidMetH Tryd.prog Rows.scrollPlaysRow.laid ((World.doorLaid Tryd.prog 400 os).forCall (fun _ _ => 0) ⟨#[], #[.slice none 0 0, .slice none 0 0], []⟩).memory :=
  laidMetH_of_parts3 (fuel := 8) (laidMet_of_run' 8 (by kernel_rfl) (by kernel_rfl)) (by kernel_rfl) (by kernel_rfl)

set_option maxRecDepth 100000 in
theorem lifted (os : Os) (started : os.Started) (H : Type) (enc : TypeId × Value → H) :
    ReturnsInHanded {} Tryd.checked os 4 .any (fun w args => (Rows.scrollPlaysSpec.pre enc Tryd.prog Tryd.f4 [] false w args ∧ laidMetH Tryd.prog Rows.scrollPlaysRow.laid w) ∧ sizedMet enc Tryd.prog Tryd.f4 (OpenSpec.ofChange Rows.scrollPlaysSpec) false w args)
      (Rows.scrollPlaysSpec.post enc Tryd.prog Tryd.f4 false true false false) := by
  refine law_frame (C := Tryd.checked) (tb := 4) (by kernel_rfl) started (by kernel_rfl) Tryd.func4 (by kernel_rfl) (by kernel_rfl) Tryd.underlying4 rfl
    (by rw [Tryd.params4]; intro t ht; simp at ht; rcases ht with rfl | rfl <;> exact ⟨by kernel_rfl, of_decide_eq_true (by kernel_rfl)⟩)
    (by rw [Tryd.params4]; intro ds hd; match ds, hd with | [_, _], _ => rfl)
    (ChangeSpec.witness_shaped (enc := enc) (C := Tryd.checked) (os := os) (X := fun w _ => laidMetH Tryd.prog Rows.scrollPlaysRow.laid w) false (World.doorLaid Tryd.prog 400 os) #[.slice none 0 0, .slice none 0 0] 8 rfl (World.shaped_of_RefB (by kernel_rfl) (by kernel_rfl)) (by kernel_rfl) (by kernel_rfl) (by kernel_rfl) (door_met os)) ?_
  intro W base args ds before hval hA hsz hL
  rw [Tryd.params4] at hA hval
  obtain ⟨v0, vs0, d0, ds0, p0, q0, hargs, rfl, rfl, h0, r0⟩ := trodAll_cons hA
  obtain ⟨v1, vs1, d1, ds1, p1, q1, rfl, rfl, rfl, h1, r1⟩ := trodAll_cons r0
  obtain ⟨rfl, rfl, rfl⟩ := trodAll_nil r1
  obtain rfl : args = #[v0, v1] := by cases args; simp_all

  exact walk W v0 (hval 0 37 v0 rfl rfl) h0 v1 (hval 1 38 v1 rfl rfl) h1 hL

theorem said : Rows.ScrollPlaysSaid :=
  OpenClaim.holds_of_wide 4 Tryd.f4 rfl rfl rfl rfl rfl rfl rfl ⟨rfl, rfl, rfl, rfl, rfl⟩ rfl rfl rfl rfl rfl (by kernel_rfl) Tryd.func4 (by kernel_rfl)
    (of_decide_eq_true (by kernel_rfl)) (by unfold Func.isWrapper; first | (rw [if_pos (by decide +kernel)]; kernel_rfl) | (rw [if_neg (by decide +kernel)]; exact ⟨rfl, rfl⟩))
    (fun os started H enc _ => lifted os started H enc)

theorem plain (f : FuncId) (fn : Func) (hf : Tryd.pinned.checked.prog.funcNamed "linotype/linotypelaw33.ScrollPlays" = some f) (hfn : Tryd.pinned.checked.prog.funcs[f]? = some fn) :
    true = Tryd.pinned.checked.prog.looks [] ∧ ∀ (j : Nat) t, fn.params[j]? = some t → Tryd.pinned.checked.prog.wantsStandIn t = false := by
  obtain rfl : f = 4 := Option.some.inj ((show Tryd.prog.funcNamed "linotype/linotypelaw33.ScrollPlays" = some 4 by kernel_rfl).symm.trans hf) |>.symm
  obtain rfl : fn = Tryd.f4 := (Option.some.inj (Tryd.func4.symm.trans hfn)).symm
  refine ⟨by kernel_rfl, fun j t ht => ?_⟩
  rw [Tryd.params4] at ht
  have hm : t ∈ [37, 38] := by simpa using Array.mem_of_getElem? ht
  have hall : ([37, 38].all fun u => !Tryd.prog.wantsStandIn u) = true := by kernel_rfl
  exact (show Tryd.prog.wantsStandIn t = false by simpa using List.all_eq_true.1 hall t hm)

/-- THE CARD. -/
theorem card : Rows.ScrollPlaysCardSaid :=
  Claim7.holds_tied_plain_at .later [] _ _ _ _ said (fun _ h => by cases h) (by kernel_rfl) (fun _ h => by cases h) scrollPlays_row_tie rfl ⟨rfl, rfl⟩ (by kernel_rfl) rfl plain (by kernel_rfl)
#print axioms card

end Go.Proofs.YteolfknlcnihaaaDoor.lawScrollPlays
