/- The reference's Put of a cluster at once. -/
import Derived.Test.YtoeggiplcaegoaaGreatDoorPlcX
import Derived.Test.YtoeggiplcaegoaaGreatDoorMg10
import Derived.Test.YtoeggiplcaegoaaGreatDoorCwidA
import Derived.Test.YtoeggiplcaegoaaGreatDoorCellP
import Derived.Lib.MinMax
namespace Go.Proofs.YtoeggiplcaegoaaGreatDoor
open Go.RowKit Go.ChangeShapes Go.WideShapes
def ZR (Y : Zone) (w : World) : Zone := fun b => (Y b ∧ b < w.heap.size) ∨ w.heap.size + 3 ≤ b
def numT (xs : List Int) (n : Nat) : List Int := (xs.take n).map repl
theorem props_take {w : World} {ao : Option Addr} {cap : Nat} {L : List Pr} (h : HeldP w (.slice ao L.length cap) L) (n : Nat) (hn : n ≤ L.length) : HeldP w (.slice ao n cap) (L.take n) := by
  obtain ⟨a2, c2, e, hh⟩ := h
  cases e
  refine ⟨ao, cap, by rw [List.length_take, Nat.min_eq_left hn], fun i hi => ?_⟩
  have hi2 : i < L.length := by rw [List.length_take] at hi; omega
  have := hh i hi2
  rw [List.getElem_take]
  exact this
theorem numT_len (xs : List Int) (n : Nat) (h : n ≤ xs.length) : (numT xs n).length = n := by unfold numT; rw [List.length_map, List.length_take]; omega
set_option maxRecDepth 100000 in
set_option maxHeartbeats 6000000 in
theorem rwput_any (Y : Zone) (v : Value) (Ls : List Ln) (r c : Int) (pd au : Bool) (la pa : Option Addr) (lc pc : Nat) (xs : List Int) (ps : List Pr) (w : World) (wd : Nat) (hv : HeldE lineE Y w v Ls) (hx : Held .i32 w (.slice la xs.length lc) xs) (hp : HeldP w (.slice pa ps.length pc) ps) (hl : ps.length = xs.length) (hpc : ps.length ≤ pc) (hmx : xs.length ≤ 1000) (hev : Even Ls wd) (r2 c2 : Nat) (pd2 : Bool) (hr2 : inI r (sideI Ls.length) = (r2 : Int)) (hc2 : inI c (sideI wd) = (c2 : Int)) (hpd : holdP c pd wd = pd2) (hlr : r2 < Ls.length) (hlc : c2 < wd) (N : Nat) (hN : N = min xs.length 16) (X : Int) (hX : X = rowW (numT xs N) (ps.take N) N) :
    Calls Tryz.prog 17 #[.agg #[v, .int .i64 r, .int .i64 c, .bool pd, .bool au], .slice la xs.length lc, .slice pa ps.length pc] w (fun e w' => ∃ v' t', e = .returned (.tuple #[.agg #[v', .int .i64 (plcR Ls wd r2 c2 pd2 au X : Nat), .int .i64 (aftC (plcC wd c2 pd2 au X : Nat) (plcK wd X) wd), .bool (aftP (plcC wd c2 pd2 au X : Nat) (plcK wd X) wd au), .bool au], .agg #[.int .i64 (plcR Ls wd r2 c2 pd2 au X : Nat), .int .i64 (plcC wd c2 pd2 au X : Nat), .bool false], .int .i64 X, t']) ∧
      HeldE lineE (fun b => Y b ∨ w.heap.size ≤ b) w' v' (plcL Ls wd r2 c2 pd2 au X (numT xs N)) ∧ HeldE (intE .i32) (fun b => w.heap.size ≤ b) w' t' (numT xs N) ∧ Below w.heap.size w w') := by
  obtain ⟨ao, ca, rfl⟩ := hv.len
  obtain ⟨W, hW, hb, hr, hq, hl0, hs⟩ := qboxes w (.slice ao Ls.length ca) (.int .i64 r) (.int .i64 c) (.bool pd) (.bool au)
  obtain ⟨_, _, hvw, hcx⟩ := hx.view
  cases hvw
  have HC := Lib.hid hcx
  have HB := Lib.hid hb
  have HR := Lib.hid hr
  have HQ := Lib.hid hq
  have HV := Lib.hid hv
  have HP := Lib.hid hp
  have HL0 := Lib.hid hl0
  have HS := Lib.hid hs
  have HEV := Lib.hid hev
  have HLR := Lib.hid hlr
  have HLC := Lib.hid hlc
  have HR2 := Lib.hid (And.intro hr2 (And.intro hc2 hpd))
  have HXX := Lib.hid hX
  have HPL := Lib.hid hl
  have HNN := Lib.hid (show N ≤ xs.length ∧ N ≤ 16 from by omega)
  have hmin : min (xs.length : Int) 16 = (N : Int) := by omega
  obtain ⟨lsn, hlsn⟩ : ∃ lsn, lsn = Ls.length := ⟨_, rfl⟩
  have HLSN := Lib.hid hlsn
  obtain ⟨xn, hxn⟩ : ∃ xn, xn = xs.length := ⟨_, rfl⟩
  have HXN := Lib.hid hxn
  obtain ⟨pn, hpn⟩ : ∃ pn, pn = ps.length := ⟨_, rfl⟩
  have HPN := Lib.hid hpn
  have HCAP := Lib.hid (show N ≤ pc from by omega)
  rw [← hlsn] at hW
  rw [← hxn] at hmin ⊢
  rw [← hpn]
  clear hv hx hcx hp hl hpc hmx hev hr2 hc2 hpd hlr hlc hN hX hb hr hq hl0 hs hlsn hxn hpn
  rw [← HLSN.out]
  go_enter Tryz.func17, Tryz.ntmps17
  go_upto_region 1 with (fail)
  rw [← hW]
  clear hW
  go_upto_region 2 with (fail)
  clear hmin
  go_wp2
  go_loopw [11, 12] (fun t i wr => ∃ k : Nat, k ≤ N ∧ i = .int .i64 k ∧ OwnE (intE .i32) (fun _ => True) wr W.heap.size 21 t (numT xs k) ∧ Below W.heap.size W wr) (fun _ i _ => N - (intOf i).toNat)
  case atStart => exact ⟨0, Nat.zero_le _, rfl, OwnE.nil _ _ _ _ _, Below.refl _ _⟩
  case round =>
    obtain ⟨k, hk, rfl, hown, hbw⟩ := hrel
    have HBW := Lib.hid hbw
    clear hbw
    by_cases hlt : k < N
    · have hkx : k < xs.length := by have := HNN.out; omega
      have hk16 : k < 16 := by have := HNN.out; omega
      obtain ⟨b, off, rfl, hb, hcx⟩ := HC.out k hkx
      have hcx := ((HL0.out.trans (HBW.out.mono HL0.out.size)).cell (p := ⟨b, off + k, none⟩) hb).trans hcx
      have hs := takerepl_succ xs k hkx
      have hlen : (numT xs k).length ≤ 16 := by rw [numT_len xs k (by omega)]; omega
      obtain ⟨x, hx⟩ : ∃ x, x = xs.getD k 0 := ⟨_, rfl⟩
      rw [← hx] at hcx hs
      obtain ⟨P0, hP⟩ : ∃ P0, P0 = numT xs k := ⟨_, rfl⟩
      rw [show (xs.take k).map repl = P0 from hP.symm, show (xs.take (k + 1)).map repl = numT xs (k + 1) from rfl] at hs
      rw [← hP] at hown hlen
      have HSX := Lib.hid hs
      have hkx' : k < xn := by rw [HXN.out]; exact hkx
      clear hs hP hx hkx
      have hlo := hown.lt
      have HX := Lib.hid (fun y : Int => show HeldE (intE .i32) (fun b => True ∧ _ ≠ some b) (wr.alloc (.cells [Value.int .i32 y].toArray 21)) (.slice (some ⟨wr.heap.size, 0, none⟩) 1 1) [y] from heldE_one (Y := fun _ => False) [.int .i32 y] y rfl (fun _ _ h => h.elim) ⟨trivial, fun e => by have := (hlo _ e).2; omega⟩)
      have HO := Lib.hid (fun y : Int => hown.below ((Below.refl wr.heap.size wr).alloc (Nat.le_refl _) (.cells [Value.int .i32 y].toArray 21)))
      have HB1 := Lib.hid (fun y : Int => HBW.out.alloc HBW.out.size (.cells [Value.int .i32 y].toArray 21))
      clear hown hlo
      cases hvx : validB x with
      | true =>
        have HVX := Lib.hid hvx
        clear hvx
        go_wp2_with fail
        refine (refvalid_any _ _).mono ?_
        rintro e w' ⟨rfl, rfl⟩
        rw [HVX.out]
        go_wp2_with (at_builtin; refine wpList_append_e (E := intE .i32) (Z := fun _ => True) rfl (.tmp 29) (.tmp 34) 27 rfl (.int .i32 0) 4 Tryz.underlying27 info_rune rfl (Nat.lt_succ_self 0) rfl rfl (HO.out x) (HX.out x) (by simp; omega) (by simp; omega) (HB1.out x).size ?_)
        intro v2 w2 ho2 hb2 _ _
        have hb3 := (HB1.out x).trans hb2
        have e : repl x = x := by unfold repl; rw [if_pos HVX.out]
        rw [e] at HSX
        rw [← HSX.out] at ho2
        have H2 := Lib.hid ho2
        have H3 := Lib.hid hb3
        clear ho2 hb2 hb3 e
        go_wp2
        go_roundw
        case rel => exact ⟨k + 1, by omega, by go_num, H2.out, H3.out⟩
        case measure => simp [intOf] <;> omega
      | false =>
        have HVX := Lib.hid hvx
        clear hvx
        go_wp2_with fail
        refine (refvalid_any _ _).mono ?_
        rintro e w' ⟨rfl, rfl⟩
        rw [HVX.out]
        go_wp2_with (at_builtin; refine wpList_append_e (E := intE .i32) (Z := fun _ => True) rfl (.tmp 36) (.tmp 37) 27 rfl (.int .i32 0) 4 Tryz.underlying27 info_rune rfl (Nat.lt_succ_self 0) rfl rfl (HO.out 65533) (HX.out 65533) (by simp; omega) (by simp; omega) (HB1.out 65533).size ?_)
        intro v2 w2 ho2 hb2 _ _
        have hb3 := (HB1.out 65533).trans hb2
        have e : repl x = 65533 := by unfold repl; rw [if_neg (by rw [HVX.out]; decide)]
        rw [e] at HSX
        rw [← HSX.out] at ho2
        have H2 := Lib.hid ho2
        have H3 := Lib.hid hb3
        clear ho2 hb2 hb3 e
        go_wp2
        go_roundw
        case rel => exact ⟨k + 1, by omega, by go_num, H2.out, H3.out⟩
        case measure => simp [intOf] <;> omega
    · obtain rfl : k = N := by omega
      have hh := hown.heldInts
      obtain ⟨ta, tc, rfl⟩ := hh.len
      have hh2 := hh.ints
      have hnt := numT_len xs k (by have := HNN.out; omega)
      rw [hnt] at hh hh2 ⊢
      have hp1 := props_take (ao := pa) (cap := pc) (L := ps) HP.out k (by have := HNN.out; have := HPL.out; omega)
      have hbw2 := HL0.out.trans (HBW.out.mono HL0.out.size)
      have hrr := rrow_any _ (.slice pa k pc) (numT xs k) (ps.take k) wr hh2 (hp1.below (hbw2.mono (Nat.le_refl _))) (by rw [hnt, List.length_take]; have := HNN.out; have := HPL.out; omega) (by rw [hnt]; have := HNN.out; omega)
      rw [hnt, ← HXX.out] at hrr
      have HRR := Lib.hid hrr
      have HT := Lib.hid hh
      have HBX := Lib.hid (HB.out.below HBW.out HB.out.lt)
      have HRX := Lib.hid (HR.out.below HBW.out HR.out.lt)
      have HQX := Lib.hid (HQ.out.below HBW.out HQ.out.lt)
      have HVX := Lib.hid (((HV.out.zone (Y := fun b => Y b ∧ b < w.heap.size) fun b hb hz => ⟨hz, hb⟩).below HL0.out).below HBW.out)
      have HB2 := Lib.hid hbw2
      have HSZ := Lib.hid (show w.heap.size + 3 ≤ wr.heap.size from by rw [← HS.out]; exact HBW.out.size)
      have hcap := HCAP.out
      clear hown hh hh2 hnt hp1 hbw2 hrr hlt hk HBW HB HR HQ HV
      go_wp2_with fail
      refine HRR.out.mono ?_
      rintro e w2 ⟨rfl, b2⟩
      obtain ⟨RR, hRR⟩ : ∃ RR : Int, RR = (plcR Ls wd r2 c2 pd2 au X : Nat) := ⟨_, rfl⟩
      obtain ⟨CC0, hCC⟩ : ∃ CC0 : Int, CC0 = (plcC wd c2 pd2 au X : Nat) := ⟨_, rfl⟩
      obtain ⟨CA, hCA⟩ : ∃ CA : Int, CA = aftC (plcC wd c2 pd2 au X : Nat) (plcK wd X) wd := ⟨_, rfl⟩
      obtain ⟨PA, hPA⟩ : ∃ PA : Bool, PA = aftP (plcC wd c2 pd2 au X : Nat) (plcK wd X) wd au := ⟨_, rfl⟩
      obtain ⟨LL, hLL⟩ : ∃ LL, LL = plcL Ls wd r2 c2 pd2 au X (numT xs k) := ⟨_, rfl⟩
      have h2 := HBX.out.below b2 HBX.out.lt
      have hput := rpput_any (fun b => ZR Y w b ∧ b < w2.heap.size) (.slice ao Ls.length ca) Ls r c pd au X (.slice ta k tc) (numT xs k) w2 wd ((HVX.out.below b2).zone fun b hb hz => ⟨.inl hz, hb⟩) ((HT.out.below b2).zone fun b hb hz => ⟨.inr (by rw [← HS.out]; exact hz), hb⟩) (fun b hb => hb.2) HEV.out r2 c2 pd2 HR2.out.1 HR2.out.2.1 HR2.out.2.2 HLR.out HLC.out
      rw [← hRR, ← hCA, ← hPA, ← hLL, ← hCC] at hput
      have HPUT := Lib.hid hput
      have c0 := h2.cell 0 _ rfl
      have c1 := h2.cell 1 _ rfl
      have c2x := h2.cell 2 _ rfl
      have c3 := h2.cell 3 _ rfl
      have c4 := h2.cell 4 _ rfl
      have HT2 := Lib.hid (HT.out.below b2)
      have HR3 := Lib.hid (HRX.out.below b2 HRX.out.lt)
      have HQ3 := Lib.hid (HQX.out.below b2 HQX.out.lt)
      have HB3 := Lib.hid (HB2.out.trans (b2.mono HB2.out.size))
      have HFIN := Lib.hid (And.intro hRR (And.intro hCC (And.intro hCA (And.intro hPA hLL))))
      have HSZ2 := Lib.hid (show w.heap.size + 3 ≤ w2.heap.size from Nat.le_trans HSZ.out b2.size)
      clear hput hRR hCC hCA hPA hLL h2 b2 hcap HRR HT HBX HRX HQX HVX HB2 HSZ
      go_wp2_with fail
      refine HPUT.out.mono ?_
      rintro e w3 ⟨v3, rfl, h3, b3⟩
      obtain ⟨o3, k3, e3⟩ := h3.len
      subst e3
      obtain ⟨ln, hln⟩ : ∃ ln, ln = LL.length := ⟨_, rfl⟩
      rw [← hln] at h3
      rw [← hln]
      have HLN := Lib.hid hln
      have HV3 := Lib.hid h3
      have HT3 := Lib.hid (HT2.out.below b3)
      have HR4 := Lib.hid (HR3.out.below b3 HR3.out.lt)
      have HQ4 := Lib.hid (HQ3.out.below b3 HQ3.out.lt)
      have HB4 := Lib.hid (HB3.out.trans (b3.mono HB3.out.size))
      have HSZ3 := Lib.hid (show w.heap.size + 3 ≤ w3.heap.size from Nat.le_trans HSZ2.out b3.size)
      clear hln h3 b3 c0 c1 c2x c3 c4 HPUT HT2 HR3 HQ3 HB3
      have hb4 := (Below.refl w3.heap.size w3).alloc (Nat.le_refl _) (.cells [Value.slice o3 ln k3, .int .i64 RR, .int .i64 CA, .bool PA, .bool au].toArray 43)
      have hn4 := Has.new w3 [Value.slice o3 ln k3, .int .i64 RR, .int .i64 CA, .bool PA, .bool au] 43
      obtain ⟨W4, hW4⟩ : ∃ W4, W4 = w3.alloc (.cells [Value.slice o3 ln k3, .int .i64 RR, .int .i64 CA, .bool PA, .bool au].toArray 43) := ⟨_, rfl⟩
      rw [← hW4] at hb4 hn4
      have hs4 : W4.heap.size = w3.heap.size + 1 := by rw [hW4]; simp
      have hb5 := (Below.refl W4.heap.size W4).alloc (Nat.le_refl _) (.cells [Value.int .i64 RR, .int .i64 CC0, .bool false].toArray 24)
      have hn5 := Has.new W4 [Value.int .i64 RR, .int .i64 CC0, .bool false] 24
      obtain ⟨W5, hW5⟩ : ∃ W5, W5 = W4.alloc (.cells [Value.int .i64 RR, .int .i64 CC0, .bool false].toArray 24) := ⟨_, rfl⟩
      rw [← hW5] at hb5 hn5
      have hW5' : W5 = (w3.alloc (.cells #[Value.slice o3 ln k3, .int .i64 RR, .int .i64 CA, .bool PA, .bool au] 43)).alloc (.cells #[Value.int .i64 RR, .int .i64 CC0, .bool false] 24) := by rw [hW5, hW4]
      rw [hs4] at hn5
      obtain ⟨gP, hgP⟩ : ∃ gP, gP = w3.heap.size := ⟨_, rfl⟩
      rw [← hgP] at hn4 hn5
      have hb45 := hb4.trans (hb5.mono hb4.size)
      have HGP := Lib.hid hgP
      have HGQ := Lib.hid (show w.heap.size + 3 ≤ gP from by rw [hgP]; exact HSZ3.out)
      have HST := Lib.hid (And.intro (hn4.below hb5 hn4.lt) (And.intro hn5 (And.intro (HR4.out.below hb45 HR4.out.lt) (And.intro (HQ4.out.below hb45 HQ4.out.lt) (And.intro ((HV3.out.zone (Y := ZR Y w) fun b hb hz => by rcases hz with hz | hz; exact hz.1; exact .inr (by have := HSZ2.out; omega)).below hb45) (And.intro ((HT3.out.zone (Y := fun b => w.heap.size + 3 ≤ b) fun b hb hz => by rw [← HS.out]; exact hz).below hb45) (And.intro (HB4.out.trans (hb45.mono HB4.out.size)) (Nat.le_trans HSZ3.out hb45.size))))))))
      clear hb4 hn4 hW4 hs4 hb5 hn5 hW5 hb45 HV3 HT3 HR4 HQ4 HB4 hgP
      go_upto_region 11 with (fail)
      rw [← hW5', ← HGP.out]
      clear hW5' HGP
      obtain ⟨Erg, hErg⟩ : ∃ EE : Nat → Value → World → Prop, EE = fun jj xx ww => match jj with
          | 0 => xx = .agg #[.slice o3 ln k3, .int .i64 RR, .int .i64 CA, .bool PA, .bool au]
          | 1 => xx = .agg #[.int .i64 RR, .int .i64 CC0, .bool false]
          | 2 => xx = .int .i64 X
          | 3 => xx = .slice ta k tc
          | 4 => xx = undef
          | 5 => xx = undef
          | 6 => xx = .int .i64 X
          | 7 => xx = .slice ta k tc
          | _ => True := ⟨_, rfl⟩
      have erg0 : ∀ xx ww, Erg 0 xx ww = (xx = .agg #[.slice o3 ln k3, .int .i64 RR, .int .i64 CA, .bool PA, .bool au]) := fun xx ww => congrFun (congrFun (congrFun hErg 0) xx) ww
      have erg1 : ∀ xx ww, Erg 1 xx ww = (xx = .agg #[.int .i64 RR, .int .i64 CC0, .bool false]) := fun xx ww => congrFun (congrFun (congrFun hErg 1) xx) ww
      have erg2 : ∀ xx ww, Erg 2 xx ww = (xx = .int .i64 X) := fun xx ww => congrFun (congrFun (congrFun hErg 2) xx) ww
      have erg3 : ∀ xx ww, Erg 3 xx ww = (xx = .slice ta k tc) := fun xx ww => congrFun (congrFun (congrFun hErg 3) xx) ww
      have erg4 : ∀ xx ww, Erg 4 xx ww = (xx = undef) := fun xx ww => congrFun (congrFun (congrFun hErg 4) xx) ww
      have erg5 : ∀ xx ww, Erg 5 xx ww = (xx = undef) := fun xx ww => congrFun (congrFun (congrFun hErg 5) xx) ww
      have erg6 : ∀ xx ww, Erg 6 xx ww = (xx = .int .i64 X) := fun xx ww => congrFun (congrFun (congrFun hErg 6) xx) ww
      have erg7 : ∀ xx ww, Erg 7 xx ww = (xx = .slice ta k tc) := fun xx ww => congrFun (congrFun (congrFun hErg 7) xx) ww
      obtain ⟨Crg, hCrg⟩ : ∃ CC : Array Bool → World → Prop, CC = fun L8 w' => Has w' gP [.slice o3 ln k3, .int .i64 RR, .int .i64 CA, .bool PA, .bool au] 43 ∧ Has w' (gP + 1) [.int .i64 RR, .int .i64 CC0, .bool false] 24 ∧ (Mix.one L8 4 = 0 → Has w' (w.heap.size + 1) [.slice none 0 0, .int .i64 0, .int .i64 0, .bool false, .bool false] 43) ∧ (Mix.one L8 4 = 1 → Has w' (w.heap.size + 1) [.slice o3 ln k3, .int .i64 RR, .int .i64 CA, .bool PA, .bool au] 43) ∧ (Mix.one L8 5 = 0 → Has w' (w.heap.size + 2) [.int .i64 0, .int .i64 0, .bool false] 24) ∧ (Mix.one L8 5 = 1 → Has w' (w.heap.size + 2) [.int .i64 RR, .int .i64 CC0, .bool false] 24) ∧ HeldE lineE (ZR Y w) w' (.slice o3 ln k3) LL ∧ HeldE (intE .i32) (fun b => w.heap.size + 3 ≤ b) w' (.slice ta k tc) (numT xs k) ∧ Below w.heap.size w w' ∧ w.heap.size + 3 ≤ w'.heap.size := ⟨_, rfl⟩
      have krg : ∀ i L w, i ≠ 4 → i ≠ 5 →  Crg L w → Crg (L.setIfInBounds i true) w := by
        intro i L w q4 q5 h
        rw [hCrg] at h ⊢
        simp only [Mix.one_ne q4, Mix.one_ne q5]; exact h
      obtain ⟨Xrg, hXrg⟩ : ∃ XX : World → World → Prop, XX = fun _ _ => True := ⟨_, rfl⟩
      have xrg : ∀ w, Xrg w w := fun w => by rw [hXrg]; exact trivial
      have strg : ∀ j x w w1, Xrg w w1 → Erg j x w → Erg j x w1 := by
        intro j x w w1 hx h
        rw [hXrg] at hx
        match j with
        | 0 => rw [erg0] at h ⊢; exact h
        | 1 => rw [erg1] at h ⊢; exact h
        | 2 => rw [erg2] at h ⊢; exact h
        | 3 => rw [erg3] at h ⊢; exact h
        | 4 => rw [erg4] at h ⊢; exact h
        | 5 => rw [erg5] at h ⊢; exact h
        | 6 => rw [erg6] at h ⊢; exact h
        | 7 => rw [erg7] at h ⊢; exact h
        | j + 8 => rw [hErg]; trivial
      have crg : Crg (Array.replicate 8 false) W5.drew := by rw [hCrg]; (have hb := (Below.refl W5.heap.size W5).drew; obtain ⟨q1, q2, q3, q5, q7, q10, q8, q9⟩ := HST.out; exact ⟨q1.below hb q1.lt, q2.below hb q2.lt, fun _ => q3.below hb q3.lt, fun e => absurd e (by decide), fun _ => q5.below hb q5.lt, fun e => absurd e (by decide), q7.below hb, q10.below hb, q8.trans (hb.mono q8.size), Nat.le_trans q9 hb.size⟩)
      have brg : ∀ L w w1, Crg L w → Below w.heap.size w w1 → Crg L w1 := by
        intro L w w1 h hb
        rw [hCrg] at h ⊢
        (obtain ⟨q1, q2, q3, q4, q5, q6, q7, q10, q8, q9⟩ := h; exact ⟨q1.below hb q1.lt, q2.below hb q2.lt, fun e => (q3 e).below hb (q3 e).lt, fun e => (q4 e).below hb (q4 e).lt, fun e => (q5 e).below hb (q5 e).lt, fun e => (q6 e).below hb (q6 e).lt, q7.below hb, q10.below hb, q8.trans (hb.mono q8.size), Nat.le_trans q9 hb.size⟩)
      have xbrg : ∀ w w1, Below w.heap.size w w1 → Xrg w w1 := by
        intro w w1 hb
        rw [hXrg]
        trivial
      have Hrgb := Lib.hid brg
      have Hrgxb := Lib.hid xbrg
      clear brg xbrg
      clear hErg
      have Hrgk := Lib.hid krg
      have Hrgx := Lib.hid xrg
      have Hrgst := Lib.hid strg
      have Hrgc := Lib.hid crg
      have HrghC := Lib.hid hCrg
      have HrghX := Lib.hid hXrg
      have Hrge0 := Lib.hid erg0
      have Hrge1 := Lib.hid erg1
      have Hrge2 := Lib.hid erg2
      have Hrge3 := Lib.hid erg3
      have Hrge4 := Lib.hid erg4
      have Hrge5 := Lib.hid erg5
      have Hrge6 := Lib.hid erg6
      have Hrge7 := Lib.hid erg7
      clear krg xrg strg crg hCrg hXrg erg0 erg1 erg2 erg3 erg4 erg5 erg6 erg7
      go_wp2_with fail
      refine Reg.regionF Erg Crg Xrg Hrgst.out (by kernel_rfl) (by kernel_rfl) (by kernel_rfl) Hrgc.out (fun Frg hFrg => ?_)
      simp only [Reg.frame, Reg.dsts, List.map_cons, List.map_nil, Mix.put_lit, Reg.put_none, List.set_cons_succ, List.set_cons_zero, Nat.zero_add, Nat.reduceAdd] at hFrg
      refine ⟨?_, ?_⟩
      · refine ⟨?_, ?_, ?_, ?_, ?_, ?_, ?_, ?_, trivial⟩
        · intro Lq wq xq hh
          simp only [hFrg]
          refine .inl ⟨rfl, ?_⟩
          unfold Reg.upon
          have hc : Crg Lq wq := hh.cls
          rw [HrghC.out] at hc
          have y0 := hc.1.cell 0 _ rfl
          have y1 := hc.1.cell 1 _ rfl
          have y2 := hc.1.cell 2 _ rfl
          have y3 := hc.1.cell 3 _ rfl
          have y4 := hc.1.cell 4 _ rfl
          clear hc
          have hk := Hrgk.out 0 Lq wq (by decide) (by decide)  hh.cls
          have hx := Hrgx.out wq
          have he : Erg 0 (.agg #[.slice o3 ln k3, .int .i64 RR, .int .i64 CA, .bool PA, .bool au]) wq := by rw [Hrge0.out]
          have HK := Lib.hid (And.intro hk (And.intro he hx))
          clear hk hx he
          go_simp
          exact HK.out
        · intro Lq wq xq hh
          simp only [hFrg]
          refine .inl ⟨rfl, ?_⟩
          unfold Reg.upon
          have hc : Crg Lq wq := hh.cls
          rw [HrghC.out] at hc
          have y0 := hc.2.1.cell 0 _ rfl
          have y1 := hc.2.1.cell 1 _ rfl
          have y2 := hc.2.1.cell 2 _ rfl
          clear hc
          have hk := Hrgk.out 1 Lq wq (by decide) (by decide)  hh.cls
          have hx := Hrgx.out wq
          have he : Erg 1 (.agg #[.int .i64 RR, .int .i64 CC0, .bool false]) wq := by rw [Hrge1.out]
          have HK := Lib.hid (And.intro hk (And.intro he hx))
          clear hk hx he
          go_simp
          exact HK.out
        · intro Lq wq xq hh
          simp only [hFrg]
          refine .inl ⟨rfl, ?_⟩
          unfold Reg.upon
          have hk := Hrgk.out 2 Lq wq (by decide) (by decide)  hh.cls
          have hx := Hrgx.out wq
          have he : Erg 2 (.int .i64 X) wq := by rw [Hrge2.out]
          have HK := Lib.hid (And.intro hk (And.intro he hx))
          clear hk hx he
          go_simp
          exact HK.out
        · intro Lq wq xq hh
          simp only [hFrg]
          refine .inl ⟨rfl, ?_⟩
          unfold Reg.upon
          have hk := Hrgk.out 3 Lq wq (by decide) (by decide)  hh.cls
          have hx := Hrgx.out wq
          have he : Erg 3 (.slice ta k tc) wq := by rw [Hrge3.out]
          have HK := Lib.hid (And.intro hk (And.intro he hx))
          clear hk hx he
          go_simp
          exact HK.out
        · intro Lq wq xq hh
          have d0 : Erg 0 (xq 0) wq := hh.val 0 (by kernel_rfl) (by kernel_rfl)
          rw [Hrge0.out] at d0
          simp only [hFrg, d0]
          clear d0
          refine .inl ⟨rfl, ?_⟩
          unfold Reg.upon
          have hc : Crg Lq wq := hh.cls
          rw [HrghC.out] at hc
          obtain ⟨q1, q2, q3, q4, q5, q6, q7, q10, q8, q9⟩ := hc
          have hz := q3 hh.un
          have y0 := hz.cell 0 _ rfl
          have y1 := hz.cell 1 _ rfl
          have y2 := hz.cell 2 _ rfl
          have y3 := hz.cell 3 _ rfl
          have y4 := hz.cell 4 _ rfl
          have s0 := hz.free 0
          have s1 := hz.free 1
          have s2 := hz.free 2
          have s3 := hz.free 3
          have s4 := hz.free 4
          have hu := pres_upd (W := wq) (w.heap.size + 1) (.slice o3 ln k3) (.int .i64 RR) (.int .i64 CA) (.bool PA) (.bool au)
          have hF : Crg (Lq.setIfInBounds 4 true) (((((wq.setCell ⟨w.heap.size + 1, 0, none⟩ (.slice o3 ln k3)).setCell ⟨w.heap.size + 1, 1, none⟩ (.int .i64 RR)).setCell ⟨w.heap.size + 1, 2, none⟩ (.int .i64 CA)).setCell ⟨w.heap.size + 1, 3, none⟩ (.bool PA)).setCell ⟨w.heap.size + 1, 4, none⟩ (.bool au)) ∧ Erg 4 undef (((((wq.setCell ⟨w.heap.size + 1, 0, none⟩ (.slice o3 ln k3)).setCell ⟨w.heap.size + 1, 1, none⟩ (.int .i64 RR)).setCell ⟨w.heap.size + 1, 2, none⟩ (.int .i64 CA)).setCell ⟨w.heap.size + 1, 3, none⟩ (.bool PA)).setCell ⟨w.heap.size + 1, 4, none⟩ (.bool au)) ∧ Xrg wq (((((wq.setCell ⟨w.heap.size + 1, 0, none⟩ (.slice o3 ln k3)).setCell ⟨w.heap.size + 1, 1, none⟩ (.int .i64 RR)).setCell ⟨w.heap.size + 1, 2, none⟩ (.int .i64 CA)).setCell ⟨w.heap.size + 1, 3, none⟩ (.bool PA)).setCell ⟨w.heap.size + 1, 4, none⟩ (.bool au)) := by
            refine ⟨?_, by rw [Hrge4.out], by rw [HrghX.out]; trivial⟩
            rw [HrghC.out]
            refine ⟨hu.keep.has q1 (fun e => by have := HGQ.out; omega), hu.keep.has q2 (fun e => by have := HGQ.out; omega), fun e => ?_, fun _ => pres_has hz _ _ _ _ _, fun e => hu.keep.has (q5 (by rw [Mix.one_ne (by decide)] at e; exact e)) (fun e => by omega), fun e => hu.keep.has (q6 (by rw [Mix.one_ne (by decide)] at e; exact e)) (fun e => by omega), q7.upd hu (fun x hx e => by rcases hx with hx | hx <;> omega), q10.upd hu (fun x hx e => by omega), pres (g := w.heap.size + 1) q8 (by omega) _ _ _ _ _, Nat.le_trans q9 hu.size⟩
            rw [Mix.one_set (by rw [hh.size]; decide)] at e
            exact absurd e (by decide)
          clear q1 q2 q3 q4 q5 q6 q7 q8 q10 hz hu
          go_simp
          try exact hF
        · intro Lq wq xq hh
          have d1 : Erg 1 (xq 1) wq := hh.val 1 (by kernel_rfl) (by kernel_rfl)
          rw [Hrge1.out] at d1
          simp only [hFrg, d1]
          clear d1
          refine .inl ⟨rfl, ?_⟩
          unfold Reg.upon
          have hc : Crg Lq wq := hh.cls
          rw [HrghC.out] at hc
          obtain ⟨q1, q2, q3, q4, q5, q6, q7, q10, q8, q9⟩ := hc
          have hz := q5 hh.un
          have y0 : wq.cell? ⟨w.heap.size + 1 + 1, 0, none⟩ = some (.int .i64 0) := hz.cell 0 _ rfl
          have y1 : wq.cell? ⟨w.heap.size + 1 + 1, 1, none⟩ = some (.int .i64 0) := hz.cell 1 _ rfl
          have y2 : wq.cell? ⟨w.heap.size + 1 + 1, 2, none⟩ = some (.bool false) := hz.cell 2 _ rfl
          have s0 : wq.frozen? ⟨w.heap.size + 1 + 1, 0, none⟩ = false := hz.free 0
          have s1 : wq.frozen? ⟨w.heap.size + 1 + 1, 1, none⟩ = false := hz.free 1
          have s2 : wq.frozen? ⟨w.heap.size + 1 + 1, 2, none⟩ = false := hz.free 2
          have hu := (((Upd.refl (fun x => x = w.heap.size + 2) wq).setCell (p := ⟨w.heap.size + 2, 0, none⟩) (.inl rfl) (.int .i64 RR)).setCell (p := ⟨w.heap.size + 2, 1, none⟩) (.inl rfl) (.int .i64 CC0)).setCell (p := ⟨w.heap.size + 2, 2, none⟩) (.inl rfl) (.bool false)
          have hF : Crg (Lq.setIfInBounds 5 true) (((wq.setCell ⟨w.heap.size + 2, 0, none⟩ (.int .i64 RR)).setCell ⟨w.heap.size + 2, 1, none⟩ (.int .i64 CC0)).setCell ⟨w.heap.size + 2, 2, none⟩ (.bool false)) ∧ Erg 5 undef (((wq.setCell ⟨w.heap.size + 2, 0, none⟩ (.int .i64 RR)).setCell ⟨w.heap.size + 2, 1, none⟩ (.int .i64 CC0)).setCell ⟨w.heap.size + 2, 2, none⟩ (.bool false)) ∧ Xrg wq (((wq.setCell ⟨w.heap.size + 2, 0, none⟩ (.int .i64 RR)).setCell ⟨w.heap.size + 2, 1, none⟩ (.int .i64 CC0)).setCell ⟨w.heap.size + 2, 2, none⟩ (.bool false)) := by
            refine ⟨?_, by rw [Hrge5.out], by rw [HrghX.out]; trivial⟩
            rw [HrghC.out]
            refine ⟨hu.keep.has q1 (fun e => by have := HGQ.out; omega), hu.keep.has q2 (fun e => by have := HGQ.out; omega), fun e => hu.keep.has (q3 (by rw [Mix.one_ne (by decide)] at e; exact e)) (fun e => by omega), fun e => hu.keep.has (q4 (by rw [Mix.one_ne (by decide)] at e; exact e)) (fun e => by omega), fun e => ?_, fun _ => ((hz.set 0 _).set 1 _).set 2 _, q7.upd hu (fun x hx e => by rcases hx with hx | hx <;> omega), q10.upd hu (fun x hx e => by omega), q8.trans (hu.below q8.size fun x e => by omega), Nat.le_trans q9 hu.size⟩
            rw [Mix.one_set (by rw [hh.size]; decide)] at e
            exact absurd e (by decide)
          have hF' := hF
          clear q1 q2 q3 q4 q5 q6 q7 q8 q10 hz hu
          go_simp
          try exact hF
        · intro Lq wq xq hh
          have d2 : Erg 2 (xq 2) wq := hh.val 2 (by kernel_rfl) (by kernel_rfl)
          rw [Hrge2.out] at d2
          simp only [hFrg, d2]
          clear d2
          refine .inl ⟨rfl, ?_⟩
          unfold Reg.upon
          have hk := Hrgk.out 6 Lq wq (by decide) (by decide)  hh.cls
          have hx := Hrgx.out wq
          have he : Erg 6 (.int .i64 X) wq := by rw [Hrge6.out]
          have HK := Lib.hid (And.intro hk (And.intro he hx))
          clear hk hx he
          go_simp
          exact HK.out
        · intro Lq wq xq hh
          have d3 : Erg 3 (xq 3) wq := hh.val 3 (by kernel_rfl) (by kernel_rfl)
          rw [Hrge3.out] at d3
          simp only [hFrg, d3]
          clear d3
          refine .inl ⟨rfl, ?_⟩
          unfold Reg.upon
          have hk := Hrgk.out 7 Lq wq (by decide) (by decide)  hh.cls
          have hx := Hrgx.out wq
          have he : Erg 7 (.slice ta k tc) wq := by rw [Hrge7.out]
          have HK := Lib.hid (And.intro hk (And.intro he hx))
          clear hk hx he
          go_simp
          exact HK.out
      intro xq wrg hcrg hvrg
      rw [HrghC.out] at hcrg
      simp only [hFrg]
      have vrg6 : Erg 6 (xq 6) wrg := hvrg 6 (by decide)
      rw [Hrge6.out] at vrg6
      rw [vrg6]
      have vrg7 : Erg 7 (xq 7) wrg := hvrg 7 (by decide)
      rw [Hrge7.out] at vrg7
      rw [vrg7]
      clear hvrg hFrg Hrgk Hrgx Hrgst Hrgc HrghC HrghX Hrgb Hrgxb Hrge0 Hrge1 Hrge2 Hrge3 Hrge4 Hrge5 Hrge6 Hrge7
      obtain ⟨_, _, _, q4, _, q6, q7, q10, q8, q9⟩ := hcrg
      have hk := q4 (by kernel_rfl)
      have hm := q6 (by kernel_rfl)
      have k0' := hk.cell 0 _ rfl
      have k1' := hk.cell 1 _ rfl
      have k2' := hk.cell 2 _ rfl
      have k3' := hk.cell 3 _ rfl
      have k4' := hk.cell 4 _ rfl
      have m0 : wrg.cell? ⟨w.heap.size + 1 + 1, 0, none⟩ = some (.int .i64 RR) := hm.cell 0 _ rfl
      have m1 : wrg.cell? ⟨w.heap.size + 1 + 1, 1, none⟩ = some (.int .i64 CC0) := hm.cell 1 _ rfl
      have m2 : wrg.cell? ⟨w.heap.size + 1 + 1, 2, none⟩ = some (.bool false) := hm.cell 2 _ rfl
      have HF := Lib.hid (And.intro (q7.zone (Y := fun b => Y b ∨ w.heap.size ≤ b) fun b _ hz => by rcases hz with hz | hz; exact .inl hz.1; exact .inr (by omega)) (And.intro (q10.zone (Y := fun b => w.heap.size ≤ b) fun b _ hz => by omega) q8))
      clear hk hm q4 q6 q7 q8 q10
      go_wp2
      exact bodyPost_ret (v := .tuple #[.agg #[.slice o3 ln k3, .int .i64 RR, .int .i64 CA, .bool PA, .bool au], .agg #[.int .i64 RR, .int .i64 CC0, .bool false], .int .i64 X, .slice ta k tc]) (by simp [results, Tryz.results17, go_sem, k0', k1', k2', k3', k4', m0, m1, m2, vrg6, vrg7]) rfl ⟨.slice o3 ln k3, .slice ta k tc, by rw [← HFIN.out.1, ← HFIN.out.2.2.1, ← HFIN.out.2.2.2.1, ← HFIN.out.2.1], by rw [← HFIN.out.2.2.2.2]; exact HF.out.1, HF.out.2.1, HF.out.2.2⟩
end Go.Proofs.YtoeggiplcaegoaaGreatDoor
