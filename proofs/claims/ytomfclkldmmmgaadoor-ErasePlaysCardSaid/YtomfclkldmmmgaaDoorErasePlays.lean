/- ErasePlays (26.1) answers true at every sound row and every list of calls, and turns nothing. -/
import Derived.Test.YtomfclkldmmmgaaDoorEraW
import Derived.Test.YtomfclkldmmmgaaDoorEraR
import Derived.Test.YtomfclkldmmmgaaDoorCellU
import Derived.Test.YtomfclkldmmmgaaDoorCellS
import Derived.Test.YtomfclkldmmmgaaDoorErrS
import Derived.Test.YtomfclkldmmmgaaDoorCards
import Derived.Test.YtomfclkldmmmgaaDoorTie
import Derived.ProofKit
import Derived.Lib.MinMax
namespace Go.Proofs.YtomfclkldmmmgaaDoor.lawErasePlays
open Go.ChangeShapes Go.WideShapes Go.ChangeAt Go.RowKit
abbrev Act3 := Int × Int × Int
def actE : Elem Act3 := prE (intE .i64) (prE (intE .i64) (intE .i64))
abbrev za : Act3 := (0, 0, 0)
theorem acts_at {Z : Zone} {w : World} {ao : Option Addr} {n cap : Nat} {L : List Act3} (h : HeldE actE Z w (.slice ao n cap) L) : n = L.length ∧ n ≤ cap ∧ ∀ i, i < L.length → ∃ b off, ao = some ⟨b, off, none⟩ ∧ b < w.heap.size ∧
    w.cell? ⟨b, off + i * 3, none⟩ = some (.int .i64 (L.getD i za).1) ∧ w.cell? ⟨b, off + i * 3 + 1, none⟩ = some (.int .i64 (L.getD i za).2.1) ∧ w.cell? ⟨b, off + i * 3 + 2, none⟩ = some (.int .i64 (L.getD i za).2.2) := by
  obtain ⟨h1, h2, h3⟩ := h.spots
  refine ⟨h1, h2, fun i hi => ?_⟩
  obtain ⟨b, off, rfl, hb, hz, C, hC, hr⟩ := h3 i hi
  obtain ⟨C1, C2, rfl, rfl, C3, C4, rfl, rfl, rfl⟩ := hr
  exact ⟨b, off, rfl, hb, hC 0 (by decide), hC 1 (by decide), hC 2 (by decide)⟩
set_option maxRecDepth 100000 in
set_option maxHeartbeats 8000000 in
theorem walkH (W : World) (va : Value) (L : List Cl) (Z : Zone) (ha : HeldE cellE Z W va L) (on : Bool) (vb : Value) (A : List Act3) (Y : Zone) (hb : HeldE actE Y W vb A) : Calls Tryd.prog 6 #[va, .bool on, vb] W (Yes W) := by
  have hla := ha.max
  have hlb := hb.max
  have ha := ha.lower
  obtain ⟨ao, ca, rfl⟩ := ha.len
  obtain ⟨bo, cb, rfl⟩ := hb.len
  obtain ⟨_, _, hc⟩ := acts_at hb
  have HA := Lib.hid ha
  have HC := Lib.hid hc
  clear ha hb hc
  by_cases h1 : 60 < L.length
  · go_enter Tryd.func6, Tryd.ntmps6
    go_wp2_with fail
    refine (works26_any _).mono ?_
    rintro e w1 ⟨rfl, b1⟩
    go_wp2_with fail
    refine (works26_any _).mono ?_
    rintro e w2 ⟨rfl, b2⟩
    have b2 := b1.trans (b2.mono b1.size)
    go_wp2
    go_ret
    exact ⟨(ret_eq (by first | rfl | (simp <;> omega))), b2⟩
  have hd60 : decide ((60 : Int) < L.length) = false := by simp; omega
  by_cases h0 : L.length = 0
  · have hz : ((L.length : Int) == 0) = true := by rw [beq_iff_eq]; omega
    go_enter Tryd.func6, Tryd.ntmps6
    go_wp2_with fail
    refine (works26_any _).mono ?_
    rintro e w1 ⟨rfl, b1⟩
    go_wp2_with fail
    refine (works26_any _).mono ?_
    rintro e w2 ⟨rfl, b2⟩
    have b2 := b1.trans (b2.mono b1.size)
    go_wp2
    go_ret
    exact ⟨(ret_eq (by first | rfl | (simp <;> omega))), b2⟩
  have hz : ((L.length : Int) == 0) = false := by rw [beq_eq_false_iff_ne]; omega
  by_cases hs : soundB L = false
  · go_enter Tryd.func6, Tryd.ntmps6
    go_wp2_with fail
    refine (works26_any _).mono ?_
    rintro e w1 ⟨rfl, b1⟩
    have hse := rsound_any _ _ _ _ (HA.out.below b1)
    rw [← sound_iff, hs] at hse
    go_wp2_with fail
    refine hse.mono ?_
    rintro e w2 ⟨rfl, b2⟩
    have b2 := b1.trans (b2.mono b1.size)
    go_wp2_with fail
    refine (works26_any _).mono ?_
    rintro e w3 ⟨rfl, b3⟩
    have b3 := b2.trans (b3.mono b2.size)
    go_wp2
    go_ret
    exact ⟨(ret_eq (by first | rfl | (simp <;> omega))), b3⟩
  have hs : soundB L = true := by simpa using hs
  by_cases h2 : 60 < A.length
  · go_enter Tryd.func6, Tryd.ntmps6
    go_wp2_with fail
    refine (works26_any _).mono ?_
    rintro e w1 ⟨rfl, b1⟩
    have hse := rsound_any _ _ _ _ (HA.out.below b1)
    rw [← sound_iff, hs] at hse
    go_wp2_with fail
    refine hse.mono ?_
    rintro e w2 ⟨rfl, b2⟩
    have b2 := b1.trans (b2.mono b1.size)
    go_wp2_with fail
    refine (works26_any _).mono ?_
    rintro e w3 ⟨rfl, b3⟩
    have b3 := b2.trans (b3.mono b2.size)
    go_wp2
    go_ret
    exact ⟨(ret_eq (by first | rfl | (simp <;> omega))), b3⟩
  have hd61 : decide ((60 : Int) < A.length) = false := by simp; omega
  have HS := Lib.hid hs
  go_enter Tryd.func6, Tryd.ntmps6
  go_wp2_with fail
  refine (works26_any _).mono ?_
  rintro e w1 ⟨rfl, b1⟩
  have hse := rsound_any _ _ _ _ (HA.out.below b1)
  rw [← sound_iff, hs] at hse
  clear hs
  go_wp2_with fail
  refine hse.mono ?_
  rintro e w2 ⟨rfl, b2⟩
  have B2 := Lib.hid (b1.trans (b2.mono b1.size))
  clear b1 b2 hse
  have HP := Lib.hid (rof_ok _ _ _ _ (HA.out.below B2.out) (by omega) (by omega) HS.out)
  go_wp2_with fail
  refine HP.out.mono ?_
  rintro e w3 ⟨g, gc, rfl, hr3, b3⟩
  have hr3 := hr3.keep (.refl _ _) (Y := fun _ => True) (fun _ _ _ => trivial)
  have B3 := Lib.hid (B2.out.trans (b3.mono B2.out.size))
  have hlt := hr3.lt
  have HLT := Lib.hid (show W.heap.size ≤ g ∧ W.heap.size ≤ gc ∧ g < w3.heap.size ∧ gc < w3.heap.size from by have := B2.out.size; omega)
  have HG := Lib.hid (rgoon_any _ _ g gc _ _ on w3 hr3)
  clear hr3 b3 hlt
  go_wp2_with fail
  refine HG.out.mono ?_
  rintro e w4 ⟨rfl, hr4, u4⟩
  have HR4 := Lib.hid hr4
  have B4 := Lib.hid (B3.out.upd u4 B3.out.size (fun x e => by have := HLT.out; rcases e with e | e <;> omega))
  have HSZ := Lib.hid u4.size
  have HA4 := Lib.hid ((HA.out.below B4.out).zone (Y := fun b => b ≠ g ∧ b ≠ gc) (fun b _ hb => by have := HLT.out; exact ⟨by omega, by omega⟩))
  clear hr4 u4
  go_wp2
  go_loopw [0, 9, 10] (fun lv wv i wr => ∃ (k : Nat) (Lk : List Cl) (wk : Bool), k ≤ A.length ∧ i = .int .i64 k ∧ wv = .bool wk ∧ RowAt (fun _ => True) wr w2.heap.size g gc Lk wk ∧ HeldE cellE (fun b => b ≠ g ∧ b ≠ gc) wr lv Lk ∧ Below W.heap.size W wr ∧ Go.RowKit.Hid (w3.heap.size ≤ wr.heap.size)) (fun _ _ i _ => A.length - (intOf i).toNat)
  case atStart => exact ⟨0, L, on, Nat.zero_le _, rfl, rfl, HR4.out, HA4.out, B4.out, HSZ⟩
  case round =>
    obtain ⟨k, Lk, wk, hk, rfl, rfl, hr, hcv, hbw, HWS⟩ := hrel
    have HR := Lib.hid hr
    have HCV := Lib.hid hcv
    have HBW := Lib.hid hbw
    clear hr hcv hbw
    by_cases hlt : k < A.length
    · obtain ⟨b, off, rfl, hb, c0, c1, c2⟩ := HC.out k hlt
      obtain ⟨⟨K, P, Q⟩, hS⟩ : ∃ y, y = A.getD k za := ⟨_, rfl⟩
      rw [← hS] at c0 c1 c2
      simp only at c0 c1 c2
      have HF := Lib.hid (show ∀ w2, Below W.heap.size W w2 → w2.cell? ⟨b, off + k * 3, none⟩ = some (.int .i64 K) ∧ w2.cell? ⟨b, off + k * 3 + 1, none⟩ = some (.int .i64 P) ∧ w2.cell? ⟨b, off + k * 3 + 2, none⟩ = some (.int .i64 Q) from fun w2 h => ⟨(h.cell (p := ⟨b, off + k * 3, none⟩) hb).trans c0, (h.cell (p := ⟨b, off + k * 3 + 1, none⟩) hb).trans c1, (h.cell (p := ⟨b, off + k * 3 + 2, none⟩) hb).trans c2⟩)
      have HD := Lib.hid (edo_any _ g gc Lk wk K P Q wr HR.out)
      have hll := HR.out.len
      obtain ⟨hl1, hl2, _⟩ := hll
      clear hS c0 c1 c2 hb
      obtain ⟨c0, c1, c2⟩ := HF.out wr HBW.out
      go_wp2_with fail
      refine HD.out.mono ?_
      rintro e w5 ⟨rfl, hr5, u5⟩
      have HR5 := Lib.hid hr5
      have HC5 := Lib.hid (HCV.out.upd u5 (fun b hb e => by rcases e with e | e; exact hb.1 e; exact hb.2 e))
      have B5 := Lib.hid (HBW.out.upd u5 HBW.out.size (fun x e => by have := HLT.out; rcases e with e | e <;> omega))
      have HS5 := Lib.hid (Nat.le_trans HWS.out u5.size)
      clear hr5 u5 c0 c1 c2
      obtain ⟨L2, hL2⟩ : ∃ L2, L2 = (actL Lk wk K P Q).1 := ⟨_, rfl⟩
      obtain ⟨q2, hq2⟩ : ∃ q2, q2 = (actL Lk wk K P Q).2 := ⟨_, rfl⟩
      have HACT := Lib.hid (fun Z v w h1 h2 h3 => rfact_any Z v Lk wk K P Q w h1 h2 h3)
      rw [← hL2, ← hq2] at HR5
      rw [← hL2, ← hq2] at HACT
      clear hL2 hq2
      obtain ⟨Erg, hErg⟩ : ∃ EE : Nat → Value → World → Prop, EE = fun jj xx ww => match jj with
          | 0 => xx = u0
          | 1 => xx = .bool wk
          | 2 => xx = .slice (some ⟨b, off, none⟩) A.length cb
          | 3 => xx = .int .i64 k
          | 4 => xx = .pointer (some ⟨b, off + k * 3, none⟩)
          | 5 => xx = .pointer (some ⟨b, off + k * 3, none⟩)
          | 6 => xx = .int .i64 K
          | 7 => xx = .slice (some ⟨b, off, none⟩) A.length cb
          | 8 => xx = .int .i64 k
          | 9 => xx = .pointer (some ⟨b, off + k * 3, none⟩)
          | 10 => xx = .pointer (some ⟨b, off + k * 3 + 1, none⟩)
          | 11 => xx = .int .i64 P
          | 12 => xx = .slice (some ⟨b, off, none⟩) A.length cb
          | 13 => xx = .int .i64 k
          | 14 => xx = .pointer (some ⟨b, off + k * 3, none⟩)
          | 15 => xx = .pointer (some ⟨b, off + k * 3 + 2, none⟩)
          | 16 => xx = .int .i64 Q
          | 17 => (fun x w' => ∃ v9, x = .tuple #[v9, .bool q2] ∧ HeldE cellE (fun b => b ≠ g ∧ b ≠ gc) w' v9 L2) xx ww
          | 18 => (fun x w' => ∃ v9, x = .tuple #[v9, .bool q2] ∧ HeldE cellE (fun b => b ≠ g ∧ b ≠ gc) w' v9 L2) xx ww
          | 19 => (fun x w' => HeldE cellE (fun b => b ≠ g ∧ b ≠ gc) w' x L2) xx ww
          | 20 => xx = .bool q2
          | 21 => (fun x w' => HeldE cellE (fun b => b ≠ g ∧ b ≠ gc) w' x L2) xx ww
          | 22 => xx = .bool q2
          | _ => True := ⟨_, rfl⟩
      have erg0 : ∀ xx ww, Erg 0 xx ww = (xx = u0) := fun xx ww => congrFun (congrFun (congrFun hErg 0) xx) ww
      have erg1 : ∀ xx ww, Erg 1 xx ww = (xx = .bool wk) := fun xx ww => congrFun (congrFun (congrFun hErg 1) xx) ww
      have erg2 : ∀ xx ww, Erg 2 xx ww = (xx = .slice (some ⟨b, off, none⟩) A.length cb) := fun xx ww => congrFun (congrFun (congrFun hErg 2) xx) ww
      have erg3 : ∀ xx ww, Erg 3 xx ww = (xx = .int .i64 k) := fun xx ww => congrFun (congrFun (congrFun hErg 3) xx) ww
      have erg4 : ∀ xx ww, Erg 4 xx ww = (xx = .pointer (some ⟨b, off + k * 3, none⟩)) := fun xx ww => congrFun (congrFun (congrFun hErg 4) xx) ww
      have erg5 : ∀ xx ww, Erg 5 xx ww = (xx = .pointer (some ⟨b, off + k * 3, none⟩)) := fun xx ww => congrFun (congrFun (congrFun hErg 5) xx) ww
      have erg6 : ∀ xx ww, Erg 6 xx ww = (xx = .int .i64 K) := fun xx ww => congrFun (congrFun (congrFun hErg 6) xx) ww
      have erg7 : ∀ xx ww, Erg 7 xx ww = (xx = .slice (some ⟨b, off, none⟩) A.length cb) := fun xx ww => congrFun (congrFun (congrFun hErg 7) xx) ww
      have erg8 : ∀ xx ww, Erg 8 xx ww = (xx = .int .i64 k) := fun xx ww => congrFun (congrFun (congrFun hErg 8) xx) ww
      have erg9 : ∀ xx ww, Erg 9 xx ww = (xx = .pointer (some ⟨b, off + k * 3, none⟩)) := fun xx ww => congrFun (congrFun (congrFun hErg 9) xx) ww
      have erg10 : ∀ xx ww, Erg 10 xx ww = (xx = .pointer (some ⟨b, off + k * 3 + 1, none⟩)) := fun xx ww => congrFun (congrFun (congrFun hErg 10) xx) ww
      have erg11 : ∀ xx ww, Erg 11 xx ww = (xx = .int .i64 P) := fun xx ww => congrFun (congrFun (congrFun hErg 11) xx) ww
      have erg12 : ∀ xx ww, Erg 12 xx ww = (xx = .slice (some ⟨b, off, none⟩) A.length cb) := fun xx ww => congrFun (congrFun (congrFun hErg 12) xx) ww
      have erg13 : ∀ xx ww, Erg 13 xx ww = (xx = .int .i64 k) := fun xx ww => congrFun (congrFun (congrFun hErg 13) xx) ww
      have erg14 : ∀ xx ww, Erg 14 xx ww = (xx = .pointer (some ⟨b, off + k * 3, none⟩)) := fun xx ww => congrFun (congrFun (congrFun hErg 14) xx) ww
      have erg15 : ∀ xx ww, Erg 15 xx ww = (xx = .pointer (some ⟨b, off + k * 3 + 2, none⟩)) := fun xx ww => congrFun (congrFun (congrFun hErg 15) xx) ww
      have erg16 : ∀ xx ww, Erg 16 xx ww = (xx = .int .i64 Q) := fun xx ww => congrFun (congrFun (congrFun hErg 16) xx) ww
      have erg17 : ∀ xx ww, Erg 17 xx ww = ((fun x w' => ∃ v9, x = .tuple #[v9, .bool q2] ∧ HeldE cellE (fun b => b ≠ g ∧ b ≠ gc) w' v9 L2) xx ww) := fun xx ww => congrFun (congrFun (congrFun hErg 17) xx) ww
      have erg18 : ∀ xx ww, Erg 18 xx ww = ((fun x w' => ∃ v9, x = .tuple #[v9, .bool q2] ∧ HeldE cellE (fun b => b ≠ g ∧ b ≠ gc) w' v9 L2) xx ww) := fun xx ww => congrFun (congrFun (congrFun hErg 18) xx) ww
      have erg19 : ∀ xx ww, Erg 19 xx ww = ((fun x w' => HeldE cellE (fun b => b ≠ g ∧ b ≠ gc) w' x L2) xx ww) := fun xx ww => congrFun (congrFun (congrFun hErg 19) xx) ww
      have erg20 : ∀ xx ww, Erg 20 xx ww = (xx = .bool q2) := fun xx ww => congrFun (congrFun (congrFun hErg 20) xx) ww
      have erg21 : ∀ xx ww, Erg 21 xx ww = ((fun x w' => HeldE cellE (fun b => b ≠ g ∧ b ≠ gc) w' x L2) xx ww) := fun xx ww => congrFun (congrFun (congrFun hErg 21) xx) ww
      have erg22 : ∀ xx ww, Erg 22 xx ww = (xx = .bool q2) := fun xx ww => congrFun (congrFun (congrFun hErg 22) xx) ww
      obtain ⟨Crg, hCrg⟩ : ∃ CC : Array Bool → World → Prop, CC = fun L8 w' => Below w5.heap.size w5 w' := ⟨_, rfl⟩
      have krg : ∀ i L w,  Crg L w → Crg (L.setIfInBounds i true) w := by
        intro i L w  h
        rw [hCrg] at h ⊢
        exact h
      obtain ⟨Xrg, hXrg⟩ : ∃ XX : World → World → Prop, XX = fun x y => Below x.heap.size x y := ⟨_, rfl⟩
      have xrg : ∀ w, Xrg w w := fun w => by rw [hXrg]; exact Below.refl _ _
      have strg : ∀ j x w w1, Xrg w w1 → Erg j x w → Erg j x w1 := by
        intro j x w w1 hx h
        rw [hXrg] at hx
        match j with
        | 0 => rw [erg0] at h ⊢; exact h
        | 1 => rw [erg1] at h ⊢; exact h
        | 2 => rw [erg2] at h ⊢; exact h
        | 3 => rw [erg3] at h ⊢; exact h
        | 4 => rw [erg4] at h ⊢; exact h
        | 5 => rw [erg5] at h ⊢; exact h
        | 6 => rw [erg6] at h ⊢; exact h
        | 7 => rw [erg7] at h ⊢; exact h
        | 8 => rw [erg8] at h ⊢; exact h
        | 9 => rw [erg9] at h ⊢; exact h
        | 10 => rw [erg10] at h ⊢; exact h
        | 11 => rw [erg11] at h ⊢; exact h
        | 12 => rw [erg12] at h ⊢; exact h
        | 13 => rw [erg13] at h ⊢; exact h
        | 14 => rw [erg14] at h ⊢; exact h
        | 15 => rw [erg15] at h ⊢; exact h
        | 16 => rw [erg16] at h ⊢; exact h
        | 17 => rw [erg17] at h ⊢; (first | exact HeldE.below h hx | (obtain ⟨v9, e9, h9⟩ := h; exact ⟨v9, e9, HeldE.below h9 hx⟩))
        | 18 => rw [erg18] at h ⊢; (first | exact HeldE.below h hx | (obtain ⟨v9, e9, h9⟩ := h; exact ⟨v9, e9, HeldE.below h9 hx⟩))
        | 19 => rw [erg19] at h ⊢; (first | exact HeldE.below h hx | (obtain ⟨v9, e9, h9⟩ := h; exact ⟨v9, e9, HeldE.below h9 hx⟩))
        | 20 => rw [erg20] at h ⊢; exact h
        | 21 => rw [erg21] at h ⊢; (first | exact HeldE.below h hx | (obtain ⟨v9, e9, h9⟩ := h; exact ⟨v9, e9, HeldE.below h9 hx⟩))
        | 22 => rw [erg22] at h ⊢; exact h
        | j + 23 => rw [hErg]; trivial
      have crg : Crg (Array.replicate 23 false) w5.drew := by rw [hCrg]; exact (Below.refl _ _).drew
      have brg : ∀ L w w1, Crg L w → Below w.heap.size w w1 → Crg L w1 := by
        intro L w w1 h hb
        rw [hCrg] at h ⊢
        exact h.trans (hb.mono h.size)
      have xbrg : ∀ w w1, Below w.heap.size w w1 → Xrg w w1 := by
        intro w w1 hb
        rw [hXrg]
        exact hb
      have Hrgb := Lib.hid brg
      have Hrgxb := Lib.hid xbrg
      clear brg xbrg
      clear hErg
      have Hrgk := Lib.hid krg
      have Hrgx := Lib.hid xrg
      have Hrgst := Lib.hid strg
      have Hrgc := Lib.hid crg
      have HrghC := Lib.hid hCrg
      have HrghX := Lib.hid hXrg
      have Hrge0 := Lib.hid erg0
      have Hrge1 := Lib.hid erg1
      have Hrge2 := Lib.hid erg2
      have Hrge3 := Lib.hid erg3
      have Hrge4 := Lib.hid erg4
      have Hrge5 := Lib.hid erg5
      have Hrge6 := Lib.hid erg6
      have Hrge7 := Lib.hid erg7
      have Hrge8 := Lib.hid erg8
      have Hrge9 := Lib.hid erg9
      have Hrge10 := Lib.hid erg10
      have Hrge11 := Lib.hid erg11
      have Hrge12 := Lib.hid erg12
      have Hrge13 := Lib.hid erg13
      have Hrge14 := Lib.hid erg14
      have Hrge15 := Lib.hid erg15
      have Hrge16 := Lib.hid erg16
      have Hrge17 := Lib.hid erg17
      have Hrge18 := Lib.hid erg18
      have Hrge19 := Lib.hid erg19
      have Hrge20 := Lib.hid erg20
      have Hrge21 := Lib.hid erg21
      have Hrge22 := Lib.hid erg22
      clear krg xrg strg crg hCrg hXrg erg0 erg1 erg2 erg3 erg4 erg5 erg6 erg7 erg8 erg9 erg10 erg11 erg12 erg13 erg14 erg15 erg16 erg17 erg18 erg19 erg20 erg21 erg22
      go_wp2_with fail
      refine Reg.regionF Erg Crg Xrg Hrgst.out (by kernel_rfl) (by kernel_rfl) (by kernel_rfl) Hrgc.out (fun Frg hFrg => ?_)
      simp only [Reg.frame, Reg.dsts, List.map_cons, List.map_nil, Mix.put_lit, Reg.put_none, List.set_cons_succ, List.set_cons_zero, Array.getD, Nat.zero_add, Nat.reduceAdd] at hFrg
      refine ⟨?_, ?_⟩
      · refine ⟨?_, ?_, ?_, ?_, ?_, ?_, ?_, ?_, ?_, ?_, ?_, ?_, ?_, ?_, ?_, ?_, ?_, ?_, ?_, ?_, ?_, ?_, ?_, trivial⟩
        · intro Lq wq xq hh
          have d21 := hh.old 21 (by kernel_rfl)
          simp only [hFrg, d21]
          clear d21
          refine .inl ⟨rfl, ?_⟩
          unfold Reg.upon
          have hk := Hrgk.out 0 Lq wq  hh.cls
          have hx := Hrgx.out wq
          have he : Erg 0 (u0) wq := by rw [Hrge0.out]
          have HK := Lib.hid (And.intro hk (And.intro he hx))
          clear hk hx he
          go_simp
          exact HK.out
        · intro Lq wq xq hh
          have d22 := hh.old 22 (by kernel_rfl)
          simp only [hFrg, d22]
          clear d22
          refine .inl ⟨rfl, ?_⟩
          unfold Reg.upon
          have hk := Hrgk.out 1 Lq wq  hh.cls
          have hx := Hrgx.out wq
          have he : Erg 1 (.bool wk) wq := by rw [Hrge1.out]
          have HK := Lib.hid (And.intro hk (And.intro he hx))
          clear hk hx he
          go_simp
          exact HK.out
        · intro Lq wq xq hh
          simp only [hFrg]
          refine .inl ⟨rfl, ?_⟩
          unfold Reg.upon
          have hk := Hrgk.out 2 Lq wq  hh.cls
          have hx := Hrgx.out wq
          have he : Erg 2 (.slice (some ⟨b, off, none⟩) A.length cb) wq := by rw [Hrge2.out]
          have HK := Lib.hid (And.intro hk (And.intro he hx))
          clear hk hx he
          go_simp
          exact HK.out
        · intro Lq wq xq hh
          simp only [hFrg]
          refine .inl ⟨rfl, ?_⟩
          unfold Reg.upon
          have hk := Hrgk.out 3 Lq wq  hh.cls
          have hx := Hrgx.out wq
          have he : Erg 3 (.int .i64 k) wq := by rw [Hrge3.out]
          have HK := Lib.hid (And.intro hk (And.intro he hx))
          clear hk hx he
          go_simp
          exact HK.out
        · intro Lq wq xq hh
          have d2 : Erg 2 (xq 2) wq := hh.val 2 (by kernel_rfl) (by kernel_rfl)
          rw [Hrge2.out] at d2
          have d3 : Erg 3 (xq 3) wq := hh.val 3 (by kernel_rfl) (by kernel_rfl)
          rw [Hrge3.out] at d3
          simp only [hFrg, d2, d3]
          clear d2 d3
          refine .inl ⟨rfl, ?_⟩
          unfold Reg.upon
          have hk := Hrgk.out 4 Lq wq  hh.cls
          have hx := Hrgx.out wq
          have he : Erg 4 (.pointer (some ⟨b, off + k * 3, none⟩)) wq := by rw [Hrge4.out]
          have HK := Lib.hid (And.intro hk (And.intro he hx))
          clear hk hx he
          go_simp
          exact HK.out
        · intro Lq wq xq hh
          have d4 : Erg 4 (xq 4) wq := hh.val 4 (by kernel_rfl) (by kernel_rfl)
          rw [Hrge4.out] at d4
          simp only [hFrg, d4]
          clear d4
          refine .inl ⟨rfl, ?_⟩
          unfold Reg.upon
          have hk := Hrgk.out 5 Lq wq  hh.cls
          have hx := Hrgx.out wq
          have he : Erg 5 (.pointer (some ⟨b, off + k * 3, none⟩)) wq := by rw [Hrge5.out]
          have HK := Lib.hid (And.intro hk (And.intro he hx))
          clear hk hx he
          go_simp
          exact HK.out
        · intro Lq wq xq hh
          have d5 : Erg 5 (xq 5) wq := hh.val 5 (by kernel_rfl) (by kernel_rfl)
          rw [Hrge5.out] at d5
          simp only [hFrg, d5]
          clear d5
          refine .inl ⟨rfl, ?_⟩
          unfold Reg.upon
          have hc : Crg Lq wq := hh.cls
          rw [HrghC.out] at hc
          have hc6 := (HF.out wq (B5.out.trans (hc.mono B5.out.size))).1
          clear hc
          have hk := Hrgk.out 6 Lq wq  hh.cls
          have hx := Hrgx.out wq
          have he : Erg 6 (.int .i64 K) wq := by rw [Hrge6.out]
          have HK := Lib.hid (And.intro hk (And.intro he hx))
          clear hk hx he
          go_simp
          exact HK.out
        · intro Lq wq xq hh
          simp only [hFrg]
          refine .inl ⟨rfl, ?_⟩
          unfold Reg.upon
          have hk := Hrgk.out 7 Lq wq  hh.cls
          have hx := Hrgx.out wq
          have he : Erg 7 (.slice (some ⟨b, off, none⟩) A.length cb) wq := by rw [Hrge7.out]
          have HK := Lib.hid (And.intro hk (And.intro he hx))
          clear hk hx he
          go_simp
          exact HK.out
        · intro Lq wq xq hh
          simp only [hFrg]
          refine .inl ⟨rfl, ?_⟩
          unfold Reg.upon
          have hk := Hrgk.out 8 Lq wq  hh.cls
          have hx := Hrgx.out wq
          have he : Erg 8 (.int .i64 k) wq := by rw [Hrge8.out]
          have HK := Lib.hid (And.intro hk (And.intro he hx))
          clear hk hx he
          go_simp
          exact HK.out
        · intro Lq wq xq hh
          have d7 : Erg 7 (xq 7) wq := hh.val 7 (by kernel_rfl) (by kernel_rfl)
          rw [Hrge7.out] at d7
          have d8 : Erg 8 (xq 8) wq := hh.val 8 (by kernel_rfl) (by kernel_rfl)
          rw [Hrge8.out] at d8
          simp only [hFrg, d7, d8]
          clear d7 d8
          refine .inl ⟨rfl, ?_⟩
          unfold Reg.upon
          have hk := Hrgk.out 9 Lq wq  hh.cls
          have hx := Hrgx.out wq
          have he : Erg 9 (.pointer (some ⟨b, off + k * 3, none⟩)) wq := by rw [Hrge9.out]
          have HK := Lib.hid (And.intro hk (And.intro he hx))
          clear hk hx he
          go_simp
          exact HK.out
        · intro Lq wq xq hh
          have d9 : Erg 9 (xq 9) wq := hh.val 9 (by kernel_rfl) (by kernel_rfl)
          rw [Hrge9.out] at d9
          simp only [hFrg, d9]
          clear d9
          refine .inl ⟨rfl, ?_⟩
          unfold Reg.upon
          have hk := Hrgk.out 10 Lq wq  hh.cls
          have hx := Hrgx.out wq
          have he : Erg 10 (.pointer (some ⟨b, off + k * 3 + 1, none⟩)) wq := by rw [Hrge10.out]
          have HK := Lib.hid (And.intro hk (And.intro he hx))
          clear hk hx he
          go_simp
          exact HK.out
        · intro Lq wq xq hh
          have d10 : Erg 10 (xq 10) wq := hh.val 10 (by kernel_rfl) (by kernel_rfl)
          rw [Hrge10.out] at d10
          simp only [hFrg, d10]
          clear d10
          refine .inl ⟨rfl, ?_⟩
          unfold Reg.upon
          have hc : Crg Lq wq := hh.cls
          rw [HrghC.out] at hc
          have hc11 := (HF.out wq (B5.out.trans (hc.mono B5.out.size))).2.1
          clear hc
          have hk := Hrgk.out 11 Lq wq  hh.cls
          have hx := Hrgx.out wq
          have he : Erg 11 (.int .i64 P) wq := by rw [Hrge11.out]
          have HK := Lib.hid (And.intro hk (And.intro he hx))
          clear hk hx he
          go_simp
          exact HK.out
        · intro Lq wq xq hh
          simp only [hFrg]
          refine .inl ⟨rfl, ?_⟩
          unfold Reg.upon
          have hk := Hrgk.out 12 Lq wq  hh.cls
          have hx := Hrgx.out wq
          have he : Erg 12 (.slice (some ⟨b, off, none⟩) A.length cb) wq := by rw [Hrge12.out]
          have HK := Lib.hid (And.intro hk (And.intro he hx))
          clear hk hx he
          go_simp
          exact HK.out
        · intro Lq wq xq hh
          simp only [hFrg]
          refine .inl ⟨rfl, ?_⟩
          unfold Reg.upon
          have hk := Hrgk.out 13 Lq wq  hh.cls
          have hx := Hrgx.out wq
          have he : Erg 13 (.int .i64 k) wq := by rw [Hrge13.out]
          have HK := Lib.hid (And.intro hk (And.intro he hx))
          clear hk hx he
          go_simp
          exact HK.out
        · intro Lq wq xq hh
          have d12 : Erg 12 (xq 12) wq := hh.val 12 (by kernel_rfl) (by kernel_rfl)
          rw [Hrge12.out] at d12
          have d13 : Erg 13 (xq 13) wq := hh.val 13 (by kernel_rfl) (by kernel_rfl)
          rw [Hrge13.out] at d13
          simp only [hFrg, d12, d13]
          clear d12 d13
          refine .inl ⟨rfl, ?_⟩
          unfold Reg.upon
          have hk := Hrgk.out 14 Lq wq  hh.cls
          have hx := Hrgx.out wq
          have he : Erg 14 (.pointer (some ⟨b, off + k * 3, none⟩)) wq := by rw [Hrge14.out]
          have HK := Lib.hid (And.intro hk (And.intro he hx))
          clear hk hx he
          go_simp
          exact HK.out
        · intro Lq wq xq hh
          have d14 : Erg 14 (xq 14) wq := hh.val 14 (by kernel_rfl) (by kernel_rfl)
          rw [Hrge14.out] at d14
          simp only [hFrg, d14]
          clear d14
          refine .inl ⟨rfl, ?_⟩
          unfold Reg.upon
          have hk := Hrgk.out 15 Lq wq  hh.cls
          have hx := Hrgx.out wq
          have he : Erg 15 (.pointer (some ⟨b, off + k * 3 + 2, none⟩)) wq := by rw [Hrge15.out]
          have HK := Lib.hid (And.intro hk (And.intro he hx))
          clear hk hx he
          go_simp
          exact HK.out
        · intro Lq wq xq hh
          have d15 : Erg 15 (xq 15) wq := hh.val 15 (by kernel_rfl) (by kernel_rfl)
          rw [Hrge15.out] at d15
          simp only [hFrg, d15]
          clear d15
          refine .inl ⟨rfl, ?_⟩
          unfold Reg.upon
          have hc : Crg Lq wq := hh.cls
          rw [HrghC.out] at hc
          have hc16 := (HF.out wq (B5.out.trans (hc.mono B5.out.size))).2.2
          clear hc
          have hk := Hrgk.out 16 Lq wq  hh.cls
          have hx := Hrgx.out wq
          have he : Erg 16 (.int .i64 Q) wq := by rw [Hrge16.out]
          have HK := Lib.hid (And.intro hk (And.intro he hx))
          clear hk hx he
          go_simp
          exact HK.out
        · intro Lq wq xq hh
          have d0 : Erg 0 (xq 0) wq := hh.val 0 (by kernel_rfl) (by kernel_rfl)
          rw [Hrge0.out] at d0
          have d1 : Erg 1 (xq 1) wq := hh.val 1 (by kernel_rfl) (by kernel_rfl)
          rw [Hrge1.out] at d1
          have d6 : Erg 6 (xq 6) wq := hh.val 6 (by kernel_rfl) (by kernel_rfl)
          rw [Hrge6.out] at d6
          have d11 : Erg 11 (xq 11) wq := hh.val 11 (by kernel_rfl) (by kernel_rfl)
          rw [Hrge11.out] at d11
          have d16 : Erg 16 (xq 16) wq := hh.val 16 (by kernel_rfl) (by kernel_rfl)
          rw [Hrge16.out] at d16
          simp only [hFrg, d0, d1, d6, d11, d16]
          clear d0 d1 d6 d11 d16
          refine .inl ⟨rfl, ?_⟩
          unfold Reg.upon
          have hc : Crg Lq wq := hh.cls
          rw [HrghC.out] at hc
          go_simp
          refine (HACT.out (fun b => b ≠ g ∧ b ≠ gc) _ wq (fun b hb => by have := HLT.out; have := HS5.out; have := hc.size; exact ⟨by omega, by omega⟩) (HC5.out.below hc) (by omega)).mono ?_
          rintro e w2 ⟨v2, rfl, ho, hb⟩
          refine ⟨_, rfl, Hrgk.out 17 Lq w2 (Hrgb.out Lq wq w2 hh.cls hb), ?_, Hrgxb.out wq w2 hb⟩
          rw [Hrge17.out]
          exact ⟨_, rfl, ho⟩
        · intro Lq wq xq hh
          have d17 : Erg 17 (xq 17) wq := hh.val 17 (by kernel_rfl) (by kernel_rfl)
          rw [Hrge17.out] at d17
          simp only [hFrg]
          refine .inl ⟨rfl, ?_⟩
          unfold Reg.upon
          go_simp
          exact ⟨Hrgk.out 18 Lq wq hh.cls, (by rw [Hrge18.out]; exact d17), Hrgx.out _⟩
        · intro Lq wq xq hh
          have d18 : Erg 18 (xq 18) wq := hh.val 18 (by kernel_rfl) (by kernel_rfl)
          rw [Hrge18.out] at d18
          simp only [hFrg]
          refine .inl ⟨rfl, ?_⟩
          unfold Reg.upon
          obtain ⟨v9, e9, h9⟩ := d18
          rw [e9]
          go_simp
          exact ⟨Hrgk.out 19 Lq wq hh.cls, (by rw [Hrge19.out]; exact h9), Hrgx.out _⟩
        · intro Lq wq xq hh
          have d18 : Erg 18 (xq 18) wq := hh.val 18 (by kernel_rfl) (by kernel_rfl)
          rw [Hrge18.out] at d18
          simp only [hFrg]
          refine .inl ⟨rfl, ?_⟩
          unfold Reg.upon
          obtain ⟨v9, e9, h9⟩ := d18
          rw [e9]
          go_simp
          exact ⟨Hrgk.out 20 Lq wq hh.cls, (by rw [Hrge20.out]), Hrgx.out _⟩
        · intro Lq wq xq hh
          have d19 : Erg 19 (xq 19) wq := hh.val 19 (by kernel_rfl) (by kernel_rfl)
          rw [Hrge19.out] at d19
          simp only [hFrg]
          refine .inl ⟨rfl, ?_⟩
          unfold Reg.upon
          go_simp
          exact ⟨Hrgk.out 21 Lq wq hh.cls, (by rw [Hrge21.out]; exact d19), Hrgx.out _⟩
        · intro Lq wq xq hh
          have d20 : Erg 20 (xq 20) wq := hh.val 20 (by kernel_rfl) (by kernel_rfl)
          rw [Hrge20.out] at d20
          simp only [hFrg, d20]
          clear d20
          refine .inl ⟨rfl, ?_⟩
          unfold Reg.upon
          have hk := Hrgk.out 22 Lq wq  hh.cls
          have hx := Hrgx.out wq
          have he : Erg 22 (.bool q2) wq := by rw [Hrge22.out]
          have HK := Lib.hid (And.intro hk (And.intro he hx))
          clear hk hx he
          go_simp
          exact HK.out
      intro xq wrg hcrg hvrg
      rw [HrghC.out] at hcrg
      simp only [hFrg]
      have vrg21 : Erg 21 (xq 21) wrg := hvrg 21 (by decide)
      rw [Hrge21.out] at vrg21
      have vrg22 : Erg 22 (xq 22) wrg := hvrg 22 (by decide)
      rw [Hrge22.out] at vrg22
      rw [vrg22]
      clear hvrg hFrg Hrgk Hrgx Hrgst Hrgc HrghC HrghX Hrgb Hrgxb Hrge0 Hrge1 Hrge2 Hrge3 Hrge4 Hrge5 Hrge6 Hrge7 Hrge8 Hrge9 Hrge10 Hrge11 Hrge12 Hrge13 Hrge14 Hrge15 Hrge16 Hrge17 Hrge18 Hrge19 Hrge20 Hrge21 Hrge22
      obtain ⟨v6, hv6⟩ : ∃ v6, v6 = xq 21 := ⟨_, rfl⟩
      rw [← hv6] at vrg21 ⊢
      obtain ⟨w6, hw6⟩ : ∃ w6, w6 = wrg := ⟨_, rfl⟩
      rw [← hw6] at vrg21 hcrg ⊢
      have C6 := Lib.hid vrg21
      have R6 := Lib.hid (HR5.out.below hcrg)
      have B6 := Lib.hid (B5.out.trans (hcrg.mono B5.out.size))
      have S6 := Lib.hid (Nat.le_trans HS5.out hcrg.size)
      clear hv6 vrg22 vrg21 hcrg hw6
      go_wp2_with fail
      refine (rcells_any _ _ g gc _ _ _ R6.out).mono ?_
      rintro e w7 ⟨v7, rfl, ho7, b7⟩
      have R7 := Lib.hid (R6.out.below b7)
      have C7 := Lib.hid (C6.out.below b7)
      have B7 := Lib.hid (B6.out.trans (b7.mono B6.out.size))
      have S7 := Lib.hid (Nat.le_trans S6.out b7.size)
      have HH7 := Lib.hid (ho7.held (fun b hb _ => hb))
      clear ho7 b7
      go_wp2_with fail
      refine (rcsame_any _ _ _ _ _ _ _ HH7.out C7.out).mono ?_
      rintro e w8 ⟨rfl, b8⟩
      rw [sameC_self]
      have R8 := Lib.hid (R7.out.below b8)
      have C8 := Lib.hid (C7.out.below b8)
      have B8 := Lib.hid (B7.out.trans (b8.mono B7.out.size))
      have S8 := Lib.hid (Nat.le_trans S7.out b8.size)
      clear b8
      go_wp2_with fail
      refine (rwrap_any _ _ g gc _ _ _ R8.out).mono ?_
      rintro e w9 ⟨rfl, rfl⟩
      have hqq : (q2 != q2) = false := by simp
      obtain ⟨c0, c1, c2⟩ := HF.out w8 B8.out
      go_wp2_with fail
      refine (edo_nil K P Q w8).mono ?_
      rintro e w9 ⟨rfl, b9⟩
      have R9 := Lib.hid (R8.out.below b9)
      have C9 := Lib.hid (C8.out.below b9)
      have B9 := Lib.hid (B8.out.trans (b9.mono B8.out.size))
      have S9 := Lib.hid (Nat.le_trans S8.out b9.size)
      clear b9 c0 c1 c2 hqq
      go_wp2
      go_roundw
      case rel => exact ⟨k + 1, L2, q2, by omega, by go_num, rfl, R9.out, C9.out, B9.out, S9⟩
      case measure => simp [intOf] <;> omega
    · go_wp2
      go_ret
      exact ⟨(ret_eq (by first | rfl | (simp <;> omega))), HBW.out⟩
theorem acts_opens : Opens Tryd.prog actE (fun x => (Lit.int .i64 x.1).wf = true ∧ (Lit.int .i64 x.2.1).wf = true ∧ (Lit.int .i64 x.2.2).wf = true) 60 :=
  opens_triple Tryd.underlying60 (by kernel_rfl) rfl rfl rfl (opens_int Tryd.underlying3 (by kernel_rfl)) (opens_int Tryd.underlying3 (by kernel_rfl)) (opens_int Tryd.underlying3 (by kernel_rfl))
set_option maxRecDepth 100000 in
theorem walk {H : Type} {enc : TypeId × Value → H} (W : World) (u : Value) {base : Nat} {d : DataW H} {p : List MemPlace} (hv : Value.okWide Tryd.prog W .any base 22 u) (h : DataW.Trod enc Tryd.prog W 0 (fun _ => true) true 22 u d p) (on : Bool) (u' : Value) {base' : Nat} {d' : DataW H} {p' : List MemPlace} (hv' : Value.okWide Tryd.prog W .any base' 57 u') (h' : DataW.Trod enc Tryd.prog W 0 (fun _ => true) true 57 u' d' p') (_ : laidMetH Tryd.prog Rows.erasePlaysRow.laid W) : Calls Tryd.prog 6 #[u, .bool on, u'] W (Yes W) := by
  obtain ⟨L, hL, _⟩ := cells_arg hv h
  obtain ⟨A, hA, _⟩ := opens_arg Tryd.underlying57 (by kernel_rfl) (by decide) acts_opens hv' h'
  exact walkH W u L _ hL on u' A _ hA

theorem door_met (os : Os) : laidMetH Tryd.prog Rows.erasePlaysRow.laid ((World.doorLaid Tryd.prog 400 os).forCall (fun _ _ => 0) ⟨#[], #[.slice none 0 0, .bool false, .slice none 0 0], []⟩).memory :=
  laidMetH_of_parts3 (fuel := 8) (laidMet_of_run' 8 (by kernel_rfl) (by kernel_rfl)) (by kernel_rfl) (by kernel_rfl)

set_option maxRecDepth 100000 in
theorem lifted (os : Os) (started : os.Started) (H : Type) (enc : TypeId × Value → H) :
    ReturnsInHanded {} Tryd.checked os 6 .any (fun w args => (Rows.erasePlaysSpec.pre enc Tryd.prog Tryd.f6 [] false w args ∧ laidMetH Tryd.prog Rows.erasePlaysRow.laid w) ∧ sizedMet enc Tryd.prog Tryd.f6 (OpenSpec.ofChange Rows.erasePlaysSpec) false w args)
      (Rows.erasePlaysSpec.post enc Tryd.prog Tryd.f6 false true false false) := by
  refine law_frame (C := Tryd.checked) (tb := 4) (by kernel_rfl) started (by kernel_rfl) Tryd.func6 (by kernel_rfl) (by kernel_rfl) Tryd.underlying4 rfl
    (by rw [Tryd.params6]; intro t ht; simp at ht; rcases ht with rfl | rfl | rfl <;> exact ⟨by kernel_rfl, of_decide_eq_true (by kernel_rfl)⟩)
    (by rw [Tryd.params6]; intro ds hd; match ds, hd with | [_, _, _], _ => rfl)
    (ChangeSpec.witness_shaped (enc := enc) (C := Tryd.checked) (os := os) (X := fun w _ => laidMetH Tryd.prog Rows.erasePlaysRow.laid w) false (World.doorLaid Tryd.prog 400 os) #[.slice none 0 0, .bool false, .slice none 0 0] 8 rfl (World.shaped_of_RefB (by kernel_rfl) (by kernel_rfl)) (by kernel_rfl) (by kernel_rfl) (by kernel_rfl) (door_met os)) ?_
  intro W base args ds before hval hA hsz hL
  rw [Tryd.params6] at hA hval
  obtain ⟨v0, vs0, d0, ds0, p0, q0, hargs, rfl, rfl, h0, r0⟩ := trodAll_cons hA
  obtain ⟨v1, vs1, d1, ds1, p1, q1, rfl, rfl, rfl, h1, r1⟩ := trodAll_cons r0
  obtain ⟨v2, vs2, d2, ds2, p2, q2, rfl, rfl, rfl, h2, r2⟩ := trodAll_cons r1
  obtain ⟨rfl, rfl, rfl⟩ := trodAll_nil r2
  obtain rfl : args = #[v0, v1, v2] := by cases args; simp_all
  obtain ⟨x1, rfl, rfl, rfl⟩ := open_bool Tryd.underlying4 (hval 1 4 v1 rfl rfl) h1
  exact walk W v0 (hval 0 22 v0 rfl rfl) h0 x1 v2 (hval 2 57 v2 rfl rfl) h2 hL

theorem said : Rows.ErasePlaysSaid :=
  OpenClaim.holds_of_wide 6 Tryd.f6 rfl rfl rfl rfl rfl rfl rfl ⟨rfl, rfl, rfl, rfl, rfl⟩ rfl rfl rfl rfl rfl (by kernel_rfl) Tryd.func6 (by kernel_rfl)
    (of_decide_eq_true (by kernel_rfl)) (by unfold Func.isWrapper; first | (rw [if_pos (by decide +kernel)]; kernel_rfl) | (rw [if_neg (by decide +kernel)]; exact ⟨rfl, rfl⟩))
    (fun os started H enc _ => lifted os started H enc)

theorem plain (f : FuncId) (fn : Func) (hf : Tryd.pinned.checked.prog.funcNamed "linotype/linotypelaw26.ErasePlays" = some f) (hfn : Tryd.pinned.checked.prog.funcs[f]? = some fn) :
    true = Tryd.pinned.checked.prog.looks [] ∧ ∀ (j : Nat) t, fn.params[j]? = some t → Tryd.pinned.checked.prog.wantsStandIn t = false := by
  obtain rfl : f = 6 := Option.some.inj ((show Tryd.prog.funcNamed "linotype/linotypelaw26.ErasePlays" = some 6 by kernel_rfl).symm.trans hf) |>.symm
  obtain rfl : fn = Tryd.f6 := (Option.some.inj (Tryd.func6.symm.trans hfn)).symm
  refine ⟨by kernel_rfl, fun j t ht => ?_⟩
  rw [Tryd.params6] at ht
  have hm : t ∈ [22, 4, 57] := by simpa using Array.mem_of_getElem? ht
  have hall : ([22, 4, 57].all fun u => !Tryd.prog.wantsStandIn u) = true := by kernel_rfl
  exact (show Tryd.prog.wantsStandIn t = false by simpa using List.all_eq_true.1 hall t hm)

/-- THE CARD. -/
theorem card : Rows.ErasePlaysCardSaid :=
  Claim7.holds_tied_plain_at .later [] _ _ _ _ said (fun _ h => by cases h) (by kernel_rfl) (fun _ h => by cases h) erasePlays_row_tie rfl ⟨rfl, rfl⟩ (by kernel_rfl) rfl plain (by kernel_rfl)
#print axioms card

end Go.Proofs.YtomfclkldmmmgaaDoor.lawErasePlays
