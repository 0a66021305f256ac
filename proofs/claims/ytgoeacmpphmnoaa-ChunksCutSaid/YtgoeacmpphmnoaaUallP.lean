/- The reference's All of layer 4. -/
import Derived.Test.YtgoeacmpphmnoaaDecF
import Derived.Test.YtgoeacmpphmnoaaDecP
import Derived.Test.YtgoeacmpphmnoaaUallG
import Derived.Lib.MinMax
import Derived.Deep.Cut
namespace Go.Proofs.Ytgoeacmpphmnoaa
open Go.RowKit Go.ChangeShapes Go.WideShapes
theorem own_past {w w' : World} {g B e size n : Nat} {v : Value} {xs : List Value} (h : w.ownsRow B e size v n xs) (hb : But g w.heap.size w w') (hn : v.ownBlock ≠ some g) : w'.ownsRow B e size v n xs := by
  refine ⟨h.1, ?_⟩
  rcases h.2 with hv | ⟨g', cap, cur, rfl, hg, hh, hrest⟩
  · exact .inl hv
  · exact .inr ⟨g', cap, cur, rfl, hg, (hb.block g' (Array.getElem?_eq_some_iff.1 hh).1 (fun e => hn (by subst e; rfl))).trans hh, hrest⟩
theorem info_rgot : (Try.prog.info? 33).map (fun i => (i.zero, i.size, i.bytes)) = some (some (.agg #[.int .i32 0, .int .i64 0, .int .i64 0, .int .i64 0, .bool false]), 5, 40) := by kernel_rfl
def RAllOk (w : World) (xs : List Int) (e : Ending) (w' : World) : Prop := ∃ k v', e = .returned v' ∧ posN xs k = xs.length ∧ w'.ownsRow w.heap.size 33 5 v' k (gotsCells (partsN xs k)) ∧ Below w.heap.size w w'
theorem nK_len (xs : List Int) (q : Nat) (h : leadI (xs.getD q 0) ≠ 0) : nK (xs.drop q) = lenG xs q := by
  unfold nK lenG
  rw [show (xs.drop q).getD 0 0 = xs.getD q 0 by rw [drop_getD]; rfl, if_neg h, if_neg h]
theorem nK_zero (xs : List Int) (q : Nat) (h : leadI (xs.getD q 0) = 0) : nK (xs.drop q) = 0 := by
  unfold nK
  rw [show (xs.drop q).getD 0 0 = xs.getD q 0 by rw [drop_getD]; rfl, if_pos h]
/-- A part, as the reference finds it. -/
theorem ref_part (xs : List Int) (q : Nat) (hql : q < xs.length) (hr : ∀ i, i < xs.length → 0 ≤ xs.getD i 0 ∧ xs.getD i 0 ≤ 255) :
    (∀ j, j < nK (xs.drop q) → q + j < xs.length ∧ begB ((xs.drop q).take (j + 1)) = leadI (xs.getD q 0) ∧ 0 < leadI (xs.getD q 0) ∧ (leadI (xs.getD q 0) = (j : Int) + 1 → nK (xs.drop q) = j + 1)) ∧
    (q + nK (xs.drop q) < xs.length → (nK (xs.drop q) = 0 ∨ leadI (xs.getD q 0) ≠ nK (xs.drop q)) → begB ((xs.drop q).take (nK (xs.drop q) + 1)) = 0) ∧
    (nK (xs.drop q) = 0 → partG xs q = (65533, (q : Int), 1, (q : Int) + 1, true) ∧ lenG xs q = 1) ∧
    (1 ≤ nK (xs.drop q) → lenG xs q = nK (xs.drop q) ∧ (nK (xs.drop q) : Int) ≤ leadI (xs.getD q 0) ∧
      (leadI (xs.getD q 0) = nK (xs.drop q) → partG xs q = (valF (xs.drop q) (nK (xs.drop q) - 1), (q : Int), (nK (xs.drop q) : Int), (q : Int) + nK (xs.drop q), false) ∧
        feedTo (0, 0, 0) ((xs.drop q).take (nK (xs.drop q))) = [valF (xs.drop q) (nK (xs.drop q) - 1)] ∧ (feedSt (0, 0, 0) ((xs.drop q).take (nK (xs.drop q)))).2.2 = 0) ∧
      (leadI (xs.getD q 0) ≠ nK (xs.drop q) → partG xs q = (65533, (q : Int), (nK (xs.drop q) : Int), min ((q : Int) + nK (xs.drop q) + 1) xs.length, true) ∧
        (feedSt (0, 0, 0) ((xs.drop q).take (nK (xs.drop q)))).2.2 = nK (xs.drop q))) := by
  have hy : 0 < (xs.drop q).length := by simp; omega
  have hy0 : (xs.drop q).getD 0 0 = xs.getD q 0 := by rw [drop_getD]; rfl
  have hrd := drop_in hr q
  have hle := lenG_le xs q hql
  refine ⟨fun j hj => ?_, fun h1 h2 => ?_, fun h0 => ?_, fun h1 => ?_⟩
  · have := nK_on (xs.drop q) hrd hy j hj
    rw [hy0] at this
    refine ⟨?_, this.2⟩
    have h3 := this.1
    simp at h3
    omega
  · exact nK_off (xs.drop q) hrd hy (by simp; omega) (by rw [hy0]; exact h2)
  · by_cases h : leadI (xs.getD q 0) = 0
    · exact part_lone h
    · rw [nK_len xs q h] at h0
      have := lenG_pos xs q
      omega
  · have h : leadI (xs.getD q 0) ≠ 0 := fun h => by rw [nK_zero xs q h] at h1; omega
    have hn := nK_len xs q h
    rw [hn] at h1 ⊢
    have hln : lenG xs q = begN (xs.drop q) (leadI (xs.getD q 0)) := by unfold lenG; rw [if_neg h]
    have hbl := begN_le (xs.drop q) (leadI (xs.getD q 0)) hy
    have hlc := lead_cases (xs.getD q 0)
    have hff := form_feed (xs.drop q) (by rw [hy0]; exact h) hy (lenG xs q) h1 (by rw [hy0, ← hln]; exact Nat.le_refl _)
    rw [hy0] at hff
    rw [← hln] at hbl
    refine ⟨rfl, by omega, fun he => ?_, fun he => ?_⟩
    · rw [if_neg (by omega), if_neg (by omega)] at hff
      exact ⟨part_whole h he.symm, hff.1, by rw [hff.2]⟩
    · rw [if_pos (by omega), if_pos (by omega)] at hff
      exact ⟨part_open ⟨h, fun e => he e.symm⟩, by rw [hff.2]⟩
set_option maxRecDepth 100000 in
set_option maxHeartbeats 1000000 in
theorem rall_any (v : Value) (xs : List Int) (w : World) (hv : Held .u8 w v xs) (hcp : CapOk v) (hm : xs.length ≤ 1000000) (hr : ∀ i, i < xs.length → 0 ≤ xs.getD i 0 ∧ xs.getD i 0 ≤ 255) :
    Calls Try.prog 16 #[v] w (RAllOk w xs) := by
  obtain ⟨ao, cap, rfl, hc⟩ := hv.view
  have hcap : xs.length ≤ cap := hcp _ _ _ rfl
  have HV := Lib.hid hv
  have HR := Lib.hid hr
  have HCC := Lib.hid hc
  clear hv hcp hr hc
  go_enter Try.func16, Try.ntmps16
  go_wp2
  go_loopw [3, 4] (fun l p wr => ∃ k q : Nat, posN xs k = q ∧ k ≤ q ∧ q ≤ xs.length ∧ p = .int .i64 q ∧ wr.ownsRow w.heap.size 33 5 l k (gotsCells (partsN xs k)) ∧ Below w.heap.size w wr) (fun _ p _ => xs.length - (intOf p).toNat)
  case atStart => exact ⟨0, 0, rfl, Nat.zero_le _, Nat.zero_le _, rfl, World.ownsRow_nil _ _ _ _, Below.refl _ _⟩
  case round =>
    obtain ⟨k, q, hq, hkq, hql, rfl, hown, hbw⟩ := hrel
    obtain ⟨wo, hwo⟩ : ∃ wo, wo = wr := ⟨_, rfl⟩
    subst hwo
    by_cases hlt : q < xs.length
    · obtain ⟨b, off, rfl, hb, hcx⟩ := HCC.out q hlt
      have hsn := gots_snoc xs k
      have hps : posN xs (k + 1) = q + lenG xs q := by show posN xs k + _ = _; rw [hq]
      have hle := lenG_le xs q hlt
      have hpo := lenG_pos xs q
      rw [hq] at hsn
      obtain ⟨r1, r2, r3, r4⟩ := ref_part xs q hlt HR.out
      have HRD := Lib.hid (drop_in HR.out q)
      have hdl : (xs.drop q).length = xs.length - q := by simp
      obtain ⟨G, hG⟩ : ∃ G, G = partG xs q := ⟨_, rfl⟩
      rw [← hG] at hsn r3 r4
      obtain ⟨n, hn⟩ : ∃ n, n = lenG xs q := ⟨_, rfl⟩
      rw [← hn] at hps hle hpo r3 r4
      obtain ⟨lv, hlv⟩ : ∃ lv, lv = leadI (xs.getD q 0) := ⟨_, rfl⟩
      rw [← hlv] at r1 r2 r4
      obtain ⟨ys, hys⟩ : ∃ ys, ys = xs.drop q := ⟨_, rfl⟩
      rw [← hys] at r1 r2 r3 r4 HRD hdl
      have hct := fun (W : World) (hW : Held .u8 W (.slice (some ⟨b, off, none⟩) xs.length cap) xs) (hbW : b < W.heap.size) (j : Nat) (hj : q + j ≤ xs.length) => held_cut hW q j hbW hj (cap - q)
      rw [← hys] at hct
      obtain ⟨N, hN⟩ : ∃ N, N = nK ys := ⟨_, rfl⟩
      rw [← hN] at r1 r2 r3 r4
      have hNl : q + N ≤ xs.length := by
        rcases Nat.eq_zero_or_pos N with h | h
        · omega
        · have := (r1 (N - 1) (by omega)).1; omega
      have HTL := Lib.hid (show ∀ j, q + j ≤ xs.length → (ys.take j).length = j from fun j hj => by rw [List.length_take, hdl]; omega)
      have HRT := Lib.hid (fun j => take_in HRD.out j)
      have HSN := Lib.hid hsn
      have HPS := Lib.hid hps
      have HOW := Lib.hid hown
      have HON := Lib.hid r1
      have HOFF := Lib.hid r2
      have HLONE := Lib.hid r3
      have HBEG := Lib.hid r4
      have HCT := Lib.hid hct
      clear hsn hps hown hq r1 r2 r3 r4 hct hcx hG hn hlv hys hN hdl
      go_wp2
      go_loopw [5] (fun j wi => ∃ i : Nat, i ≤ N ∧ j = .int .i64 i ∧ (i = 0 ∨ lv ≠ (i : Int)) ∧ Below wo.heap.size wo wi) (fun j _ => N - (intOf j).toNat)
      case atStart => exact ⟨0, Nat.zero_le _, rfl, .inl rfl, Below.refl _ _⟩
      case round =>
        obtain ⟨i, hiN, rfl, hi0, hbi⟩ := hrel
        have hbi2 := hbw.trans (hbi.mono hbw.size)
        have hbs := hbi2.size
        have q0 : ¬ (cap = q) := by omega
        by_cases hlt2 : i < N
        · obtain ⟨a1, a2, a3, a4⟩ := HON.out i hlt2
          have d1 : decide ((q : Int) + i < xs.length) = true := decide_eq_true (by omega)
          have d2 : decide ((0 : Int) < lv) = true := decide_eq_true a3
          have q1 : ¬ (cap < xs.length) := by omega
          have q3 : ¬ (cap < q + i + 1) := by omega
          have q4 : ¬ (q + i + 1 < q) := by omega
          have q5 : ¬ ((q : Int) + (i : Int) + 1 < q) := by omega
          have q6 : ¬ ((cap : Int) < (q : Int) + i + 1) := by omega
          have HA4 := Lib.hid a4
          have HA2 := Lib.hid a2
          have ht1 := HCT.out wr (HV.out.below hbi2) (by omega) (i + 1) (by omega)
          have HT1 := Lib.hid ht1
          have hl1 := HTL.out (i + 1) (by omega)
          have HL1 := Lib.hid hl1
          clear a4 a2 ht1 hl1
          have q7 : ¬ (cap < q + (i + 1)) := by omega
          have q8 : ¬ (q + (i + 1) < q) := by omega
          have q9 : ¬ ((q : Int) + ((i : Int) + 1) < q) := by omega
          have q10 : ¬ ((cap : Int) < (q : Int) + ((i : Int) + 1)) := by omega
          go_wp2_with fail
          rw [show q + i + 1 - q = i + 1 by omega]
          refine (begins_any _ (ys.take (i + 1)) _ HT1.out (by have := HL1.out; omega) (by have := HL1.out; omega) (HRT.out (i + 1))).mono ?_
          rintro e w1 ⟨rfl, b1⟩
          rw [HA2.out]
          have hb1 := hbi2.trans (b1.mono hbi2.size)
          have hb1i := hbi.trans (b1.mono hbi.size)
          have hs1 := hb1.size
          have HT2 := Lib.hid (HCT.out w1 (HV.out.below hb1) (by omega) (i + 1) (by omega))
          clear HT1 b1
          go_wp2_with fail
          refine (begins_any _ (ys.take (i + 1)) _ HT2.out (by have := HL1.out; omega) (by have := HL1.out; omega) (HRT.out (i + 1))).mono ?_
          rintro e w2 ⟨rfl, b2⟩
          rw [HA2.out]
          have hb2 := hb1.trans (b2.mono hb1.size)
          have hb2i := hb1i.trans (b2.mono hb1i.size)
          have hs2 := hb2.size
          clear HT2 b2 HA2
          by_cases hwh : lv = (i : Int) + 1
          · have t1 : (lv == (i : Int) + 1) = true := by simp [hwh]
            have hNi := HA4.out hwh
            subst hNi
            obtain ⟨c1, c2, c3, c4⟩ := HBEG.out (by omega)
            obtain ⟨c5, c6, c7⟩ := c3 (by rw [hwh]; rfl)
            subst c1
            subst c5
            obtain ⟨V, hV⟩ : ∃ V, V = valF ys (i + 1 - 1) := ⟨_, rfl⟩
            rw [← hV] at c6 HSN
            have HC6 := Lib.hid c6
            have HC7 := Lib.hid c7
            clear hV
            have hbX := hb2
            have hbiX := hb2i
            rw [show ((i + 1 : Nat) : Int) = (i : Int) + 1 from rfl] at HSN
            have hownX := ownsRow_below HOW.out hbiX
            have hnb : u3.ownBlock ≠ some w2.heap.size := fun e => by have := (hownX.lt _ e).2; omega
            have hgh := Has.new w2 [Value.int .i32 65533, .int .i64 q, .int .i64 ((i : Int) + 1), .int .i64 (q + 1), .bool true] 33
            have hbA := hbX.alloc hbX.size (.cells [Value.int .i32 65533, .int .i64 q, .int .i64 ((i : Int) + 1), .int .i64 (q + 1), .bool true].toArray 33)
            have hownA := hownX.alloc (.cells [Value.int .i32 65533, .int .i64 q, .int .i64 ((i : Int) + 1), .int .i64 (q + 1), .bool true].toArray 33)
            obtain ⟨WA, hWA⟩ : ∃ WA, WA = w2.alloc (.cells [Value.int .i32 65533, .int .i64 q, .int .i64 ((i : Int) + 1), .int .i64 (q + 1), .bool true].toArray 33) := ⟨_, rfl⟩
            have hWs : WA.heap.size = w2.heap.size + 1 := by rw [hWA]; simp
            rw [← hWA] at hgh hbA hownA
            have E1 : w2.alloc (.cells #[Value.int .i32 65533, .int .i64 q, .int .i64 ((i : Int) + 1), .int .i64 (q + 1), .bool true] 33) = WA := hWA.symm
            have HE1 := Lib.hid E1
            have HMX := Lib.hid (show max ((i : Int) + 1 : Int) 1 = ((i : Int) + 1) by omega)
            have HGH := Lib.hid hgh
            have HOA := Lib.hid hownA
            clear hWA E1 hgh hownA hownX
            have HT3 := Lib.hid (HCT.out WA (HV.out.below hbA) (by have := hbA.size; omega) (i + 1) (by omega))
            have HL3 := Lib.hid (HTL.out (i + 1) (by omega))
            go_wp2_with fail
            rw [HMX.out, HE1.out]
            refine (rfeed_any (0, 0, 0) [] _ _ (ys.take (i + 1)) _ Rel.none (Held.nil .u8 _) HT3.out (HRT.out (i + 1)) (by have := HL3.out; omega)).mono ?_
            rintro e w3 ⟨vt, vh, H', rfl, ht, hh, hrl, b3, hft⟩
            have hgl : w2.heap.size < WA.heap.size := by omega
            have hg3 := HGH.out.below b3 hgl
            have hb3 := hbA.trans (b3.mono hbA.size)
            have hown4 := ownsRow_below HOA.out b3
            have hs3 := b3.size
            obtain ⟨ho, hcp2, rfl⟩ := hh.len
            have hln := (rel_len hrl).1
            have g0 := hg3.free 0
            have g1 := hg3.free 1
            have g2 := hg3.free 2
            have g3 := hg3.free 3
            have g4 := hg3.free 4
            have k0 := hg3.cell 0 _ rfl
            have k1 := hg3.cell 1 _ rfl
            have k2 := hg3.cell 2 _ rfl
            have k3 := hg3.cell 3 _ rfl
            have k4 := hg3.cell 4 _ rfl
            have HG3 := Lib.hid hg3
            rw [HC7.out] at hln
            have hH0 : H'.length = 0 := by omega
            rw [hH0]
            rw [HC6.out] at ht
            obtain ⟨to, tc, rfl, htc⟩ := ht.view
            obtain ⟨bt, offt, rfl, hbt, hct⟩ := htc 0 (by simp)
            have hct1 : w3.cell? ⟨bt, offt + 0, none⟩ = some (.int .i32 V) := hct
            have hne : bt ≠ w2.heap.size := by have := hft _ _ _ rfl; simp at this; omega
            have hne2 : w2.heap.size ≠ bt := fun e => hne e.symm
            rw [Nat.add_zero] at hct1
            clear ht hh hrl b3 hft htc hct hln hg3 hH0 c3 HA4 HBEG HLONE HOFF HON
            have hszS : (((((((w3.setCell ⟨w2.heap.size, 3, none⟩ (.int .i64 (min ((q : Int) + ((i : Int) + 1) + 1) xs.length))).setCell ⟨w2.heap.size, 0, none⟩ (.int .i32 V)).setCell ⟨w2.heap.size, 1, none⟩ (.int .i64 q)).setCell ⟨w2.heap.size, 2, none⟩ (.int .i64 ((i : Int) + 1))).setCell ⟨w2.heap.size, 3, none⟩ (.int .i64 ((q : Int) + ((i : Int) + 1)))).setCell ⟨w2.heap.size, 4, none⟩ (.bool false))).heap.size = w3.heap.size := by first | (simp; done) | exact hWs
            have hS := (Has.set (Has.set (Has.set (Has.set (Has.set (Has.set HG3.out 3 (.int .i64 (min ((q : Int) + ((i : Int) + 1) + 1) xs.length))) 0 (.int .i32 V)) 1 (.int .i64 q)) 2 (.int .i64 ((i : Int) + 1))) 3 (.int .i64 ((q : Int) + ((i : Int) + 1)))) 4 (.bool false))
            have hbS : Below w.heap.size w (((((((w3.setCell ⟨w2.heap.size, 3, none⟩ (.int .i64 (min ((q : Int) + ((i : Int) + 1) + 1) xs.length))).setCell ⟨w2.heap.size, 0, none⟩ (.int .i32 V)).setCell ⟨w2.heap.size, 1, none⟩ (.int .i64 q)).setCell ⟨w2.heap.size, 2, none⟩ (.int .i64 ((i : Int) + 1))).setCell ⟨w2.heap.size, 3, none⟩ (.int .i64 ((q : Int) + ((i : Int) + 1)))).setCell ⟨w2.heap.size, 4, none⟩ (.bool false))) := hb3.trans ((But.set (But.set (But.set (But.set (But.set (But.set (But.refl w2.heap.size w3.heap.size w3) 3 _) 0 _) 1 _) 2 _) 3 _) 4 _).below hb3.size (by have := hbX.size; omega))
            have hoS : (((((((w3.setCell ⟨w2.heap.size, 3, none⟩ (.int .i64 (min ((q : Int) + ((i : Int) + 1) + 1) xs.length))).setCell ⟨w2.heap.size, 0, none⟩ (.int .i32 V)).setCell ⟨w2.heap.size, 1, none⟩ (.int .i64 q)).setCell ⟨w2.heap.size, 2, none⟩ (.int .i64 ((i : Int) + 1))).setCell ⟨w2.heap.size, 3, none⟩ (.int .i64 ((q : Int) + ((i : Int) + 1)))).setCell ⟨w2.heap.size, 4, none⟩ (.bool false))).ownsRow w.heap.size 33 5 u3 k (gotsCells (partsN xs k)) := own_past hown4 (But.set (But.set (But.set (But.set (But.set (But.set (But.refl w2.heap.size w3.heap.size w3) 3 _) 0 _) 1 _) 2 _) 3 _) 4 _) hnb
            have HSZ := Lib.hid hszS
            have HSS := Lib.hid hS
            have HBS := Lib.hid hbS
            have HOS := Lib.hid hoS
            clear hszS hS hbS hoS
            go_wp2_with (at_builtin; refine wpList_append_newK (((((((w3.setCell ⟨w2.heap.size, 3, none⟩ (.int .i64 (min ((q : Int) + ((i : Int) + 1) + 1) xs.length))).setCell ⟨w2.heap.size, 0, none⟩ (.int .i32 V)).setCell ⟨w2.heap.size, 1, none⟩ (.int .i64 q)).setCell ⟨w2.heap.size, 2, none⟩ (.int .i64 ((i : Int) + 1))).setCell ⟨w2.heap.size, 3, none⟩ (.int .i64 ((q : Int) + ((i : Int) + 1)))).setCell ⟨w2.heap.size, 4, none⟩ (.bool false))) rfl (.tmp 79) (.tmp 81) 26 rfl w.heap.size 33 (.agg #[.int .i32 0, .int .i64 0, .int .i64 0, .int .i64 0, .bool false]) 5 40 Try.underlying26 info_rgot rfl (by decide) u3 k (gotsCells (partsN xs k)) rfl HOS.out [Value.int .i32 V, .int .i64 q, .int .i64 ((i : Int) + 1), .int .i64 ((q : Int) + ((i : Int) + 1)), .bool false] 1 1 (w3.heap.size) HSZ.out rfl rfl (by intro u hu; simp at hu; rcases hu with rfl | rfl | rfl | rfl | rfl <;> rfl) (by omega) (by omega) HBS.out.size ?_)
            intro v' w' hown' hb' hkp
            have hg2 := (hkp w2.heap.size (by first | omega | (rw [HSZ.out]; omega)) hnb).trans HSS.out
            have c2 := Has.cell hg2 2 _ rfl
            have hown3 : w'.ownsRow w.heap.size 33 5 v' (k + 1) (gotsCells (partsN xs (k + 1))) := by rw [HSN.out]; exact hown'
            have hb3 := HBS.out.trans hb'
            clear hown' hb' hkp hg2 hnb HSN HSZ HSS HBS HOS
            go_wp2
            go_roundw
            case rel => exact ⟨k + 1, q + (i + 1), HPS.out, by omega, by omega, by go_num, hown3, hb3⟩
            case measure => simp [intOf] <;> omega
          · have t1 : (lv == (i : Int) + 1) = false := by simp [hwh]
            go_wp2
            go_roundw
            case rel => exact ⟨i + 1, by omega, by go_num, .inr hwh, hb2i⟩
            case measure => simp [intOf] <;> omega
        · obtain rfl : i = N := by omega
          have hbX := hbi2
          have hbiX := hbi
          have q1 : ¬ (cap < xs.length) := by omega
          by_cases hN0 : i = 0
          · subst hN0
            obtain ⟨c1, c2⟩ := HLONE.out rfl
            subst c1
            subst c2
            have d1 : decide ((q : Int) + (0 : Nat) < xs.length) = true := decide_eq_true (by omega)
            have q3 : ¬ (cap < q + 0 + 1) := by omega
            have q4 : ¬ (q + 0 + 1 < q) := by omega
            have q5 : ¬ ((q : Int) + 1 < q) := by omega
            have q6 : ¬ ((cap : Int) < (q : Int) + 1) := by omega
            have HB0 := Lib.hid (show begB (ys.take 1) = 0 from HOFF.out hlt (.inl rfl))
            have HT1 := Lib.hid (HCT.out wr (HV.out.below hbi2) (by omega) 1 (by omega))
            have HL1 := Lib.hid (HTL.out 1 (by omega))
            clear HOFF HON HBEG HLONE
            go_wp2_with fail
            refine (begins_any _ (ys.take 1) _ HT1.out (by have := HL1.out; omega) (by have := HL1.out; omega) (HRT.out 1)).mono ?_
            rintro e w1 ⟨rfl, b1⟩
            rw [HB0.out]
            have hbX := hbi2.trans (b1.mono hbi2.size)
            have hbiX := hbi.trans (b1.mono hbi.size)
            clear HT1 b1 HB0
            have hownX := ownsRow_below HOW.out hbiX
            have hnb : u3.ownBlock ≠ some w1.heap.size := fun e => by have := (hownX.lt _ e).2; omega
            have hgh := Has.new w1 [Value.int .i32 65533, .int .i64 q, .int .i64 1, .int .i64 (q + 1), .bool true] 33
            have hbA := hbX.alloc hbX.size (.cells [Value.int .i32 65533, .int .i64 q, .int .i64 1, .int .i64 (q + 1), .bool true].toArray 33)
            have hownA := hownX.alloc (.cells [Value.int .i32 65533, .int .i64 q, .int .i64 1, .int .i64 (q + 1), .bool true].toArray 33)
            obtain ⟨WA, hWA⟩ : ∃ WA, WA = w1.alloc (.cells [Value.int .i32 65533, .int .i64 q, .int .i64 1, .int .i64 (q + 1), .bool true].toArray 33) := ⟨_, rfl⟩
            have hWs : WA.heap.size = w1.heap.size + 1 := by rw [hWA]; simp
            rw [← hWA] at hgh hbA hownA
            have E1 : w1.alloc (.cells #[Value.int .i32 65533, .int .i64 q, .int .i64 1, .int .i64 (q + 1), .bool true] 33) = WA := hWA.symm
            have HE1 := Lib.hid E1
            have HMX := Lib.hid (show max (0 : Int) 1 = 1 by omega)
            have HGH := Lib.hid hgh
            have HOA := Lib.hid hownA
            clear hWA E1 hgh hownA hownX
            have hbX2 := hbX
            go_upto_region 14 with (fail)
            rw [HMX.out, HE1.out]
            have hnb2 := hnb
            have k0 := HGH.out.cell 0 _ rfl
            have k1 := HGH.out.cell 1 _ rfl
            have k2 := HGH.out.cell 2 _ rfl
            have k3 := HGH.out.cell 3 _ rfl
            have k4 := HGH.out.cell 4 _ rfl
            have hszS : (WA).heap.size = w1.heap.size + 1 := by first | (simp; done) | exact hWs
            have hS := HGH.out
            have hbS : Below w.heap.size w (WA) := hbA
            have hoS : (WA).ownsRow w.heap.size 33 5 u3 k (gotsCells (partsN xs k)) := HOA.out
            have HSZ := Lib.hid hszS
            have HSS := Lib.hid hS
            have HBS := Lib.hid hbS
            have HOS := Lib.hid hoS
            clear hszS hS hbS hoS
            go_wp2_with (at_builtin; refine wpList_append_newK (WA) rfl (.tmp 79) (.tmp 81) 26 rfl w.heap.size 33 (.agg #[.int .i32 0, .int .i64 0, .int .i64 0, .int .i64 0, .bool false]) 5 40 Try.underlying26 info_rgot rfl (by decide) u3 k (gotsCells (partsN xs k)) rfl HOS.out [Value.int .i32 65533, .int .i64 q, .int .i64 1, .int .i64 (q + 1), .bool true] 1 1 (w1.heap.size + 1) HSZ.out rfl rfl (by intro u hu; simp at hu; rcases hu with rfl | rfl | rfl | rfl | rfl <;> rfl) (by omega) (by omega) HBS.out.size ?_)
            intro v' w' hown' hb' hkp
            have hg2 := (hkp w1.heap.size (by first | omega | (rw [HSZ.out]; omega)) hnb).trans HSS.out
            have c2 := Has.cell hg2 2 _ rfl
            have hown3 : w'.ownsRow w.heap.size 33 5 v' (k + 1) (gotsCells (partsN xs (k + 1))) := by rw [HSN.out]; exact hown'
            have hb3 := HBS.out.trans hb'
            clear hown' hb' hkp hg2 hnb HSN HSZ HSS HBS HOS
            go_wp2
            go_roundw
            case rel => exact ⟨k + 1, q + 1, HPS.out, by omega, by omega, by go_num, hown3, hb3⟩
            case measure => simp [intOf] <;> omega
          · have hpos : 1 ≤ i := by omega
            obtain ⟨c1, c2, c3, c4⟩ := HBEG.out hpos
            obtain ⟨c5, c7⟩ := c4 (by omega)
            subst c1
            subst c5
            have HC7 := Lib.hid c7
            clear c2 c3 c4
            by_cases hql2 : q + n < xs.length
            · have d1 : decide ((q : Int) + n < xs.length) = true := decide_eq_true (by omega)
              have q3 : ¬ (cap < q + n + 1) := by omega
              have q4 : ¬ (q + n + 1 < q) := by omega
              have q5 : ¬ ((q : Int) + (n : Int) + 1 < q) := by omega
              have q6 : ¬ ((cap : Int) < (q : Int) + n + 1) := by omega
              have HB0 := Lib.hid (HOFF.out hql2 (.inr (by omega)))
              have HT1 := Lib.hid (HCT.out wr (HV.out.below hbi2) (by omega) (n + 1) (by omega))
              have HL1 := Lib.hid (HTL.out (n + 1) (by omega))
              clear HOFF HON HBEG HLONE
              go_wp2_with fail
              rw [show q + n + 1 - q = n + 1 by omega]
              refine (begins_any _ (ys.take (n + 1)) _ HT1.out (by have := HL1.out; omega) (by have := HL1.out; omega) (HRT.out (n + 1))).mono ?_
              rintro e w1 ⟨rfl, b1⟩
              rw [HB0.out]
              have hbX := hbi2.trans (b1.mono hbi2.size)
              have hbiX := hbi.trans (b1.mono hbi.size)
              clear HT1 b1 HB0
              have hownX := ownsRow_below HOW.out hbiX
              have hnb : u3.ownBlock ≠ some w1.heap.size := fun e => by have := (hownX.lt _ e).2; omega
              have hgh := Has.new w1 [Value.int .i32 65533, .int .i64 q, .int .i64 n, .int .i64 (q + 1), .bool true] 33
              have hbA := hbX.alloc hbX.size (.cells [Value.int .i32 65533, .int .i64 q, .int .i64 n, .int .i64 (q + 1), .bool true].toArray 33)
              have hownA := hownX.alloc (.cells [Value.int .i32 65533, .int .i64 q, .int .i64 n, .int .i64 (q + 1), .bool true].toArray 33)
              obtain ⟨WA, hWA⟩ : ∃ WA, WA = w1.alloc (.cells [Value.int .i32 65533, .int .i64 q, .int .i64 n, .int .i64 (q + 1), .bool true].toArray 33) := ⟨_, rfl⟩
              have hWs : WA.heap.size = w1.heap.size + 1 := by rw [hWA]; simp
              rw [← hWA] at hgh hbA hownA
              have E1 : w1.alloc (.cells #[Value.int .i32 65533, .int .i64 q, .int .i64 n, .int .i64 (q + 1), .bool true] 33) = WA := hWA.symm
              have HE1 := Lib.hid E1
              have HMX := Lib.hid (show max (n : Int) 1 = n by omega)
              have HGH := Lib.hid hgh
              have HOA := Lib.hid hownA
              clear hWA E1 hgh hownA hownX
              have HT3 := Lib.hid (HCT.out WA (HV.out.below hbA) (by have := hbA.size; omega) (n) (by omega))
              have HL3 := Lib.hid (HTL.out (n) (by omega))
              go_wp2_with fail
              rw [HMX.out, HE1.out]
              refine (rfeed_any (0, 0, 0) [] _ _ (ys.take (n)) _ Rel.none (Held.nil .u8 _) HT3.out (HRT.out (n)) (by have := HL3.out; omega)).mono ?_
              rintro e w3 ⟨vt, vh, H', rfl, ht, hh, hrl, b3, hft⟩
              have hgl : w1.heap.size < WA.heap.size := by omega
              have hg3 := HGH.out.below b3 hgl
              have hb3 := hbA.trans (b3.mono hbA.size)
              have hown4 := ownsRow_below HOA.out b3
              have hs3 := b3.size
              obtain ⟨ho, hcp2, rfl⟩ := hh.len
              have hln := (rel_len hrl).1
              have g0 := hg3.free 0
              have g1 := hg3.free 1
              have g2 := hg3.free 2
              have g3 := hg3.free 3
              have g4 := hg3.free 4
              have k0 := hg3.cell 0 _ rfl
              have k1 := hg3.cell 1 _ rfl
              have k2 := hg3.cell 2 _ rfl
              have k3 := hg3.cell 3 _ rfl
              have k4 := hg3.cell 4 _ rfl
              have HG3 := Lib.hid hg3
              rw [HC7.out] at hln
              have d9 : ((H'.length : Int) == 0) = false := beq_eq_false_iff_ne.2 (by omega)
              clear ht hh hrl b3 hft hln hg3
              have hszS : ((w3.setCell ⟨w1.heap.size, 3, none⟩ (.int .i64 (min ((q : Int) + n + 1) xs.length)))).heap.size = w3.heap.size := by first | (simp; done) | exact hWs
              have hS := (Has.set HG3.out 3 (.int .i64 (min ((q : Int) + n + 1) xs.length)))
              have hbS : Below w.heap.size w ((w3.setCell ⟨w1.heap.size, 3, none⟩ (.int .i64 (min ((q : Int) + n + 1) xs.length)))) := hb3.trans ((But.set (But.refl w1.heap.size w3.heap.size w3) 3 _).below hb3.size (by have := hbX.size; omega))
              have hoS : ((w3.setCell ⟨w1.heap.size, 3, none⟩ (.int .i64 (min ((q : Int) + n + 1) xs.length)))).ownsRow w.heap.size 33 5 u3 k (gotsCells (partsN xs k)) := own_past hown4 (But.set (But.refl w1.heap.size w3.heap.size w3) 3 _) hnb
              have HSZ := Lib.hid hszS
              have HSS := Lib.hid hS
              have HBS := Lib.hid hbS
              have HOS := Lib.hid hoS
              clear hszS hS hbS hoS
              go_wp2_with (at_builtin; refine wpList_append_newK ((w3.setCell ⟨w1.heap.size, 3, none⟩ (.int .i64 (min ((q : Int) + n + 1) xs.length)))) rfl (.tmp 79) (.tmp 81) 26 rfl w.heap.size 33 (.agg #[.int .i32 0, .int .i64 0, .int .i64 0, .int .i64 0, .bool false]) 5 40 Try.underlying26 info_rgot rfl (by decide) u3 k (gotsCells (partsN xs k)) rfl HOS.out [Value.int .i32 65533, .int .i64 q, .int .i64 n, .int .i64 (min ((q : Int) + n + 1) xs.length), .bool true] 1 1 (w3.heap.size) HSZ.out rfl rfl (by intro u hu; simp at hu; rcases hu with rfl | rfl | rfl | rfl | rfl <;> rfl) (by omega) (by omega) HBS.out.size ?_)
              intro v' w' hown' hb' hkp
              have hg2 := (hkp w1.heap.size (by first | omega | (rw [HSZ.out]; omega)) hnb).trans HSS.out
              have c2 := Has.cell hg2 2 _ rfl
              have hown3 : w'.ownsRow w.heap.size 33 5 v' (k + 1) (gotsCells (partsN xs (k + 1))) := by rw [HSN.out]; exact hown'
              have hb3 := HBS.out.trans hb'
              clear hown' hb' hkp hg2 hnb HSN HSZ HSS HBS HOS
              go_wp2
              go_roundw
              case rel => exact ⟨k + 1, q + n, HPS.out, by omega, by omega, by go_num, hown3, hb3⟩
              case measure => simp [intOf] <;> omega
            · have d1 : decide ((q : Int) + n < xs.length) = false := decide_eq_false (by omega)
              clear HOFF HON HBEG HLONE
              have hownX := ownsRow_below HOW.out hbiX
              have hnb : u3.ownBlock ≠ some wr.heap.size := fun e => by have := (hownX.lt _ e).2; omega
              have hgh := Has.new wr [Value.int .i32 65533, .int .i64 q, .int .i64 n, .int .i64 (q + 1), .bool true] 33
              have hbA := hbX.alloc hbX.size (.cells [Value.int .i32 65533, .int .i64 q, .int .i64 n, .int .i64 (q + 1), .bool true].toArray 33)
              have hownA := hownX.alloc (.cells [Value.int .i32 65533, .int .i64 q, .int .i64 n, .int .i64 (q + 1), .bool true].toArray 33)
              obtain ⟨WA, hWA⟩ : ∃ WA, WA = wr.alloc (.cells [Value.int .i32 65533, .int .i64 q, .int .i64 n, .int .i64 (q + 1), .bool true].toArray 33) := ⟨_, rfl⟩
              have hWs : WA.heap.size = wr.heap.size + 1 := by rw [hWA]; simp
              rw [← hWA] at hgh hbA hownA
              have E1 : wr.alloc (.cells #[Value.int .i32 65533, .int .i64 q, .int .i64 n, .int .i64 (q + 1), .bool true] 33) = WA := hWA.symm
              have HE1 := Lib.hid E1
              have HMX := Lib.hid (show max (n : Int) 1 = n by omega)
              have HGH := Lib.hid hgh
              have HOA := Lib.hid hownA
              clear hWA E1 hgh hownA hownX
              have HT3 := Lib.hid (HCT.out WA (HV.out.below hbA) (by have := hbA.size; omega) (n) (by omega))
              have HL3 := Lib.hid (HTL.out (n) (by omega))
              go_wp2_with fail
              rw [HMX.out, HE1.out]
              refine (rfeed_any (0, 0, 0) [] _ _ (ys.take (n)) _ Rel.none (Held.nil .u8 _) HT3.out (HRT.out (n)) (by have := HL3.out; omega)).mono ?_
              rintro e w3 ⟨vt, vh, H', rfl, ht, hh, hrl, b3, hft⟩
              have hgl : wr.heap.size < WA.heap.size := by omega
              have hg3 := HGH.out.below b3 hgl
              have hb3 := hbA.trans (b3.mono hbA.size)
              have hown4 := ownsRow_below HOA.out b3
              have hs3 := b3.size
              obtain ⟨ho, hcp2, rfl⟩ := hh.len
              have hln := (rel_len hrl).1
              have g0 := hg3.free 0
              have g1 := hg3.free 1
              have g2 := hg3.free 2
              have g3 := hg3.free 3
              have g4 := hg3.free 4
              have k0 := hg3.cell 0 _ rfl
              have k1 := hg3.cell 1 _ rfl
              have k2 := hg3.cell 2 _ rfl
              have k3 := hg3.cell 3 _ rfl
              have k4 := hg3.cell 4 _ rfl
              have HG3 := Lib.hid hg3
              rw [HC7.out] at hln
              have d9 : ((H'.length : Int) == 0) = false := beq_eq_false_iff_ne.2 (by omega)
              clear ht hh hrl b3 hft hln hg3
              have hszS : ((w3.setCell ⟨wr.heap.size, 3, none⟩ (.int .i64 (min ((q : Int) + n + 1) xs.length)))).heap.size = w3.heap.size := by first | (simp; done) | exact hWs
              have hS := (Has.set HG3.out 3 (.int .i64 (min ((q : Int) + n + 1) xs.length)))
              have hbS : Below w.heap.size w ((w3.setCell ⟨wr.heap.size, 3, none⟩ (.int .i64 (min ((q : Int) + n + 1) xs.length)))) := hb3.trans ((But.set (But.refl wr.heap.size w3.heap.size w3) 3 _).below hb3.size (by have := hbX.size; omega))
              have hoS : ((w3.setCell ⟨wr.heap.size, 3, none⟩ (.int .i64 (min ((q : Int) + n + 1) xs.length)))).ownsRow w.heap.size 33 5 u3 k (gotsCells (partsN xs k)) := own_past hown4 (But.set (But.refl wr.heap.size w3.heap.size w3) 3 _) hnb
              have HSZ := Lib.hid hszS
              have HSS := Lib.hid hS
              have HBS := Lib.hid hbS
              have HOS := Lib.hid hoS
              clear hszS hS hbS hoS
              go_wp2_with (at_builtin; refine wpList_append_newK ((w3.setCell ⟨wr.heap.size, 3, none⟩ (.int .i64 (min ((q : Int) + n + 1) xs.length)))) rfl (.tmp 79) (.tmp 81) 26 rfl w.heap.size 33 (.agg #[.int .i32 0, .int .i64 0, .int .i64 0, .int .i64 0, .bool false]) 5 40 Try.underlying26 info_rgot rfl (by decide) u3 k (gotsCells (partsN xs k)) rfl HOS.out [Value.int .i32 65533, .int .i64 q, .int .i64 n, .int .i64 (min ((q : Int) + n + 1) xs.length), .bool true] 1 1 (w3.heap.size) HSZ.out rfl rfl (by intro u hu; simp at hu; rcases hu with rfl | rfl | rfl | rfl | rfl <;> rfl) (by omega) (by omega) HBS.out.size ?_)
              intro v' w' hown' hb' hkp
              have hg2 := (hkp wr.heap.size (by first | omega | (rw [HSZ.out]; omega)) hnb).trans HSS.out
              have c2 := Has.cell hg2 2 _ rfl
              have hown3 : w'.ownsRow w.heap.size 33 5 v' (k + 1) (gotsCells (partsN xs (k + 1))) := by rw [HSN.out]; exact hown'
              have hb3 := HBS.out.trans hb'
              clear hown' hb' hkp hg2 hnb HSN HSZ HSS HBS HOS
              go_wp2
              go_roundw
              case rel => exact ⟨k + 1, q + n, HPS.out, by omega, by omega, by go_num, hown3, hb3⟩
              case measure => simp [intOf] <;> omega
    · have hqe : q = xs.length := by omega
      subst hqe
      go_wp2
      go_ret
      exact ⟨k, _, rfl, hq, hown, hbw⟩
end Go.Proofs.Ytgoeacmpphmnoaa
