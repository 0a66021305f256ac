/- The reference's Add (25). -/
import Derived.Test.YtomfclkldmmmgaaDoorMarkR
import Derived.Test.YtomfclkldmmmgaaDoorMarkF
import Derived.Test.YtomfclkldmmmgaaDoorRegX
namespace Go.Proofs.YtomfclkldmmmgaaDoor
open Go.RowKit Go.ChangeShapes Go.WideShapes
theorem int_copy {Y : Zone} (w : World) (B : Nat) (ty : TypeId) (g : Nat) (hown : w.ownsRow B 21 1 (.slice (some ⟨g, 0, none⟩) 0 0) 0 []) (u : Value) (T : List Int) (hu : HeldE (intE .i32) Y w u T) (hpos : 0 < T.length) (hn : T.length ≤ 1000000) (hbase : B ≤ w.heap.size) :
    ∃ v' w', (Builtin.append_ #[25, 25] ty #[.slice (some ⟨g, 0, none⟩) 0 0, u]).run Tryd.prog w = .ok v' w' ∧ w'.ownsRow B 21 1 v' T.length (T.map (Value.int .i32)) ∧ Below w.heap.size w w' := by
  obtain ⟨i0, hi, hz0, hz1, hz2⟩ := info_parts info_rune
  obtain ⟨ao, cap, rfl, hcells⟩ := hu.ints.view
  obtain ⟨b, off, rfl, _, _⟩ := hcells 0 hpos
  have hnews : ∀ j v, (T.map (Value.int .i32))[j]? = some v → w.cell? ((⟨b, off, none⟩ : Addr).add j) = some v := by
    intro j v hj
    rw [List.getElem?_map] at hj
    cases hT : T[j]? with
    | none => rw [hT] at hj; cases hj
    | some y =>
      rw [hT] at hj
      have hj : v = .int .i32 y := by simpa using hj.symm
      subst hj
      have hjl : j < T.length := (List.getElem?_eq_some_iff.1 hT).1
      obtain ⟨b', off', e, _, hc⟩ := hcells j hjl
      cases e
      have : T.getD j 0 = y := by simp [List.getD, hT]
      rw [this] at hc
      rcases Nat.eq_zero_or_pos j with rfl | hp
      · simpa [Addr.add] using hc
      · simpa [Addr.add, Nat.ne_of_gt hp] using hc
  obtain ⟨v', w', hr, h2, h3, _, h5⟩ := run_append_keep (P := Tryd.prog) w B 25 ty 21 i0 _ 1 4 Tryd.underlying25 hi hz0 hz1 hz2 rfl (by decide) _ 0 [] hown ⟨b, off, none⟩ T.length cap (T.map (Value.int .i32)) (by simp) hnews (by intro v hv; simp at hv; obtain ⟨_, _, rfl⟩ := hv; rfl) (by unfold maxLen; omega) (by omega) hbase
  refine ⟨v', w', hr, by simpa using h2, ?_⟩
  rcases h5 with h5 | ⟨g2, cap2, e1, rfl⟩
  · exact (Below.refl _ w).grown (⟨h3.os, h3.tape, h3.output, h3.size, fun i hi _ => h5 i hi⟩ : w.grownBy w' none) (Nat.le_refl _) (by simp)
  · exfalso
    simp only [Value.slice.injEq, Option.some.injEq, Addr.mk.injEq, and_true, true_and] at e1
    obtain ⟨rfl, rfl⟩ := e1
    rcases h2.2 with ⟨h', _⟩ | ⟨g3, cap3, cur3, h', _, _, hn3, _⟩
    · simp at h'
    · simp only [Value.slice.injEq, Option.some.injEq, Addr.mk.injEq, and_true, true_and] at h'
      omega
set_option maxRecDepth 100000 in
set_option maxHeartbeats 4000000 in
theorem radd_any (Z : Zone) (v : Value) (L : List Cl) (wrap : Bool) (col x : Int) (w : World) (hZ : ∀ b, w.heap.size ≤ b → Z b) (hv : HeldE cellE Z w v L) (hs : soundB L = true) (hpos : 0 < L.length) (hl : L.length ≤ 1000000) : Calls Tryd.prog 29 #[v, .bool wrap, .int .i64 col, .int .i32 x] w (Tup3 Z w (addL L wrap col x)) := by
  obtain ⟨ao, ca, rfl⟩ := hv.len
  obtain ⟨_, _, hc⟩ := cells_at hv
  have HC := Lib.hid hc
  have HV := Lib.hid hv
  have HZ := Lib.hid hZ
  have HA := Lib.hid (rat_any Z _ L col w hv)
  clear hv hc hZ
  by_cases hc0 : clAt L col < 0
  · have HE := Lib.hid (show addL L wrap col x = (L, wrap, false) by unfold addL; rw [if_pos (.inl hc0)])
    have hd : decide (clAt L col < 0) = true := by simp; omega
    clear hs
    go_enter Tryd.func29, Tryd.ntmps29
    go_wp2_with fail
    refine HA.out.mono ?_
    rintro e w1 ⟨rfl, rfl⟩
    go_wp2
    go_ret3
    rw [HE.out]
    exact ⟨_, rfl, HV.out, Below.refl _ _⟩
  obtain ⟨k, hck, hk, hcase, ht0, ht1, htv⟩ := cl_some hs (show 0 ≤ clAt L col by omega)
  rw [hck] at HA
  have hwE : addL L wrap col x = if 15 < (L.getD k zc).2.length then (L, wrap, false) else (paintL L (ofC (L.getD k zc).1 ((L.getD k zc).2 ++ [x])) k, wrap && !lastHit L (ofC (L.getD k zc).1 ((L.getD k zc).2 ++ [x])) k, true) := by
    unfold addL
    rw [hck, Int.toNat_natCast]
    by_cases hq : 15 < (L.getD k zc).2.length
    · rw [if_pos hq, if_pos (.inr hq)]
    · rw [if_neg hq, if_neg (by omega)]
  have hroom : k + (ofC (L.getD k zc).1 ((L.getD k zc).2 ++ [repl x])).length ≤ L.length := by
    rw [ofC_len]
    rcases hcase with ⟨e, _⟩ | ⟨e, h2, _⟩
    · rw [if_neg (by omega)]; omega
    · rw [if_pos (by omega)]; omega
  obtain ⟨b, off, tv, rfl, hb, _, c0, c1, hh⟩ := HC.out k hk
  obtain ⟨⟨K, T⟩, hKT⟩ : ∃ y, y = L.getD k zc := ⟨_, rfl⟩
  rw [← hKT] at c0 hh hwE hroom ht0 ht1 htv
  simp only at c0 hh hwE hroom ht0 ht1 htv
  have HHT := Lib.hid hh
  obtain ⟨tta, tcc, rfl⟩ := hh.len
  have hdk : decide ((k : Int) < 0) = false := by simp
  by_cases h15 : 15 < T.length
  · have HE := Lib.hid (show addL L wrap col x = (L, wrap, false) by rw [hwE, if_pos h15])
    have hd15 : decide ((15 : Int) < T.length) = true := by simp; omega
    clear hs hwE hcase hh hKT hroom htv hck hc0
    go_enter Tryd.func29, Tryd.ntmps29
    go_wp2_with fail
    refine HA.out.mono ?_
    rintro e w1 ⟨rfl, rfl⟩
    go_wp2
    go_ret3
    rw [HE.out]
    exact ⟨_, rfl, HV.out, Below.refl _ _⟩
  have hd15 : decide ((15 : Int) < T.length) = false := by simp; omega
  have hd15n : decide (15 < T.length) = false := by simp; omega
  obtain ⟨x', hx'⟩ : ∃ x', x' = repl x := ⟨_, rfl⟩
  have hsame : ofC K (T ++ [x]) = ofC K (T ++ [x']) := by rw [hx', ofC_repl]
  obtain ⟨L2, hL2⟩ : ∃ L2, L2 = paintL L (ofC K (T ++ [x'])) k := ⟨_, rfl⟩
  obtain ⟨q2, hq2⟩ : ∃ q2, q2 = (wrap && !lastHit L (ofC K (T ++ [x'])) k) := ⟨_, rfl⟩
  have HE := Lib.hid (show addL L wrap col x = (L2, q2, true) by rw [hwE, if_neg h15, hsame, hL2, hq2])
  rw [← hx'] at hroom
  have HPA := Lib.hid (show ∀ (u : Value) (w' : World), Below w.heap.size w w' → HeldE cellE Z w' u (ofC K (T ++ [x'])) → Calls Tryd.prog 26 #[.slice (some ⟨b, off, none⟩) L.length ca, .bool wrap, .int .i64 k, u] w' (Painted Z w' L2 q2) from fun u w' hbw hu => by
    rw [hL2, hq2]
    exact rfpaint_any Z _ u L (ofC K (T ++ [x'])) wrap k w' (fun b h => HZ.out b (Nat.le_trans hbw.size h)) (HV.out.below hbw) hu hpos hl hroom)
  have HC0 := Lib.hid c0
  have HC1 := Lib.hid c1
  have HXV := Lib.hid hx'
  clear hs hwE hcase hh hKT hroom htv hck hc0 hL2 hq2 hsame hx'
  cases hvx : validB x with
  | true =>
    have hxx : x' = x := by rw [HXV.out]; exact repl_valid hvx
    subst hxx
    have HVX := Lib.hid hvx
    clear hvx
    go_enter Tryd.func29, Tryd.ntmps29
    go_wp2_with fail
    refine HA.out.mono ?_
    rintro e w1 ⟨rfl, rfl⟩
    go_wp2_with fail
    refine (refvalid_any _ _).mono ?_
    rintro e w' ⟨rfl, rfl⟩
    rw [HVX.out]
    go_upto_region 6 with (fail)
    obtain ⟨Erg, hErg⟩ : ∃ EE : Nat → Value → World → Prop, EE = fun jj xx ww => match jj with
        | 0 => xx = .slice (some ⟨b, off, none⟩) L.length ca
        | 1 => xx = .bool wrap
        | 2 => xx = .int .i64 k
        | 3 => xx = .slice (some ⟨b, off, none⟩) L.length ca
        | 4 => xx = .int .i64 k
        | 5 => xx = .pointer (some ⟨b, off + k * 2, none⟩)
        | 6 => xx = .pointer (some ⟨b, off + k * 2, none⟩)
        | 7 => xx = .int .i64 K
        | 8 => (fun y w' => ∃ g9, y = .slice (some ⟨g9, 0, none⟩) 0 0 ∧ w'.ownsRow w.heap.size 21 1 (.slice (some ⟨g9, 0, none⟩) 0 0) 0 []) xx ww
        | 9 => xx = .slice (some ⟨b, off, none⟩) L.length ca
        | 10 => xx = .int .i64 k
        | 11 => xx = .pointer (some ⟨b, off + k * 2, none⟩)
        | 12 => xx = .pointer (some ⟨b, off + k * 2 + 1, none⟩)
        | 13 => xx = .slice tta T.length tcc
        | 14 => (fun y w' => w'.ownsRow w.heap.size 21 1 y T.length (T.map (Value.int .i32))) xx ww
        | 15 => xx = .int .i32 x'
        | 16 => (fun y w' => ∃ g9, y = .slice (some ⟨g9, 0, none⟩) 1 1 ∧ w'.ownsRow w.heap.size 21 1 (.slice (some ⟨g9, 0, none⟩) 1 1) 1 [.int .i32 x']) xx ww
        | 17 => (fun y w' => w'.ownsRow w.heap.size 21 1 y (T.length + 1) (T.map (Value.int .i32) ++ [.int .i32 x'])) xx ww
        | 18 => (fun y w' => HeldE cellE Z w' y (ofC K (T ++ [x']))) xx ww
        | 19 => (fun y w' => ∃ v9, y = .tuple #[v9, .bool q2] ∧ HeldE cellE Z w' v9 L2) xx ww
        | 20 => (fun y w' => ∃ v9, y = .tuple #[v9, .bool q2] ∧ HeldE cellE Z w' v9 L2) xx ww
        | 21 => (fun y w' => HeldE cellE Z w' y L2) xx ww
        | 22 => xx = .bool q2
        | 23 => (fun y w' => HeldE cellE Z w' y L2) xx ww
        | 24 => xx = .bool q2
        | _ => True := ⟨_, rfl⟩
    have erg0 : ∀ xx ww, Erg 0 xx ww = (xx = .slice (some ⟨b, off, none⟩) L.length ca) := fun xx ww => congrFun (congrFun (congrFun hErg 0) xx) ww
    have erg1 : ∀ xx ww, Erg 1 xx ww = (xx = .bool wrap) := fun xx ww => congrFun (congrFun (congrFun hErg 1) xx) ww
    have erg2 : ∀ xx ww, Erg 2 xx ww = (xx = .int .i64 k) := fun xx ww => congrFun (congrFun (congrFun hErg 2) xx) ww
    have erg3 : ∀ xx ww, Erg 3 xx ww = (xx = .slice (some ⟨b, off, none⟩) L.length ca) := fun xx ww => congrFun (congrFun (congrFun hErg 3) xx) ww
    have erg4 : ∀ xx ww, Erg 4 xx ww = (xx = .int .i64 k) := fun xx ww => congrFun (congrFun (congrFun hErg 4) xx) ww
    have erg5 : ∀ xx ww, Erg 5 xx ww = (xx = .pointer (some ⟨b, off + k * 2, none⟩)) := fun xx ww => congrFun (congrFun (congrFun hErg 5) xx) ww
    have erg6 : ∀ xx ww, Erg 6 xx ww = (xx = .pointer (some ⟨b, off + k * 2, none⟩)) := fun xx ww => congrFun (congrFun (congrFun hErg 6) xx) ww
    have erg7 : ∀ xx ww, Erg 7 xx ww = (xx = .int .i64 K) := fun xx ww => congrFun (congrFun (congrFun hErg 7) xx) ww
    have erg8 : ∀ xx ww, Erg 8 xx ww = ((fun y w' => ∃ g9, y = .slice (some ⟨g9, 0, none⟩) 0 0 ∧ w'.ownsRow w.heap.size 21 1 (.slice (some ⟨g9, 0, none⟩) 0 0) 0 []) xx ww) := fun xx ww => congrFun (congrFun (congrFun hErg 8) xx) ww
    have erg9 : ∀ xx ww, Erg 9 xx ww = (xx = .slice (some ⟨b, off, none⟩) L.length ca) := fun xx ww => congrFun (congrFun (congrFun hErg 9) xx) ww
    have erg10 : ∀ xx ww, Erg 10 xx ww = (xx = .int .i64 k) := fun xx ww => congrFun (congrFun (congrFun hErg 10) xx) ww
    have erg11 : ∀ xx ww, Erg 11 xx ww = (xx = .pointer (some ⟨b, off + k * 2, none⟩)) := fun xx ww => congrFun (congrFun (congrFun hErg 11) xx) ww
    have erg12 : ∀ xx ww, Erg 12 xx ww = (xx = .pointer (some ⟨b, off + k * 2 + 1, none⟩)) := fun xx ww => congrFun (congrFun (congrFun hErg 12) xx) ww
    have erg13 : ∀ xx ww, Erg 13 xx ww = (xx = .slice tta T.length tcc) := fun xx ww => congrFun (congrFun (congrFun hErg 13) xx) ww
    have erg14 : ∀ xx ww, Erg 14 xx ww = ((fun y w' => w'.ownsRow w.heap.size 21 1 y T.length (T.map (Value.int .i32))) xx ww) := fun xx ww => congrFun (congrFun (congrFun hErg 14) xx) ww
    have erg15 : ∀ xx ww, Erg 15 xx ww = (xx = .int .i32 x') := fun xx ww => congrFun (congrFun (congrFun hErg 15) xx) ww
    have erg16 : ∀ xx ww, Erg 16 xx ww = ((fun y w' => ∃ g9, y = .slice (some ⟨g9, 0, none⟩) 1 1 ∧ w'.ownsRow w.heap.size 21 1 (.slice (some ⟨g9, 0, none⟩) 1 1) 1 [.int .i32 x']) xx ww) := fun xx ww => congrFun (congrFun (congrFun hErg 16) xx) ww
    have erg17 : ∀ xx ww, Erg 17 xx ww = ((fun y w' => w'.ownsRow w.heap.size 21 1 y (T.length + 1) (T.map (Value.int .i32) ++ [.int .i32 x'])) xx ww) := fun xx ww => congrFun (congrFun (congrFun hErg 17) xx) ww
    have erg18 : ∀ xx ww, Erg 18 xx ww = ((fun y w' => HeldE cellE Z w' y (ofC K (T ++ [x']))) xx ww) := fun xx ww => congrFun (congrFun (congrFun hErg 18) xx) ww
    have erg19 : ∀ xx ww, Erg 19 xx ww = ((fun y w' => ∃ v9, y = .tuple #[v9, .bool q2] ∧ HeldE cellE Z w' v9 L2) xx ww) := fun xx ww => congrFun (congrFun (congrFun hErg 19) xx) ww
    have erg20 : ∀ xx ww, Erg 20 xx ww = ((fun y w' => ∃ v9, y = .tuple #[v9, .bool q2] ∧ HeldE cellE Z w' v9 L2) xx ww) := fun xx ww => congrFun (congrFun (congrFun hErg 20) xx) ww
    have erg21 : ∀ xx ww, Erg 21 xx ww = ((fun y w' => HeldE cellE Z w' y L2) xx ww) := fun xx ww => congrFun (congrFun (congrFun hErg 21) xx) ww
    have erg22 : ∀ xx ww, Erg 22 xx ww = (xx = .bool q2) := fun xx ww => congrFun (congrFun (congrFun hErg 22) xx) ww
    have erg23 : ∀ xx ww, Erg 23 xx ww = ((fun y w' => HeldE cellE Z w' y L2) xx ww) := fun xx ww => congrFun (congrFun (congrFun hErg 23) xx) ww
    have erg24 : ∀ xx ww, Erg 24 xx ww = (xx = .bool q2) := fun xx ww => congrFun (congrFun (congrFun hErg 24) xx) ww
    obtain ⟨Crg, hCrg⟩ : ∃ CC : Array Bool → World → Prop, CC = fun L8 w' => Below w.heap.size w w' := ⟨_, rfl⟩
    have krg : ∀ i L w,  Crg L w → Crg (L.setIfInBounds i true) w := by
      intro i L w  h
      rw [hCrg] at h ⊢
      exact h
    obtain ⟨Xrg, hXrg⟩ : ∃ XX : Nat → World → World → Prop, XX = fun kk ww1 ww2 => if kk = 17 then (fun y z => Kept y z w.heap.size 21 1 (T.map (Value.int .i32) ++ [.int .i32 x']) [.int .i32 x'] 1) ww1 ww2 else (fun y z => Below y.heap.size y z) ww1 ww2 := ⟨_, rfl⟩
    have xrg : ∀ {k : Nat} (w : World), Xrg k w w := by
      intro k w
      rw [hXrg]
      show if k = 17 then _ else _
      split
      · exact Kept.refl _ _ _ _ _ _ _
      · exact Below.refl _ _
    have crg : Crg (Array.replicate 25 false) w.drew := by rw [hCrg]; exact (Below.refl _ _).drew
    have brg : ∀ L w w1, Crg L w → Below w.heap.size w w1 → Crg L w1 := by
      intro L w w1 h hb
      rw [hCrg] at h ⊢
      exact h.trans (hb.mono h.size)
    have xbrg : ∀ {k : Nat} (w w1 : World), Below w.heap.size w w1 → Xrg k w w1 := by
      intro k w w1 hb
      rw [hXrg]
      show if k = 17 then _ else _
      split
      · exact Kept.below hb _ _ _ _ _ _
      · exact hb
    have Hrgb := Lib.hid brg
    have Hrgxb : Go.RowKit.Hid (∀ {k : Nat} (w w1 : World), Below w.heap.size w w1 → Xrg k w w1) := @xbrg
    clear brg xbrg
    have HrghE := Lib.hid hErg
    clear hErg
    have Hrgk := Lib.hid krg
    have Hrgx : Go.RowKit.Hid (∀ {k : Nat} (w : World), Xrg k w w) := @xrg
    have Hrgc := Lib.hid crg
    have HrghC := Lib.hid hCrg
    have HrghX := Lib.hid hXrg
    have Hrge0 := Lib.hid erg0
    have Hrge1 := Lib.hid erg1
    have Hrge2 := Lib.hid erg2
    have Hrge3 := Lib.hid erg3
    have Hrge4 := Lib.hid erg4
    have Hrge5 := Lib.hid erg5
    have Hrge6 := Lib.hid erg6
    have Hrge7 := Lib.hid erg7
    have Hrge8 := Lib.hid erg8
    have Hrge9 := Lib.hid erg9
    have Hrge10 := Lib.hid erg10
    have Hrge11 := Lib.hid erg11
    have Hrge12 := Lib.hid erg12
    have Hrge13 := Lib.hid erg13
    have Hrge14 := Lib.hid erg14
    have Hrge15 := Lib.hid erg15
    have Hrge16 := Lib.hid erg16
    have Hrge17 := Lib.hid erg17
    have Hrge18 := Lib.hid erg18
    have Hrge19 := Lib.hid erg19
    have Hrge20 := Lib.hid erg20
    have Hrge21 := Lib.hid erg21
    have Hrge22 := Lib.hid erg22
    have Hrge23 := Lib.hid erg23
    have Hrge24 := Lib.hid erg24
    clear krg xrg crg hCrg hXrg erg0 erg1 erg2 erg3 erg4 erg5 erg6 erg7 erg8 erg9 erg10 erg11 erg12 erg13 erg14 erg15 erg16 erg17 erg18 erg19 erg20 erg21 erg22 erg23 erg24
    go_wp2_with fail
    refine RegX.regionF Erg Crg Xrg ?_ (by kernel_rfl) (by kernel_rfl) (by kernel_rfl) Hrgc.out (fun Frg hFrg => ?_)
    · intro ii jj x w w1 hr hx h
      rw [HrghX.out] at hx
      by_cases hi : ii = 17
      · subst hi
        simp only [if_pos] at hx
        match jj with
        | 0 => rw [Hrge0.out] at h ⊢; exact h
        | 1 => rw [Hrge1.out] at h ⊢; exact h
        | 2 => rw [Hrge2.out] at h ⊢; exact h
        | 3 => rw [Hrge3.out] at h ⊢; exact h
        | 4 => rw [Hrge4.out] at h ⊢; exact h
        | 5 => rw [Hrge5.out] at h ⊢; exact h
        | 6 => rw [Hrge6.out] at h ⊢; exact h
        | 7 => rw [Hrge7.out] at h ⊢; exact h
        | 8 => rw [Hrge8.out] at h ⊢; (first | exact hx.1 _ _ _ h (List.prefix_refl _) | exact hx.1 _ _ _ h (List.prefix_append _ _) | (obtain ⟨g9, e9, h9⟩ := h; exact ⟨g9, e9, hx.1 _ _ _ h9 (List.nil_prefix)⟩) | (obtain ⟨g9, e9, h9⟩ := h; exact ⟨g9, e9, hx.2 _ h9⟩))
        | 9 => rw [Hrge9.out] at h ⊢; exact h
        | 10 => rw [Hrge10.out] at h ⊢; exact h
        | 11 => rw [Hrge11.out] at h ⊢; exact h
        | 12 => rw [Hrge12.out] at h ⊢; exact h
        | 13 => rw [Hrge13.out] at h ⊢; exact h
        | 14 => rw [Hrge14.out] at h ⊢; (first | exact hx.1 _ _ _ h (List.prefix_refl _) | exact hx.1 _ _ _ h (List.prefix_append _ _) | (obtain ⟨g9, e9, h9⟩ := h; exact ⟨g9, e9, hx.1 _ _ _ h9 (List.nil_prefix)⟩) | (obtain ⟨g9, e9, h9⟩ := h; exact ⟨g9, e9, hx.2 _ h9⟩))
        | 15 => rw [Hrge15.out] at h ⊢; exact h
        | 16 => rw [Hrge16.out] at h ⊢; (first | exact hx.1 _ _ _ h (List.prefix_refl _) | exact hx.1 _ _ _ h (List.prefix_append _ _) | (obtain ⟨g9, e9, h9⟩ := h; exact ⟨g9, e9, hx.1 _ _ _ h9 (List.nil_prefix)⟩) | (obtain ⟨g9, e9, h9⟩ := h; exact ⟨g9, e9, hx.2 _ h9⟩))
        | 17 => rw [Hrge17.out] at h ⊢; (first | exact hx.1 _ _ _ h (List.prefix_refl _) | exact hx.1 _ _ _ h (List.prefix_append _ _) | (obtain ⟨g9, e9, h9⟩ := h; exact ⟨g9, e9, hx.1 _ _ _ h9 (List.nil_prefix)⟩) | (obtain ⟨g9, e9, h9⟩ := h; exact ⟨g9, e9, hx.2 _ h9⟩))
        | 18 => exact absurd (hr.symm.trans (show Reg.reach _ 6 18 17 = true from by kernel_rfl)) (by decide)
        | 19 => exact absurd (hr.symm.trans (show Reg.reach _ 6 19 17 = true from by kernel_rfl)) (by decide)
        | 20 => exact absurd (hr.symm.trans (show Reg.reach _ 6 20 17 = true from by kernel_rfl)) (by decide)
        | 21 => exact absurd (hr.symm.trans (show Reg.reach _ 6 21 17 = true from by kernel_rfl)) (by decide)
        | 22 => rw [Hrge22.out] at h ⊢; exact h
        | 23 => exact absurd (hr.symm.trans (show Reg.reach _ 6 23 17 = true from by kernel_rfl)) (by decide)
        | 24 => rw [Hrge24.out] at h ⊢; exact h
        | jj + 25 => rw [HrghE.out]; trivial
      · simp only [if_neg hi] at hx
        match jj with
        | 0 => rw [Hrge0.out] at h ⊢; exact h
        | 1 => rw [Hrge1.out] at h ⊢; exact h
        | 2 => rw [Hrge2.out] at h ⊢; exact h
        | 3 => rw [Hrge3.out] at h ⊢; exact h
        | 4 => rw [Hrge4.out] at h ⊢; exact h
        | 5 => rw [Hrge5.out] at h ⊢; exact h
        | 6 => rw [Hrge6.out] at h ⊢; exact h
        | 7 => rw [Hrge7.out] at h ⊢; exact h
        | 8 => rw [Hrge8.out] at h ⊢; (first | exact ownsRow_below h hx | (obtain ⟨g9, e9, h9⟩ := h; exact ⟨g9, e9, ownsRow_below h9 hx⟩) | exact HeldE.below h hx | (obtain ⟨v9, e9, h9⟩ := h; exact ⟨v9, e9, HeldE.below h9 hx⟩))
        | 9 => rw [Hrge9.out] at h ⊢; exact h
        | 10 => rw [Hrge10.out] at h ⊢; exact h
        | 11 => rw [Hrge11.out] at h ⊢; exact h
        | 12 => rw [Hrge12.out] at h ⊢; exact h
        | 13 => rw [Hrge13.out] at h ⊢; exact h
        | 14 => rw [Hrge14.out] at h ⊢; (first | exact ownsRow_below h hx | (obtain ⟨g9, e9, h9⟩ := h; exact ⟨g9, e9, ownsRow_below h9 hx⟩) | exact HeldE.below h hx | (obtain ⟨v9, e9, h9⟩ := h; exact ⟨v9, e9, HeldE.below h9 hx⟩))
        | 15 => rw [Hrge15.out] at h ⊢; exact h
        | 16 => rw [Hrge16.out] at h ⊢; (first | exact ownsRow_below h hx | (obtain ⟨g9, e9, h9⟩ := h; exact ⟨g9, e9, ownsRow_below h9 hx⟩) | exact HeldE.below h hx | (obtain ⟨v9, e9, h9⟩ := h; exact ⟨v9, e9, HeldE.below h9 hx⟩))
        | 17 => rw [Hrge17.out] at h ⊢; (first | exact ownsRow_below h hx | (obtain ⟨g9, e9, h9⟩ := h; exact ⟨g9, e9, ownsRow_below h9 hx⟩) | exact HeldE.below h hx | (obtain ⟨v9, e9, h9⟩ := h; exact ⟨v9, e9, HeldE.below h9 hx⟩))
        | 18 => rw [Hrge18.out] at h ⊢; (first | exact ownsRow_below h hx | (obtain ⟨g9, e9, h9⟩ := h; exact ⟨g9, e9, ownsRow_below h9 hx⟩) | exact HeldE.below h hx | (obtain ⟨v9, e9, h9⟩ := h; exact ⟨v9, e9, HeldE.below h9 hx⟩))
        | 19 => rw [Hrge19.out] at h ⊢; (first | exact ownsRow_below h hx | (obtain ⟨g9, e9, h9⟩ := h; exact ⟨g9, e9, ownsRow_below h9 hx⟩) | exact HeldE.below h hx | (obtain ⟨v9, e9, h9⟩ := h; exact ⟨v9, e9, HeldE.below h9 hx⟩))
        | 20 => rw [Hrge20.out] at h ⊢; (first | exact ownsRow_below h hx | (obtain ⟨g9, e9, h9⟩ := h; exact ⟨g9, e9, ownsRow_below h9 hx⟩) | exact HeldE.below h hx | (obtain ⟨v9, e9, h9⟩ := h; exact ⟨v9, e9, HeldE.below h9 hx⟩))
        | 21 => rw [Hrge21.out] at h ⊢; (first | exact ownsRow_below h hx | (obtain ⟨g9, e9, h9⟩ := h; exact ⟨g9, e9, ownsRow_below h9 hx⟩) | exact HeldE.below h hx | (obtain ⟨v9, e9, h9⟩ := h; exact ⟨v9, e9, HeldE.below h9 hx⟩))
        | 22 => rw [Hrge22.out] at h ⊢; exact h
        | 23 => rw [Hrge23.out] at h ⊢; (first | exact ownsRow_below h hx | (obtain ⟨g9, e9, h9⟩ := h; exact ⟨g9, e9, ownsRow_below h9 hx⟩) | exact HeldE.below h hx | (obtain ⟨v9, e9, h9⟩ := h; exact ⟨v9, e9, HeldE.below h9 hx⟩))
        | 24 => rw [Hrge24.out] at h ⊢; exact h
        | jj + 25 => rw [HrghE.out]; trivial
    simp only [Reg.frame, Reg.dsts, List.map_cons, List.map_nil, Mix.put_lit, List.set_cons_succ, List.set_cons_zero, Nat.zero_add, Nat.reduceAdd] at hFrg
    refine ⟨?_, ?_⟩
    · refine ⟨?_, ?_, ?_, ?_, ?_, ?_, ?_, ?_, ?_, ?_, ?_, ?_, ?_, ?_, ?_, ?_, ?_, ?_, ?_, ?_, ?_, ?_, ?_, ?_, ?_, trivial⟩
      · intro Lq wq xq hh
        simp only [hFrg]
        refine .inl ⟨rfl, ?_⟩
        unfold Reg.upon
        have hk := Hrgk.out 0 Lq wq  hh.cls
        have hx : Xrg 0 wq wq := Hrgx.out wq
        have he : Erg 0 (.slice (some ⟨b, off, none⟩) L.length ca) wq := by rw [Hrge0.out]
        have HK := Lib.hid (And.intro hk (And.intro he hx))
        clear hk hx he
        go_simp
        exact HK.out
      · intro Lq wq xq hh
        simp only [hFrg]
        refine .inl ⟨rfl, ?_⟩
        unfold Reg.upon
        have hk := Hrgk.out 1 Lq wq  hh.cls
        have hx : Xrg 1 wq wq := Hrgx.out wq
        have he : Erg 1 (.bool wrap) wq := by rw [Hrge1.out]
        have HK := Lib.hid (And.intro hk (And.intro he hx))
        clear hk hx he
        go_simp
        exact HK.out
      · intro Lq wq xq hh
        simp only [hFrg]
        refine .inl ⟨rfl, ?_⟩
        unfold Reg.upon
        have hk := Hrgk.out 2 Lq wq  hh.cls
        have hx : Xrg 2 wq wq := Hrgx.out wq
        have he : Erg 2 (.int .i64 k) wq := by rw [Hrge2.out]
        have HK := Lib.hid (And.intro hk (And.intro he hx))
        clear hk hx he
        go_simp
        exact HK.out
      · intro Lq wq xq hh
        simp only [hFrg]
        refine .inl ⟨rfl, ?_⟩
        unfold Reg.upon
        have hk := Hrgk.out 3 Lq wq  hh.cls
        have hx : Xrg 3 wq wq := Hrgx.out wq
        have he : Erg 3 (.slice (some ⟨b, off, none⟩) L.length ca) wq := by rw [Hrge3.out]
        have HK := Lib.hid (And.intro hk (And.intro he hx))
        clear hk hx he
        go_simp
        exact HK.out
      · intro Lq wq xq hh
        simp only [hFrg]
        refine .inl ⟨rfl, ?_⟩
        unfold Reg.upon
        have hk := Hrgk.out 4 Lq wq  hh.cls
        have hx : Xrg 4 wq wq := Hrgx.out wq
        have he : Erg 4 (.int .i64 k) wq := by rw [Hrge4.out]
        have HK := Lib.hid (And.intro hk (And.intro he hx))
        clear hk hx he
        go_simp
        exact HK.out
      · intro Lq wq xq hh
        have d3 : Erg 3 (xq 3) wq := hh.val 3 (by kernel_rfl) (by kernel_rfl)
        rw [Hrge3.out] at d3
        have d4 : Erg 4 (xq 4) wq := hh.val 4 (by kernel_rfl) (by kernel_rfl)
        rw [Hrge4.out] at d4
        simp only [hFrg, d3, d4]
        clear d3 d4
        refine .inl ⟨rfl, ?_⟩
        unfold Reg.upon
        have hk := Hrgk.out 5 Lq wq  hh.cls
        have hx : Xrg 5 wq wq := Hrgx.out wq
        have he : Erg 5 (.pointer (some ⟨b, off + k * 2, none⟩)) wq := by rw [Hrge5.out]
        have HK := Lib.hid (And.intro hk (And.intro he hx))
        clear hk hx he
        go_simp
        exact HK.out
      · intro Lq wq xq hh
        have d5 : Erg 5 (xq 5) wq := hh.val 5 (by kernel_rfl) (by kernel_rfl)
        rw [Hrge5.out] at d5
        simp only [hFrg, d5]
        clear d5
        refine .inl ⟨rfl, ?_⟩
        unfold Reg.upon
        have hk := Hrgk.out 6 Lq wq  hh.cls
        have hx : Xrg 6 wq wq := Hrgx.out wq
        have he : Erg 6 (.pointer (some ⟨b, off + k * 2, none⟩)) wq := by rw [Hrge6.out]
        have HK := Lib.hid (And.intro hk (And.intro he hx))
        clear hk hx he
        go_simp
        exact HK.out
      · intro Lq wq xq hh
        have d6 : Erg 6 (xq 6) wq := hh.val 6 (by kernel_rfl) (by kernel_rfl)
        rw [Hrge6.out] at d6
        simp only [hFrg, d6]
        clear d6
        refine .inl ⟨rfl, ?_⟩
        unfold Reg.upon
        have hc : Crg Lq wq := hh.cls
        rw [HrghC.out] at hc
        have h7 := (hc.cell (p := ⟨b, off + k * 2, none⟩) hb).trans HC0.out
        clear hc
        have hk := Hrgk.out 7 Lq wq  hh.cls
        have hx : Xrg 7 wq wq := Hrgx.out wq
        have he : Erg 7 (.int .i64 K) wq := by rw [Hrge7.out]
        have HK := Lib.hid (And.intro hk (And.intro he hx))
        clear hk hx he
        go_simp
        exact HK.out
      · intro Lq wq xq hh
        simp only [hFrg]
        refine .inl ⟨rfl, ?_⟩
        unfold Reg.upon
        go_simp
        have hb1 := (Below.refl wq.heap.size wq).alloc (Nat.le_refl _) (.cells #[] 21)
        refine ⟨Hrgk.out 8 Lq _ (Hrgb.out Lq wq _ hh.cls hb1), ?_, Hrgxb.out wq _ hb1⟩
        rw [Hrge8.out]
        exact ⟨_, rfl, World.ownsRow_lit wq #[] 0 (by have hc : Crg Lq wq := hh.cls; rw [HrghC.out] at hc; exact hc.size) (by decide) rfl⟩
      · intro Lq wq xq hh
        simp only [hFrg]
        refine .inl ⟨rfl, ?_⟩
        unfold Reg.upon
        have hk := Hrgk.out 9 Lq wq  hh.cls
        have hx : Xrg 9 wq wq := Hrgx.out wq
        have he : Erg 9 (.slice (some ⟨b, off, none⟩) L.length ca) wq := by rw [Hrge9.out]
        have HK := Lib.hid (And.intro hk (And.intro he hx))
        clear hk hx he
        go_simp
        exact HK.out
      · intro Lq wq xq hh
        simp only [hFrg]
        refine .inl ⟨rfl, ?_⟩
        unfold Reg.upon
        have hk := Hrgk.out 10 Lq wq  hh.cls
        have hx : Xrg 10 wq wq := Hrgx.out wq
        have he : Erg 10 (.int .i64 k) wq := by rw [Hrge10.out]
        have HK := Lib.hid (And.intro hk (And.intro he hx))
        clear hk hx he
        go_simp
        exact HK.out
      · intro Lq wq xq hh
        have d9 : Erg 9 (xq 9) wq := hh.val 9 (by kernel_rfl) (by kernel_rfl)
        rw [Hrge9.out] at d9
        have d10 : Erg 10 (xq 10) wq := hh.val 10 (by kernel_rfl) (by kernel_rfl)
        rw [Hrge10.out] at d10
        simp only [hFrg, d9, d10]
        clear d9 d10
        refine .inl ⟨rfl, ?_⟩
        unfold Reg.upon
        have hk := Hrgk.out 11 Lq wq  hh.cls
        have hx : Xrg 11 wq wq := Hrgx.out wq
        have he : Erg 11 (.pointer (some ⟨b, off + k * 2, none⟩)) wq := by rw [Hrge11.out]
        have HK := Lib.hid (And.intro hk (And.intro he hx))
        clear hk hx he
        go_simp
        exact HK.out
      · intro Lq wq xq hh
        have d11 : Erg 11 (xq 11) wq := hh.val 11 (by kernel_rfl) (by kernel_rfl)
        rw [Hrge11.out] at d11
        simp only [hFrg, d11]
        clear d11
        refine .inl ⟨rfl, ?_⟩
        unfold Reg.upon
        have hk := Hrgk.out 12 Lq wq  hh.cls
        have hx : Xrg 12 wq wq := Hrgx.out wq
        have he : Erg 12 (.pointer (some ⟨b, off + k * 2 + 1, none⟩)) wq := by rw [Hrge12.out]
        have HK := Lib.hid (And.intro hk (And.intro he hx))
        clear hk hx he
        go_simp
        exact HK.out
      · intro Lq wq xq hh
        have d12 : Erg 12 (xq 12) wq := hh.val 12 (by kernel_rfl) (by kernel_rfl)
        rw [Hrge12.out] at d12
        simp only [hFrg, d12]
        clear d12
        refine .inl ⟨rfl, ?_⟩
        unfold Reg.upon
        have hc : Crg Lq wq := hh.cls
        rw [HrghC.out] at hc
        have h13 := (hc.cell (p := ⟨b, off + k * 2 + 1, none⟩) hb).trans HC1.out
        clear hc
        have hk := Hrgk.out 13 Lq wq  hh.cls
        have hx : Xrg 13 wq wq := Hrgx.out wq
        have he : Erg 13 (.slice tta T.length tcc) wq := by rw [Hrge13.out]
        have HK := Lib.hid (And.intro hk (And.intro he hx))
        clear hk hx he
        go_simp
        exact HK.out
      · intro Lq wq xq hh
        have d8 : Erg 8 (xq 8) wq := hh.val 8 (by kernel_rfl) (by kernel_rfl)
        rw [Hrge8.out] at d8
        have d13 : Erg 13 (xq 13) wq := hh.val 13 (by kernel_rfl) (by kernel_rfl)
        rw [Hrge13.out] at d13
        simp only [hFrg, d13]
        clear d13
        refine .inl ⟨rfl, ?_⟩
        unfold Reg.upon
        obtain ⟨g9, e9, h9⟩ := d8
        rw [e9]
        have hc : Crg Lq wq := hh.cls
        rw [HrghC.out] at hc
        obtain ⟨v', w', hr, h2, hb1⟩ := int_copy wq _ 25 g9 h9 _ T (HHT.out.below hc) (by omega) (by omega) hc.size
        rw [exec_app rfl rfl rfl hr]
        refine ⟨Hrgk.out 14 Lq _ (Hrgb.out Lq wq _ hh.cls hb1), ?_, Hrgxb.out wq _ hb1⟩
        rw [Hrge14.out]
        exact h2
      · intro Lq wq xq hh
        simp only [hFrg]
        refine .inl ⟨rfl, ?_⟩
        unfold Reg.upon
        have hk := Hrgk.out 15 Lq wq  hh.cls
        have hx : Xrg 15 wq wq := Hrgx.out wq
        have he : Erg 15 (.int .i32 x') wq := by rw [Hrge15.out]
        have HK := Lib.hid (And.intro hk (And.intro he hx))
        clear hk hx he
        go_simp
        exact HK.out
      · intro Lq wq xq hh
        have d15 : Erg 15 (xq 15) wq := hh.val 15 (by kernel_rfl) (by kernel_rfl)
        rw [Hrge15.out] at d15
        simp only [hFrg, d15]
        clear d15
        refine .inl ⟨rfl, ?_⟩
        unfold Reg.upon
        go_simp
        have hb1 := (Below.refl wq.heap.size wq).alloc (Nat.le_refl _) (.cells #[.int .i32 x'] 21)
        refine ⟨Hrgk.out 16 Lq _ (Hrgb.out Lq wq _ hh.cls hb1), ?_, Hrgxb.out wq _ hb1⟩
        rw [Hrge16.out]
        exact ⟨_, rfl, World.ownsRow_lit wq #[.int .i32 x'] 1 (by have hc : Crg Lq wq := hh.cls; rw [HrghC.out] at hc; exact hc.size) (by decide) rfl⟩
      · intro Lq wq xq hh
        have d14 : Erg 14 (xq 14) wq := hh.val 14 (by kernel_rfl) (by kernel_rfl)
        rw [Hrge14.out] at d14
        have d16 : Erg 16 (xq 16) wq := hh.val 16 (by kernel_rfl) (by kernel_rfl)
        rw [Hrge16.out] at d16
        simp only [hFrg]
        refine .inl ⟨rfl, ?_⟩
        unfold Reg.upon
        obtain ⟨g9, e9, h9⟩ := d16
        rw [e9]
        have hc : Crg Lq wq := hh.cls
        rw [HrghC.out] at hc
        obtain ⟨v', w', hr, h2, hgr, hk⟩ := int_append wq _ 25 _ T x' d14 g9 h9 (by omega) hc.size
        rw [exec_app rfl rfl rfl hr]
        refine ⟨Hrgk.out 17 Lq _ (by rw [HrghC.out]; exact hc.trans ((Below.refl w.heap.size wq).grown hgr hc.size fun k hk => (d14.lt k hk).1)), ?_, by rw [HrghX.out]; exact hk⟩
        rw [Hrge17.out]
        exact h2
      · intro Lq wq xq hh
        have d7 : Erg 7 (xq 7) wq := hh.val 7 (by kernel_rfl) (by kernel_rfl)
        rw [Hrge7.out] at d7
        have d17 : Erg 17 (xq 17) wq := hh.val 17 (by kernel_rfl) (by kernel_rfl)
        rw [Hrge17.out] at d17
        simp only [hFrg, d7]
        clear d7
        refine .inl ⟨rfl, ?_⟩
        unfold Reg.upon
        have hc : Crg Lq wq := hh.cls
        rw [HrghC.out] at hc
        have hv18 := HeldE.ownedInts (xs := T ++ [x']) (n := T.length + 1) (by simpa using d17)
        go_simp
        refine (rcof_new Z _ K _ (T ++ [x']) wq (fun b h => HZ.out b (Nat.le_trans hc.size h)) hv18).mono ?_
        rintro e w2 ⟨v2, rfl, ho, hb2⟩
        refine ⟨_, rfl, Hrgk.out 18 Lq w2 (Hrgb.out Lq wq w2 hh.cls hb2), ?_, Hrgxb.out wq w2 hb2⟩
        rw [Hrge18.out]
        exact ho.held (fun b h _ => HZ.out b (Nat.le_trans hc.size h))
      · intro Lq wq xq hh
        have d0 : Erg 0 (xq 0) wq := hh.val 0 (by kernel_rfl) (by kernel_rfl)
        rw [Hrge0.out] at d0
        have d1 : Erg 1 (xq 1) wq := hh.val 1 (by kernel_rfl) (by kernel_rfl)
        rw [Hrge1.out] at d1
        have d2 : Erg 2 (xq 2) wq := hh.val 2 (by kernel_rfl) (by kernel_rfl)
        rw [Hrge2.out] at d2
        have d18 : Erg 18 (xq 18) wq := hh.val 18 (by kernel_rfl) (by kernel_rfl)
        rw [Hrge18.out] at d18
        simp only [hFrg, d0, d1, d2]
        clear d0 d1 d2
        refine .inl ⟨rfl, ?_⟩
        unfold Reg.upon
        have hc : Crg Lq wq := hh.cls
        rw [HrghC.out] at hc
        go_simp
        refine (HPA.out _ wq hc d18).mono ?_
        rintro e w2 ⟨v2, rfl, ho, hb2⟩
        refine ⟨_, rfl, Hrgk.out 19 Lq w2 (Hrgb.out Lq wq w2 hh.cls hb2), ?_, Hrgxb.out wq w2 hb2⟩
        rw [Hrge19.out]
        exact ⟨_, rfl, ho.held (fun b h _ => HZ.out b (Nat.le_trans hc.size h))⟩
      · intro Lq wq xq hh
        have d19 : Erg 19 (xq 19) wq := hh.val 19 (by kernel_rfl) (by kernel_rfl)
        rw [Hrge19.out] at d19
        simp only [hFrg]
        refine .inl ⟨rfl, ?_⟩
        unfold Reg.upon
        go_simp
        exact ⟨Hrgk.out 20 Lq wq hh.cls, (by rw [Hrge20.out]; exact d19), Hrgx.out _⟩
      · intro Lq wq xq hh
        have d20 : Erg 20 (xq 20) wq := hh.val 20 (by kernel_rfl) (by kernel_rfl)
        rw [Hrge20.out] at d20
        simp only [hFrg]
        refine .inl ⟨rfl, ?_⟩
        unfold Reg.upon
        obtain ⟨v9, e9, h9⟩ := d20
        rw [e9]
        go_simp
        exact ⟨Hrgk.out 21 Lq wq hh.cls, (by rw [Hrge21.out]; exact h9), Hrgx.out _⟩
      · intro Lq wq xq hh
        have d20 : Erg 20 (xq 20) wq := hh.val 20 (by kernel_rfl) (by kernel_rfl)
        rw [Hrge20.out] at d20
        simp only [hFrg]
        refine .inl ⟨rfl, ?_⟩
        unfold Reg.upon
        obtain ⟨v9, e9, h9⟩ := d20
        rw [e9]
        go_simp
        exact ⟨Hrgk.out 22 Lq wq hh.cls, (by rw [Hrge22.out]), Hrgx.out _⟩
      · intro Lq wq xq hh
        have d21 : Erg 21 (xq 21) wq := hh.val 21 (by kernel_rfl) (by kernel_rfl)
        rw [Hrge21.out] at d21
        simp only [hFrg]
        refine .inl ⟨rfl, ?_⟩
        unfold Reg.upon
        go_simp
        exact ⟨Hrgk.out 23 Lq wq hh.cls, (by rw [Hrge23.out]; exact d21), Hrgx.out _⟩
      · intro Lq wq xq hh
        have d22 : Erg 22 (xq 22) wq := hh.val 22 (by kernel_rfl) (by kernel_rfl)
        rw [Hrge22.out] at d22
        simp only [hFrg, d22]
        clear d22
        refine .inl ⟨rfl, ?_⟩
        unfold Reg.upon
        have hk := Hrgk.out 24 Lq wq  hh.cls
        have hx : Xrg 24 wq wq := Hrgx.out wq
        have he : Erg 24 (.bool q2) wq := by rw [Hrge24.out]
        have HK := Lib.hid (And.intro hk (And.intro he hx))
        clear hk hx he
        go_simp
        exact HK.out
    intro xq wrg hcrg hvrg
    rw [HrghC.out] at hcrg
    simp only [hFrg]
    have vrg23 : Erg 23 (xq 23) wrg := hvrg 23 (by decide)
    rw [Hrge23.out] at vrg23
    have vrg24 : Erg 24 (xq 24) wrg := hvrg 24 (by decide)
    rw [Hrge24.out] at vrg24
    rw [vrg24]
    clear hvrg hFrg Hrgk Hrgx HrghE Hrgc HrghC HrghX Hrgb Hrgxb Hrge0 Hrge1 Hrge2 Hrge3 Hrge4 Hrge5 Hrge6 Hrge7 Hrge8 Hrge9 Hrge10 Hrge11 Hrge12 Hrge13 Hrge14 Hrge15 Hrge16 Hrge17 Hrge18 Hrge19 Hrge20 Hrge21 Hrge22 Hrge23 Hrge24
    obtain ⟨v6, hv6⟩ : ∃ v6, v6 = xq 23 := ⟨_, rfl⟩
    rw [← hv6] at vrg23 ⊢
    have HF := Lib.hid (And.intro vrg23 hcrg)
    obtain ⟨fo, fc, hfe⟩ := vrg23.len
    subst hfe
    clear vrg23 vrg24 hcrg hv6
    go_wp2
    go_ret3
    rw [HE.out]
    exact ⟨.slice fo L2.length fc, rfl, HF.out.1, HF.out.2⟩
  | false =>
    have hxx : x' = 65533 := by rw [HXV.out]; unfold repl; rw [if_neg (by rw [hvx]; decide)]
    subst hxx
    have HVX := Lib.hid hvx
    clear hvx HXV
    go_enter Tryd.func29, Tryd.ntmps29
    go_wp2_with fail
    refine HA.out.mono ?_
    rintro e w1 ⟨rfl, rfl⟩
    go_wp2_with fail
    refine (refvalid_any _ _).mono ?_
    rintro e w' ⟨rfl, rfl⟩
    rw [HVX.out]
    go_upto_region 6 with (fail)
    obtain ⟨Erg, hErg⟩ : ∃ EE : Nat → Value → World → Prop, EE = fun jj xx ww => match jj with
        | 0 => xx = .slice (some ⟨b, off, none⟩) L.length ca
        | 1 => xx = .bool wrap
        | 2 => xx = .int .i64 k
        | 3 => xx = .slice (some ⟨b, off, none⟩) L.length ca
        | 4 => xx = .int .i64 k
        | 5 => xx = .pointer (some ⟨b, off + k * 2, none⟩)
        | 6 => xx = .pointer (some ⟨b, off + k * 2, none⟩)
        | 7 => xx = .int .i64 K
        | 8 => (fun y w' => ∃ g9, y = .slice (some ⟨g9, 0, none⟩) 0 0 ∧ w'.ownsRow w.heap.size 21 1 (.slice (some ⟨g9, 0, none⟩) 0 0) 0 []) xx ww
        | 9 => xx = .slice (some ⟨b, off, none⟩) L.length ca
        | 10 => xx = .int .i64 k
        | 11 => xx = .pointer (some ⟨b, off + k * 2, none⟩)
        | 12 => xx = .pointer (some ⟨b, off + k * 2 + 1, none⟩)
        | 13 => xx = .slice tta T.length tcc
        | 14 => (fun y w' => w'.ownsRow w.heap.size 21 1 y T.length (T.map (Value.int .i32))) xx ww
        | 15 => xx = .int .i32 65533
        | 16 => (fun y w' => ∃ g9, y = .slice (some ⟨g9, 0, none⟩) 1 1 ∧ w'.ownsRow w.heap.size 21 1 (.slice (some ⟨g9, 0, none⟩) 1 1) 1 [.int .i32 65533]) xx ww
        | 17 => (fun y w' => w'.ownsRow w.heap.size 21 1 y (T.length + 1) (T.map (Value.int .i32) ++ [.int .i32 65533])) xx ww
        | 18 => (fun y w' => HeldE cellE Z w' y (ofC K (T ++ [(65533 : Int)]))) xx ww
        | 19 => (fun y w' => ∃ v9, y = .tuple #[v9, .bool q2] ∧ HeldE cellE Z w' v9 L2) xx ww
        | 20 => (fun y w' => ∃ v9, y = .tuple #[v9, .bool q2] ∧ HeldE cellE Z w' v9 L2) xx ww
        | 21 => (fun y w' => HeldE cellE Z w' y L2) xx ww
        | 22 => xx = .bool q2
        | 23 => (fun y w' => HeldE cellE Z w' y L2) xx ww
        | 24 => xx = .bool q2
        | _ => True := ⟨_, rfl⟩
    have erg0 : ∀ xx ww, Erg 0 xx ww = (xx = .slice (some ⟨b, off, none⟩) L.length ca) := fun xx ww => congrFun (congrFun (congrFun hErg 0) xx) ww
    have erg1 : ∀ xx ww, Erg 1 xx ww = (xx = .bool wrap) := fun xx ww => congrFun (congrFun (congrFun hErg 1) xx) ww
    have erg2 : ∀ xx ww, Erg 2 xx ww = (xx = .int .i64 k) := fun xx ww => congrFun (congrFun (congrFun hErg 2) xx) ww
    have erg3 : ∀ xx ww, Erg 3 xx ww = (xx = .slice (some ⟨b, off, none⟩) L.length ca) := fun xx ww => congrFun (congrFun (congrFun hErg 3) xx) ww
    have erg4 : ∀ xx ww, Erg 4 xx ww = (xx = .int .i64 k) := fun xx ww => congrFun (congrFun (congrFun hErg 4) xx) ww
    have erg5 : ∀ xx ww, Erg 5 xx ww = (xx = .pointer (some ⟨b, off + k * 2, none⟩)) := fun xx ww => congrFun (congrFun (congrFun hErg 5) xx) ww
    have erg6 : ∀ xx ww, Erg 6 xx ww = (xx = .pointer (some ⟨b, off + k * 2, none⟩)) := fun xx ww => congrFun (congrFun (congrFun hErg 6) xx) ww
    have erg7 : ∀ xx ww, Erg 7 xx ww = (xx = .int .i64 K) := fun xx ww => congrFun (congrFun (congrFun hErg 7) xx) ww
    have erg8 : ∀ xx ww, Erg 8 xx ww = ((fun y w' => ∃ g9, y = .slice (some ⟨g9, 0, none⟩) 0 0 ∧ w'.ownsRow w.heap.size 21 1 (.slice (some ⟨g9, 0, none⟩) 0 0) 0 []) xx ww) := fun xx ww => congrFun (congrFun (congrFun hErg 8) xx) ww
    have erg9 : ∀ xx ww, Erg 9 xx ww = (xx = .slice (some ⟨b, off, none⟩) L.length ca) := fun xx ww => congrFun (congrFun (congrFun hErg 9) xx) ww
    have erg10 : ∀ xx ww, Erg 10 xx ww = (xx = .int .i64 k) := fun xx ww => congrFun (congrFun (congrFun hErg 10) xx) ww
    have erg11 : ∀ xx ww, Erg 11 xx ww = (xx = .pointer (some ⟨b, off + k * 2, none⟩)) := fun xx ww => congrFun (congrFun (congrFun hErg 11) xx) ww
    have erg12 : ∀ xx ww, Erg 12 xx ww = (xx = .pointer (some ⟨b, off + k * 2 + 1, none⟩)) := fun xx ww => congrFun (congrFun (congrFun hErg 12) xx) ww
    have erg13 : ∀ xx ww, Erg 13 xx ww = (xx = .slice tta T.length tcc) := fun xx ww => congrFun (congrFun (congrFun hErg 13) xx) ww
    have erg14 : ∀ xx ww, Erg 14 xx ww = ((fun y w' => w'.ownsRow w.heap.size 21 1 y T.length (T.map (Value.int .i32))) xx ww) := fun xx ww => congrFun (congrFun (congrFun hErg 14) xx) ww
    have erg15 : ∀ xx ww, Erg 15 xx ww = (xx = .int .i32 65533) := fun xx ww => congrFun (congrFun (congrFun hErg 15) xx) ww
    have erg16 : ∀ xx ww, Erg 16 xx ww = ((fun y w' => ∃ g9, y = .slice (some ⟨g9, 0, none⟩) 1 1 ∧ w'.ownsRow w.heap.size 21 1 (.slice (some ⟨g9, 0, none⟩) 1 1) 1 [.int .i32 65533]) xx ww) := fun xx ww => congrFun (congrFun (congrFun hErg 16) xx) ww
    have erg17 : ∀ xx ww, Erg 17 xx ww = ((fun y w' => w'.ownsRow w.heap.size 21 1 y (T.length + 1) (T.map (Value.int .i32) ++ [.int .i32 65533])) xx ww) := fun xx ww => congrFun (congrFun (congrFun hErg 17) xx) ww
    have erg18 : ∀ xx ww, Erg 18 xx ww = ((fun y w' => HeldE cellE Z w' y (ofC K (T ++ [(65533 : Int)]))) xx ww) := fun xx ww => congrFun (congrFun (congrFun hErg 18) xx) ww
    have erg19 : ∀ xx ww, Erg 19 xx ww = ((fun y w' => ∃ v9, y = .tuple #[v9, .bool q2] ∧ HeldE cellE Z w' v9 L2) xx ww) := fun xx ww => congrFun (congrFun (congrFun hErg 19) xx) ww
    have erg20 : ∀ xx ww, Erg 20 xx ww = ((fun y w' => ∃ v9, y = .tuple #[v9, .bool q2] ∧ HeldE cellE Z w' v9 L2) xx ww) := fun xx ww => congrFun (congrFun (congrFun hErg 20) xx) ww
    have erg21 : ∀ xx ww, Erg 21 xx ww = ((fun y w' => HeldE cellE Z w' y L2) xx ww) := fun xx ww => congrFun (congrFun (congrFun hErg 21) xx) ww
    have erg22 : ∀ xx ww, Erg 22 xx ww = (xx = .bool q2) := fun xx ww => congrFun (congrFun (congrFun hErg 22) xx) ww
    have erg23 : ∀ xx ww, Erg 23 xx ww = ((fun y w' => HeldE cellE Z w' y L2) xx ww) := fun xx ww => congrFun (congrFun (congrFun hErg 23) xx) ww
    have erg24 : ∀ xx ww, Erg 24 xx ww = (xx = .bool q2) := fun xx ww => congrFun (congrFun (congrFun hErg 24) xx) ww
    obtain ⟨Crg, hCrg⟩ : ∃ CC : Array Bool → World → Prop, CC = fun L8 w' => Below w.heap.size w w' := ⟨_, rfl⟩
    have krg : ∀ i L w,  Crg L w → Crg (L.setIfInBounds i true) w := by
      intro i L w  h
      rw [hCrg] at h ⊢
      exact h
    obtain ⟨Xrg, hXrg⟩ : ∃ XX : Nat → World → World → Prop, XX = fun kk ww1 ww2 => if kk = 17 then (fun y z => Kept y z w.heap.size 21 1 (T.map (Value.int .i32) ++ [.int .i32 65533]) [.int .i32 65533] 1) ww1 ww2 else (fun y z => Below y.heap.size y z) ww1 ww2 := ⟨_, rfl⟩
    have xrg : ∀ {k : Nat} (w : World), Xrg k w w := by
      intro k w
      rw [hXrg]
      show if k = 17 then _ else _
      split
      · exact Kept.refl _ _ _ _ _ _ _
      · exact Below.refl _ _
    have crg : Crg (Array.replicate 25 false) w.drew := by rw [hCrg]; exact (Below.refl _ _).drew
    have brg : ∀ L w w1, Crg L w → Below w.heap.size w w1 → Crg L w1 := by
      intro L w w1 h hb
      rw [hCrg] at h ⊢
      exact h.trans (hb.mono h.size)
    have xbrg : ∀ {k : Nat} (w w1 : World), Below w.heap.size w w1 → Xrg k w w1 := by
      intro k w w1 hb
      rw [hXrg]
      show if k = 17 then _ else _
      split
      · exact Kept.below hb _ _ _ _ _ _
      · exact hb
    have Hrgb := Lib.hid brg
    have Hrgxb : Go.RowKit.Hid (∀ {k : Nat} (w w1 : World), Below w.heap.size w w1 → Xrg k w w1) := @xbrg
    clear brg xbrg
    have HrghE := Lib.hid hErg
    clear hErg
    have Hrgk := Lib.hid krg
    have Hrgx : Go.RowKit.Hid (∀ {k : Nat} (w : World), Xrg k w w) := @xrg
    have Hrgc := Lib.hid crg
    have HrghC := Lib.hid hCrg
    have HrghX := Lib.hid hXrg
    have Hrge0 := Lib.hid erg0
    have Hrge1 := Lib.hid erg1
    have Hrge2 := Lib.hid erg2
    have Hrge3 := Lib.hid erg3
    have Hrge4 := Lib.hid erg4
    have Hrge5 := Lib.hid erg5
    have Hrge6 := Lib.hid erg6
    have Hrge7 := Lib.hid erg7
    have Hrge8 := Lib.hid erg8
    have Hrge9 := Lib.hid erg9
    have Hrge10 := Lib.hid erg10
    have Hrge11 := Lib.hid erg11
    have Hrge12 := Lib.hid erg12
    have Hrge13 := Lib.hid erg13
    have Hrge14 := Lib.hid erg14
    have Hrge15 := Lib.hid erg15
    have Hrge16 := Lib.hid erg16
    have Hrge17 := Lib.hid erg17
    have Hrge18 := Lib.hid erg18
    have Hrge19 := Lib.hid erg19
    have Hrge20 := Lib.hid erg20
    have Hrge21 := Lib.hid erg21
    have Hrge22 := Lib.hid erg22
    have Hrge23 := Lib.hid erg23
    have Hrge24 := Lib.hid erg24
    clear krg xrg crg hCrg hXrg erg0 erg1 erg2 erg3 erg4 erg5 erg6 erg7 erg8 erg9 erg10 erg11 erg12 erg13 erg14 erg15 erg16 erg17 erg18 erg19 erg20 erg21 erg22 erg23 erg24
    go_wp2_with fail
    refine RegX.regionF Erg Crg Xrg ?_ (by kernel_rfl) (by kernel_rfl) (by kernel_rfl) Hrgc.out (fun Frg hFrg => ?_)
    · intro ii jj x w w1 hr hx h
      rw [HrghX.out] at hx
      by_cases hi : ii = 17
      · subst hi
        simp only [if_pos] at hx
        match jj with
        | 0 => rw [Hrge0.out] at h ⊢; exact h
        | 1 => rw [Hrge1.out] at h ⊢; exact h
        | 2 => rw [Hrge2.out] at h ⊢; exact h
        | 3 => rw [Hrge3.out] at h ⊢; exact h
        | 4 => rw [Hrge4.out] at h ⊢; exact h
        | 5 => rw [Hrge5.out] at h ⊢; exact h
        | 6 => rw [Hrge6.out] at h ⊢; exact h
        | 7 => rw [Hrge7.out] at h ⊢; exact h
        | 8 => rw [Hrge8.out] at h ⊢; (first | exact hx.1 _ _ _ h (List.prefix_refl _) | exact hx.1 _ _ _ h (List.prefix_append _ _) | (obtain ⟨g9, e9, h9⟩ := h; exact ⟨g9, e9, hx.1 _ _ _ h9 (List.nil_prefix)⟩) | (obtain ⟨g9, e9, h9⟩ := h; exact ⟨g9, e9, hx.2 _ h9⟩))
        | 9 => rw [Hrge9.out] at h ⊢; exact h
        | 10 => rw [Hrge10.out] at h ⊢; exact h
        | 11 => rw [Hrge11.out] at h ⊢; exact h
        | 12 => rw [Hrge12.out] at h ⊢; exact h
        | 13 => rw [Hrge13.out] at h ⊢; exact h
        | 14 => rw [Hrge14.out] at h ⊢; (first | exact hx.1 _ _ _ h (List.prefix_refl _) | exact hx.1 _ _ _ h (List.prefix_append _ _) | (obtain ⟨g9, e9, h9⟩ := h; exact ⟨g9, e9, hx.1 _ _ _ h9 (List.nil_prefix)⟩) | (obtain ⟨g9, e9, h9⟩ := h; exact ⟨g9, e9, hx.2 _ h9⟩))
        | 15 => rw [Hrge15.out] at h ⊢; exact h
        | 16 => rw [Hrge16.out] at h ⊢; (first | exact hx.1 _ _ _ h (List.prefix_refl _) | exact hx.1 _ _ _ h (List.prefix_append _ _) | (obtain ⟨g9, e9, h9⟩ := h; exact ⟨g9, e9, hx.1 _ _ _ h9 (List.nil_prefix)⟩) | (obtain ⟨g9, e9, h9⟩ := h; exact ⟨g9, e9, hx.2 _ h9⟩))
        | 17 => rw [Hrge17.out] at h ⊢; (first | exact hx.1 _ _ _ h (List.prefix_refl _) | exact hx.1 _ _ _ h (List.prefix_append _ _) | (obtain ⟨g9, e9, h9⟩ := h; exact ⟨g9, e9, hx.1 _ _ _ h9 (List.nil_prefix)⟩) | (obtain ⟨g9, e9, h9⟩ := h; exact ⟨g9, e9, hx.2 _ h9⟩))
        | 18 => exact absurd (hr.symm.trans (show Reg.reach _ 6 18 17 = true from by kernel_rfl)) (by decide)
        | 19 => exact absurd (hr.symm.trans (show Reg.reach _ 6 19 17 = true from by kernel_rfl)) (by decide)
        | 20 => exact absurd (hr.symm.trans (show Reg.reach _ 6 20 17 = true from by kernel_rfl)) (by decide)
        | 21 => exact absurd (hr.symm.trans (show Reg.reach _ 6 21 17 = true from by kernel_rfl)) (by decide)
        | 22 => rw [Hrge22.out] at h ⊢; exact h
        | 23 => exact absurd (hr.symm.trans (show Reg.reach _ 6 23 17 = true from by kernel_rfl)) (by decide)
        | 24 => rw [Hrge24.out] at h ⊢; exact h
        | jj + 25 => rw [HrghE.out]; trivial
      · simp only [if_neg hi] at hx
        match jj with
        | 0 => rw [Hrge0.out] at h ⊢; exact h
        | 1 => rw [Hrge1.out] at h ⊢; exact h
        | 2 => rw [Hrge2.out] at h ⊢; exact h
        | 3 => rw [Hrge3.out] at h ⊢; exact h
        | 4 => rw [Hrge4.out] at h ⊢; exact h
        | 5 => rw [Hrge5.out] at h ⊢; exact h
        | 6 => rw [Hrge6.out] at h ⊢; exact h
        | 7 => rw [Hrge7.out] at h ⊢; exact h
        | 8 => rw [Hrge8.out] at h ⊢; (first | exact ownsRow_below h hx | (obtain ⟨g9, e9, h9⟩ := h; exact ⟨g9, e9, ownsRow_below h9 hx⟩) | exact HeldE.below h hx | (obtain ⟨v9, e9, h9⟩ := h; exact ⟨v9, e9, HeldE.below h9 hx⟩))
        | 9 => rw [Hrge9.out] at h ⊢; exact h
        | 10 => rw [Hrge10.out] at h ⊢; exact h
        | 11 => rw [Hrge11.out] at h ⊢; exact h
        | 12 => rw [Hrge12.out] at h ⊢; exact h
        | 13 => rw [Hrge13.out] at h ⊢; exact h
        | 14 => rw [Hrge14.out] at h ⊢; (first | exact ownsRow_below h hx | (obtain ⟨g9, e9, h9⟩ := h; exact ⟨g9, e9, ownsRow_below h9 hx⟩) | exact HeldE.below h hx | (obtain ⟨v9, e9, h9⟩ := h; exact ⟨v9, e9, HeldE.below h9 hx⟩))
        | 15 => rw [Hrge15.out] at h ⊢; exact h
        | 16 => rw [Hrge16.out] at h ⊢; (first | exact ownsRow_below h hx | (obtain ⟨g9, e9, h9⟩ := h; exact ⟨g9, e9, ownsRow_below h9 hx⟩) | exact HeldE.below h hx | (obtain ⟨v9, e9, h9⟩ := h; exact ⟨v9, e9, HeldE.below h9 hx⟩))
        | 17 => rw [Hrge17.out] at h ⊢; (first | exact ownsRow_below h hx | (obtain ⟨g9, e9, h9⟩ := h; exact ⟨g9, e9, ownsRow_below h9 hx⟩) | exact HeldE.below h hx | (obtain ⟨v9, e9, h9⟩ := h; exact ⟨v9, e9, HeldE.below h9 hx⟩))
        | 18 => rw [Hrge18.out] at h ⊢; (first | exact ownsRow_below h hx | (obtain ⟨g9, e9, h9⟩ := h; exact ⟨g9, e9, ownsRow_below h9 hx⟩) | exact HeldE.below h hx | (obtain ⟨v9, e9, h9⟩ := h; exact ⟨v9, e9, HeldE.below h9 hx⟩))
        | 19 => rw [Hrge19.out] at h ⊢; (first | exact ownsRow_below h hx | (obtain ⟨g9, e9, h9⟩ := h; exact ⟨g9, e9, ownsRow_below h9 hx⟩) | exact HeldE.below h hx | (obtain ⟨v9, e9, h9⟩ := h; exact ⟨v9, e9, HeldE.below h9 hx⟩))
        | 20 => rw [Hrge20.out] at h ⊢; (first | exact ownsRow_below h hx | (obtain ⟨g9, e9, h9⟩ := h; exact ⟨g9, e9, ownsRow_below h9 hx⟩) | exact HeldE.below h hx | (obtain ⟨v9, e9, h9⟩ := h; exact ⟨v9, e9, HeldE.below h9 hx⟩))
        | 21 => rw [Hrge21.out] at h ⊢; (first | exact ownsRow_below h hx | (obtain ⟨g9, e9, h9⟩ := h; exact ⟨g9, e9, ownsRow_below h9 hx⟩) | exact HeldE.below h hx | (obtain ⟨v9, e9, h9⟩ := h; exact ⟨v9, e9, HeldE.below h9 hx⟩))
        | 22 => rw [Hrge22.out] at h ⊢; exact h
        | 23 => rw [Hrge23.out] at h ⊢; (first | exact ownsRow_below h hx | (obtain ⟨g9, e9, h9⟩ := h; exact ⟨g9, e9, ownsRow_below h9 hx⟩) | exact HeldE.below h hx | (obtain ⟨v9, e9, h9⟩ := h; exact ⟨v9, e9, HeldE.below h9 hx⟩))
        | 24 => rw [Hrge24.out] at h ⊢; exact h
        | jj + 25 => rw [HrghE.out]; trivial
    simp only [Reg.frame, Reg.dsts, List.map_cons, List.map_nil, Mix.put_lit, List.set_cons_succ, List.set_cons_zero, Nat.zero_add, Nat.reduceAdd] at hFrg
    refine ⟨?_, ?_⟩
    · refine ⟨?_, ?_, ?_, ?_, ?_, ?_, ?_, ?_, ?_, ?_, ?_, ?_, ?_, ?_, ?_, ?_, ?_, ?_, ?_, ?_, ?_, ?_, ?_, ?_, ?_, trivial⟩
      · intro Lq wq xq hh
        simp only [hFrg]
        refine .inl ⟨rfl, ?_⟩
        unfold Reg.upon
        have hk := Hrgk.out 0 Lq wq  hh.cls
        have hx : Xrg 0 wq wq := Hrgx.out wq
        have he : Erg 0 (.slice (some ⟨b, off, none⟩) L.length ca) wq := by rw [Hrge0.out]
        have HK := Lib.hid (And.intro hk (And.intro he hx))
        clear hk hx he
        go_simp
        exact HK.out
      · intro Lq wq xq hh
        simp only [hFrg]
        refine .inl ⟨rfl, ?_⟩
        unfold Reg.upon
        have hk := Hrgk.out 1 Lq wq  hh.cls
        have hx : Xrg 1 wq wq := Hrgx.out wq
        have he : Erg 1 (.bool wrap) wq := by rw [Hrge1.out]
        have HK := Lib.hid (And.intro hk (And.intro he hx))
        clear hk hx he
        go_simp
        exact HK.out
      · intro Lq wq xq hh
        simp only [hFrg]
        refine .inl ⟨rfl, ?_⟩
        unfold Reg.upon
        have hk := Hrgk.out 2 Lq wq  hh.cls
        have hx : Xrg 2 wq wq := Hrgx.out wq
        have he : Erg 2 (.int .i64 k) wq := by rw [Hrge2.out]
        have HK := Lib.hid (And.intro hk (And.intro he hx))
        clear hk hx he
        go_simp
        exact HK.out
      · intro Lq wq xq hh
        simp only [hFrg]
        refine .inl ⟨rfl, ?_⟩
        unfold Reg.upon
        have hk := Hrgk.out 3 Lq wq  hh.cls
        have hx : Xrg 3 wq wq := Hrgx.out wq
        have he : Erg 3 (.slice (some ⟨b, off, none⟩) L.length ca) wq := by rw [Hrge3.out]
        have HK := Lib.hid (And.intro hk (And.intro he hx))
        clear hk hx he
        go_simp
        exact HK.out
      · intro Lq wq xq hh
        simp only [hFrg]
        refine .inl ⟨rfl, ?_⟩
        unfold Reg.upon
        have hk := Hrgk.out 4 Lq wq  hh.cls
        have hx : Xrg 4 wq wq := Hrgx.out wq
        have he : Erg 4 (.int .i64 k) wq := by rw [Hrge4.out]
        have HK := Lib.hid (And.intro hk (And.intro he hx))
        clear hk hx he
        go_simp
        exact HK.out
      · intro Lq wq xq hh
        have d3 : Erg 3 (xq 3) wq := hh.val 3 (by kernel_rfl) (by kernel_rfl)
        rw [Hrge3.out] at d3
        have d4 : Erg 4 (xq 4) wq := hh.val 4 (by kernel_rfl) (by kernel_rfl)
        rw [Hrge4.out] at d4
        simp only [hFrg, d3, d4]
        clear d3 d4
        refine .inl ⟨rfl, ?_⟩
        unfold Reg.upon
        have hk := Hrgk.out 5 Lq wq  hh.cls
        have hx : Xrg 5 wq wq := Hrgx.out wq
        have he : Erg 5 (.pointer (some ⟨b, off + k * 2, none⟩)) wq := by rw [Hrge5.out]
        have HK := Lib.hid (And.intro hk (And.intro he hx))
        clear hk hx he
        go_simp
        exact HK.out
      · intro Lq wq xq hh
        have d5 : Erg 5 (xq 5) wq := hh.val 5 (by kernel_rfl) (by kernel_rfl)
        rw [Hrge5.out] at d5
        simp only [hFrg, d5]
        clear d5
        refine .inl ⟨rfl, ?_⟩
        unfold Reg.upon
        have hk := Hrgk.out 6 Lq wq  hh.cls
        have hx : Xrg 6 wq wq := Hrgx.out wq
        have he : Erg 6 (.pointer (some ⟨b, off + k * 2, none⟩)) wq := by rw [Hrge6.out]
        have HK := Lib.hid (And.intro hk (And.intro he hx))
        clear hk hx he
        go_simp
        exact HK.out
      · intro Lq wq xq hh
        have d6 : Erg 6 (xq 6) wq := hh.val 6 (by kernel_rfl) (by kernel_rfl)
        rw [Hrge6.out] at d6
        simp only [hFrg, d6]
        clear d6
        refine .inl ⟨rfl, ?_⟩
        unfold Reg.upon
        have hc : Crg Lq wq := hh.cls
        rw [HrghC.out] at hc
        have h7 := (hc.cell (p := ⟨b, off + k * 2, none⟩) hb).trans HC0.out
        clear hc
        have hk := Hrgk.out 7 Lq wq  hh.cls
        have hx : Xrg 7 wq wq := Hrgx.out wq
        have he : Erg 7 (.int .i64 K) wq := by rw [Hrge7.out]
        have HK := Lib.hid (And.intro hk (And.intro he hx))
        clear hk hx he
        go_simp
        exact HK.out
      · intro Lq wq xq hh
        simp only [hFrg]
        refine .inl ⟨rfl, ?_⟩
        unfold Reg.upon
        go_simp
        have hb1 := (Below.refl wq.heap.size wq).alloc (Nat.le_refl _) (.cells #[] 21)
        refine ⟨Hrgk.out 8 Lq _ (Hrgb.out Lq wq _ hh.cls hb1), ?_, Hrgxb.out wq _ hb1⟩
        rw [Hrge8.out]
        exact ⟨_, rfl, World.ownsRow_lit wq #[] 0 (by have hc : Crg Lq wq := hh.cls; rw [HrghC.out] at hc; exact hc.size) (by decide) rfl⟩
      · intro Lq wq xq hh
        simp only [hFrg]
        refine .inl ⟨rfl, ?_⟩
        unfold Reg.upon
        have hk := Hrgk.out 9 Lq wq  hh.cls
        have hx : Xrg 9 wq wq := Hrgx.out wq
        have he : Erg 9 (.slice (some ⟨b, off, none⟩) L.length ca) wq := by rw [Hrge9.out]
        have HK := Lib.hid (And.intro hk (And.intro he hx))
        clear hk hx he
        go_simp
        exact HK.out
      · intro Lq wq xq hh
        simp only [hFrg]
        refine .inl ⟨rfl, ?_⟩
        unfold Reg.upon
        have hk := Hrgk.out 10 Lq wq  hh.cls
        have hx : Xrg 10 wq wq := Hrgx.out wq
        have he : Erg 10 (.int .i64 k) wq := by rw [Hrge10.out]
        have HK := Lib.hid (And.intro hk (And.intro he hx))
        clear hk hx he
        go_simp
        exact HK.out
      · intro Lq wq xq hh
        have d9 : Erg 9 (xq 9) wq := hh.val 9 (by kernel_rfl) (by kernel_rfl)
        rw [Hrge9.out] at d9
        have d10 : Erg 10 (xq 10) wq := hh.val 10 (by kernel_rfl) (by kernel_rfl)
        rw [Hrge10.out] at d10
        simp only [hFrg, d9, d10]
        clear d9 d10
        refine .inl ⟨rfl, ?_⟩
        unfold Reg.upon
        have hk := Hrgk.out 11 Lq wq  hh.cls
        have hx : Xrg 11 wq wq := Hrgx.out wq
        have he : Erg 11 (.pointer (some ⟨b, off + k * 2, none⟩)) wq := by rw [Hrge11.out]
        have HK := Lib.hid (And.intro hk (And.intro he hx))
        clear hk hx he
        go_simp
        exact HK.out
      · intro Lq wq xq hh
        have d11 : Erg 11 (xq 11) wq := hh.val 11 (by kernel_rfl) (by kernel_rfl)
        rw [Hrge11.out] at d11
        simp only [hFrg, d11]
        clear d11
        refine .inl ⟨rfl, ?_⟩
        unfold Reg.upon
        have hk := Hrgk.out 12 Lq wq  hh.cls
        have hx : Xrg 12 wq wq := Hrgx.out wq
        have he : Erg 12 (.pointer (some ⟨b, off + k * 2 + 1, none⟩)) wq := by rw [Hrge12.out]
        have HK := Lib.hid (And.intro hk (And.intro he hx))
        clear hk hx he
        go_simp
        exact HK.out
      · intro Lq wq xq hh
        have d12 : Erg 12 (xq 12) wq := hh.val 12 (by kernel_rfl) (by kernel_rfl)
        rw [Hrge12.out] at d12
        simp only [hFrg, d12]
        clear d12
        refine .inl ⟨rfl, ?_⟩
        unfold Reg.upon
        have hc : Crg Lq wq := hh.cls
        rw [HrghC.out] at hc
        have h13 := (hc.cell (p := ⟨b, off + k * 2 + 1, none⟩) hb).trans HC1.out
        clear hc
        have hk := Hrgk.out 13 Lq wq  hh.cls
        have hx : Xrg 13 wq wq := Hrgx.out wq
        have he : Erg 13 (.slice tta T.length tcc) wq := by rw [Hrge13.out]
        have HK := Lib.hid (And.intro hk (And.intro he hx))
        clear hk hx he
        go_simp
        exact HK.out
      · intro Lq wq xq hh
        have d8 : Erg 8 (xq 8) wq := hh.val 8 (by kernel_rfl) (by kernel_rfl)
        rw [Hrge8.out] at d8
        have d13 : Erg 13 (xq 13) wq := hh.val 13 (by kernel_rfl) (by kernel_rfl)
        rw [Hrge13.out] at d13
        simp only [hFrg, d13]
        clear d13
        refine .inl ⟨rfl, ?_⟩
        unfold Reg.upon
        obtain ⟨g9, e9, h9⟩ := d8
        rw [e9]
        have hc : Crg Lq wq := hh.cls
        rw [HrghC.out] at hc
        obtain ⟨v', w', hr, h2, hb1⟩ := int_copy wq _ 25 g9 h9 _ T (HHT.out.below hc) (by omega) (by omega) hc.size
        rw [exec_app rfl rfl rfl hr]
        refine ⟨Hrgk.out 14 Lq _ (Hrgb.out Lq wq _ hh.cls hb1), ?_, Hrgxb.out wq _ hb1⟩
        rw [Hrge14.out]
        exact h2
      · intro Lq wq xq hh
        simp only [hFrg]
        refine .inl ⟨rfl, ?_⟩
        unfold Reg.upon
        have hk := Hrgk.out 15 Lq wq  hh.cls
        have hx : Xrg 15 wq wq := Hrgx.out wq
        have he : Erg 15 (.int .i32 65533) wq := by rw [Hrge15.out]
        have HK := Lib.hid (And.intro hk (And.intro he hx))
        clear hk hx he
        go_simp
        exact HK.out
      · intro Lq wq xq hh
        have d15 : Erg 15 (xq 15) wq := hh.val 15 (by kernel_rfl) (by kernel_rfl)
        rw [Hrge15.out] at d15
        simp only [hFrg, d15]
        clear d15
        refine .inl ⟨rfl, ?_⟩
        unfold Reg.upon
        go_simp
        have hb1 := (Below.refl wq.heap.size wq).alloc (Nat.le_refl _) (.cells #[.int .i32 65533] 21)
        refine ⟨Hrgk.out 16 Lq _ (Hrgb.out Lq wq _ hh.cls hb1), ?_, Hrgxb.out wq _ hb1⟩
        rw [Hrge16.out]
        exact ⟨_, rfl, World.ownsRow_lit wq #[.int .i32 65533] 1 (by have hc : Crg Lq wq := hh.cls; rw [HrghC.out] at hc; exact hc.size) (by decide) rfl⟩
      · intro Lq wq xq hh
        have d14 : Erg 14 (xq 14) wq := hh.val 14 (by kernel_rfl) (by kernel_rfl)
        rw [Hrge14.out] at d14
        have d16 : Erg 16 (xq 16) wq := hh.val 16 (by kernel_rfl) (by kernel_rfl)
        rw [Hrge16.out] at d16
        simp only [hFrg]
        refine .inl ⟨rfl, ?_⟩
        unfold Reg.upon
        obtain ⟨g9, e9, h9⟩ := d16
        rw [e9]
        have hc : Crg Lq wq := hh.cls
        rw [HrghC.out] at hc
        obtain ⟨v', w', hr, h2, hgr, hk⟩ := int_append wq _ 25 _ T (65533 : Int) d14 g9 h9 (by omega) hc.size
        rw [exec_app rfl rfl rfl hr]
        refine ⟨Hrgk.out 17 Lq _ (by rw [HrghC.out]; exact hc.trans ((Below.refl w.heap.size wq).grown hgr hc.size fun k hk => (d14.lt k hk).1)), ?_, by rw [HrghX.out]; exact hk⟩
        rw [Hrge17.out]
        exact h2
      · intro Lq wq xq hh
        have d7 : Erg 7 (xq 7) wq := hh.val 7 (by kernel_rfl) (by kernel_rfl)
        rw [Hrge7.out] at d7
        have d17 : Erg 17 (xq 17) wq := hh.val 17 (by kernel_rfl) (by kernel_rfl)
        rw [Hrge17.out] at d17
        simp only [hFrg, d7]
        clear d7
        refine .inl ⟨rfl, ?_⟩
        unfold Reg.upon
        have hc : Crg Lq wq := hh.cls
        rw [HrghC.out] at hc
        have hv18 := HeldE.ownedInts (xs := T ++ [(65533 : Int)]) (n := T.length + 1) (by simpa using d17)
        go_simp
        refine (rcof_new Z _ K _ (T ++ [(65533 : Int)]) wq (fun b h => HZ.out b (Nat.le_trans hc.size h)) hv18).mono ?_
        rintro e w2 ⟨v2, rfl, ho, hb2⟩
        refine ⟨_, rfl, Hrgk.out 18 Lq w2 (Hrgb.out Lq wq w2 hh.cls hb2), ?_, Hrgxb.out wq w2 hb2⟩
        rw [Hrge18.out]
        exact ho.held (fun b h _ => HZ.out b (Nat.le_trans hc.size h))
      · intro Lq wq xq hh
        have d0 : Erg 0 (xq 0) wq := hh.val 0 (by kernel_rfl) (by kernel_rfl)
        rw [Hrge0.out] at d0
        have d1 : Erg 1 (xq 1) wq := hh.val 1 (by kernel_rfl) (by kernel_rfl)
        rw [Hrge1.out] at d1
        have d2 : Erg 2 (xq 2) wq := hh.val 2 (by kernel_rfl) (by kernel_rfl)
        rw [Hrge2.out] at d2
        have d18 : Erg 18 (xq 18) wq := hh.val 18 (by kernel_rfl) (by kernel_rfl)
        rw [Hrge18.out] at d18
        simp only [hFrg, d0, d1, d2]
        clear d0 d1 d2
        refine .inl ⟨rfl, ?_⟩
        unfold Reg.upon
        have hc : Crg Lq wq := hh.cls
        rw [HrghC.out] at hc
        go_simp
        refine (HPA.out _ wq hc d18).mono ?_
        rintro e w2 ⟨v2, rfl, ho, hb2⟩
        refine ⟨_, rfl, Hrgk.out 19 Lq w2 (Hrgb.out Lq wq w2 hh.cls hb2), ?_, Hrgxb.out wq w2 hb2⟩
        rw [Hrge19.out]
        exact ⟨_, rfl, ho.held (fun b h _ => HZ.out b (Nat.le_trans hc.size h))⟩
      · intro Lq wq xq hh
        have d19 : Erg 19 (xq 19) wq := hh.val 19 (by kernel_rfl) (by kernel_rfl)
        rw [Hrge19.out] at d19
        simp only [hFrg]
        refine .inl ⟨rfl, ?_⟩
        unfold Reg.upon
        go_simp
        exact ⟨Hrgk.out 20 Lq wq hh.cls, (by rw [Hrge20.out]; exact d19), Hrgx.out _⟩
      · intro Lq wq xq hh
        have d20 : Erg 20 (xq 20) wq := hh.val 20 (by kernel_rfl) (by kernel_rfl)
        rw [Hrge20.out] at d20
        simp only [hFrg]
        refine .inl ⟨rfl, ?_⟩
        unfold Reg.upon
        obtain ⟨v9, e9, h9⟩ := d20
        rw [e9]
        go_simp
        exact ⟨Hrgk.out 21 Lq wq hh.cls, (by rw [Hrge21.out]; exact h9), Hrgx.out _⟩
      · intro Lq wq xq hh
        have d20 : Erg 20 (xq 20) wq := hh.val 20 (by kernel_rfl) (by kernel_rfl)
        rw [Hrge20.out] at d20
        simp only [hFrg]
        refine .inl ⟨rfl, ?_⟩
        unfold Reg.upon
        obtain ⟨v9, e9, h9⟩ := d20
        rw [e9]
        go_simp
        exact ⟨Hrgk.out 22 Lq wq hh.cls, (by rw [Hrge22.out]), Hrgx.out _⟩
      · intro Lq wq xq hh
        have d21 : Erg 21 (xq 21) wq := hh.val 21 (by kernel_rfl) (by kernel_rfl)
        rw [Hrge21.out] at d21
        simp only [hFrg]
        refine .inl ⟨rfl, ?_⟩
        unfold Reg.upon
        go_simp
        exact ⟨Hrgk.out 23 Lq wq hh.cls, (by rw [Hrge23.out]; exact d21), Hrgx.out _⟩
      · intro Lq wq xq hh
        have d22 : Erg 22 (xq 22) wq := hh.val 22 (by kernel_rfl) (by kernel_rfl)
        rw [Hrge22.out] at d22
        simp only [hFrg, d22]
        clear d22
        refine .inl ⟨rfl, ?_⟩
        unfold Reg.upon
        have hk := Hrgk.out 24 Lq wq  hh.cls
        have hx : Xrg 24 wq wq := Hrgx.out wq
        have he : Erg 24 (.bool q2) wq := by rw [Hrge24.out]
        have HK := Lib.hid (And.intro hk (And.intro he hx))
        clear hk hx he
        go_simp
        exact HK.out
    intro xq wrg hcrg hvrg
    rw [HrghC.out] at hcrg
    simp only [hFrg]
    have vrg23 : Erg 23 (xq 23) wrg := hvrg 23 (by decide)
    rw [Hrge23.out] at vrg23
    have vrg24 : Erg 24 (xq 24) wrg := hvrg 24 (by decide)
    rw [Hrge24.out] at vrg24
    rw [vrg24]
    clear hvrg hFrg Hrgk Hrgx HrghE Hrgc HrghC HrghX Hrgb Hrgxb Hrge0 Hrge1 Hrge2 Hrge3 Hrge4 Hrge5 Hrge6 Hrge7 Hrge8 Hrge9 Hrge10 Hrge11 Hrge12 Hrge13 Hrge14 Hrge15 Hrge16 Hrge17 Hrge18 Hrge19 Hrge20 Hrge21 Hrge22 Hrge23 Hrge24
    obtain ⟨v6, hv6⟩ : ∃ v6, v6 = xq 23 := ⟨_, rfl⟩
    rw [← hv6] at vrg23 ⊢
    have HF := Lib.hid (And.intro vrg23 hcrg)
    obtain ⟨fo, fc, hfe⟩ := vrg23.len
    subst hfe
    clear vrg23 vrg24 hcrg hv6
    go_wp2
    go_ret3
    rw [HE.out]
    exact ⟨.slice fo L2.length fc, rfl, HF.out.1, HF.out.2⟩
end Go.Proofs.YtomfclkldmmmgaaDoor
