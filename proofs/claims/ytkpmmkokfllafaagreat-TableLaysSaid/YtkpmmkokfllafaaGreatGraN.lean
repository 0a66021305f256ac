/- The reference's Clusters (16); Count. -/
import Derived.Test.YtkpmmkokfllafaaGreatMg6
import Derived.Test.YtkpmmkokfllafaaGreatMg2
import Derived.Test.YtkpmmkokfllafaaGreatMg1
namespace Go.Proofs.YtkpmmkokfllafaaGreat
open Go.RowKit Go.ChangeShapes Go.WideShapes
theorem spans_pair {xs : List Int} {i : Nat} (hi : i < (startB (jR (knownL xs)) xs.length).length) : ∃ a b : Nat, (toI (startB (jR (knownL xs)) xs.length) ++ [(xs.length : Int)]).getD i 0 = (a : Int) ∧ (toI (startB (jR (knownL xs)) xs.length) ++ [(xs.length : Int)]).getD (i + 1) 0 = (b : Int) ∧ (clS xs).getD i (0, 0) = (a, b) ∧ a < b ∧ b ≤ xs.length := by
  have h0 := spansB_at (jR (knownL xs)) (jR_zero _) xs.length i hi
  have hl := spansB_len (jR (knownL xs)) (jR_zero _) xs.length
  have hm : (clS xs).getD i (0, 0) ∈ clS xs := by
    unfold clS
    rw [List.getD, List.getElem?_eq_getElem (by omega)]
    exact List.getElem_mem _
  have hok := spansB_ok _ _ _ hm
  have e : toI (startB (jR (knownL xs)) xs.length) ++ [(xs.length : Int)] = toI (startB (jR (knownL xs)) xs.length ++ [xs.length]) := by simp [toI]
  have hg : ∀ k, k < (startB (jR (knownL xs)) xs.length ++ [xs.length]).length → (toI (startB (jR (knownL xs)) xs.length ++ [xs.length])).getD k 0 = (((startB (jR (knownL xs)) xs.length ++ [xs.length]).getD k 0 : Nat) : Int) := fun k hk => by
    rw [toI_at hk]
    simp [List.getD, List.getElem?_eq_getElem hk]
  have h1 : (clS xs).getD i (0, 0) = _ := h0
  rw [h1] at hok
  refine ⟨_, _, ?_, ?_, h1, hok.1, hok.2⟩
  · rw [e, hg i (by rw [List.length_append]; omega)]
  · rw [e, hg (i + 1) (by rw [List.length_append, List.length_singleton]; omega)]
theorem cluA_take (xs : List Int) (i : Nat) (h : i < (clS xs).length) : (cluA xs).take (i + 1) = (cluA xs).take i ++ [sliceL xs ((clS xs).getD i (0, 0))] := by
  unfold cluA
  rw [List.take_succ_eq_append_getElem (by rw [List.length_map]; exact h), List.getElem_map]
  simp [List.getD, List.getElem?_eq_getElem h]
theorem cluA_len (xs : List Int) : (cluA xs).length = (startB (jR (knownL xs)) xs.length).length := by
  unfold cluA
  rw [List.length_map]
  exact spansB_len _ (jR_zero _) _
set_option maxRecDepth 100000 in
set_option maxHeartbeats 2000000 in
theorem rclus_any (Z : Zone) (v : Value) (xs : List Int) (w : World) (hx0 : HeldE (intE .i32) Z w v xs) (hn : xs.length ≤ 1000000) (hr : bounds32 xs) : Calls Tryz.prog 37 #[v] w (MadeRow w (cluA xs)) := by
  have hx := hx0.ints
  obtain ⟨ao, ca, rfl, hmx, hmy, _⟩ := id hx0
  have HX := Lib.hid hx
  have HMX := Lib.hid hmy
  have HST := Lib.hid (rstarts_any _ xs w hx hn hr)
  obtain ⟨n, hnn⟩ : ∃ n, n = xs.length := ⟨_, rfl⟩
  have HN := Lib.hid hnn
  have HCL := Lib.hid (cluA_len xs)
  have HSP := Lib.hid (fun i h => @spans_pair xs i h)
  have HSL := Lib.hid (startB_len (jR (knownL xs)) xs.length)
  obtain ⟨ST, hST⟩ : ∃ ST, ST = startB (jR (knownL xs)) xs.length := ⟨_, rfl⟩
  rw [← hST] at HST HCL HSP HSL
  rw [← hnn] at HX HST hn hmx HSP HSL ⊢
  clear hx hx0 hr hnn hST hmy
  go_enter Tryz.func37, Tryz.ntmps37
  go_wp2_with fail
  refine HST.out.mono ?_
  rintro e w1 ⟨v1, k1, rfl, ho1, b1⟩
  have ho1 := ownE_ints (Z := fun b => w.heap.size ≤ b) ho1
  have hb2 := (Below.refl w1.heap.size w1).alloc (Nat.le_refl _) (.cells [.int .i64 (n : Int)].toArray 3)
  have hlo := ho1.lt
  have HU := Lib.hid (show HeldE (intE .i64) (fun b => w.heap.size ≤ b ∧ v1.ownBlock ≠ some b) (w1.alloc (.cells [.int .i64 (n : Int)].toArray 3)) (.slice (some ⟨w1.heap.size, 0, none⟩) 1 1) [(n : Int)] from heldE_one (Y := fun _ => False) [.int .i64 (n : Int)] (n : Int) rfl (fun _ _ h => h.elim) ⟨b1.size, fun e => by have := (hlo _ e).2; omega⟩)
  have HO1 := Lib.hid (ho1.below hb2)
  have HB1 := Lib.hid (b1.trans (hb2.mono b1.size))
  have hti : (toI ST).length = ST.length := toI_len ST
  have HTL := Lib.hid hti
  clear ho1 b1 hb2 hlo hti
  go_wp2_with (at_builtin; refine wpList_append_e (E := intE .i64) (Z := fun b => w.heap.size ≤ b) rfl (.tmp 7) (.tmp 10) 26 rfl (.int .i64 0) 8 Tryz.underlying26 info_int rfl (by decide) rfl rfl HO1.out HU.out (by rw [HTL.out]; simp only [List.length_singleton]; have := HSL.out; omega) (by rw [HTL.out]; simp only [List.length_singleton]; have := HSL.out; omega) HB1.out.size ?_)
  intro v2 w2 ho2 b2 _ _
  have hh2 := (ho2.held (Z := fun b => w.heap.size ≤ b) (fun b h _ => h)).ints
  obtain ⟨aa, cc, rfl, hca⟩ := hh2.view
  have HCA := Lib.hid hca
  have HAT := Lib.hid (show (toI ST ++ [(n : Int)]).length = ST.length + 1 from by rw [List.length_append, HTL.out]; rfl)
  obtain ⟨m, hm⟩ : ∃ m, m = ST.length := ⟨_, rfl⟩
  have HM := Lib.hid hm
  rw [HAT.out, ← hm] at HCA ⊢
  have HB2 := Lib.hid (HB1.out.trans b2)
  have hmn : m ≤ 1000000 := by rw [hm]; have := HSL.out; omega
  have HSP2 := Lib.hid (show ∀ i, i < m → _ from fun i h => HSP.out i (by rw [← hm]; exact h))
  clear ho2 b2 hh2 hca HU HO1 HB1 hm HST
  go_wp2
  go_loopw [3, 5] (fun ov i wr => ∃ k : Nat, k ≤ m ∧ i = .int .i64 k ∧ OwnE rowE (fun b => w2.heap.size ≤ b) wr w2.heap.size 34 ov ((cluA xs).take k) ∧ Below w2.heap.size w2 wr) (fun _ i _ => m - (intOf i).toNat)
  case atStart => exact ⟨0, Nat.zero_le _, rfl, OwnE.nil _ _ _ _ _, Below.refl _ _⟩
  case round =>
    obtain ⟨k, hk, rfl, hown, hbw⟩ := hrel
    obtain ⟨ov, hov⟩ : ∃ ov, ov = u3 := ⟨_, rfl⟩
    rw [← hov] at hown ⊢
    have HO := Lib.hid hown
    have HBW := Lib.hid hbw
    clear hov hown hbw
    by_cases hlt : k < m
    · obtain ⟨a, b, ha, hb, hp, hab, hbn⟩ := HSP2.out k hlt
      obtain ⟨ba, oa, e1, hb1, c1⟩ := HCA.out k (by omega)
      obtain ⟨ba', oa', e2, _, c2⟩ := HCA.out (k + 1) (by omega)
      subst e1
      cases e2
      rw [ha] at c1
      rw [hb] at c2
      obtain ⟨bx, ox, ex, hbx, _⟩ := HX.out.spots 0 (by rw [← HN.out]; omega)
      subst ex
      have c1 := (HBW.out.cell (p := ⟨ba, oa + k, none⟩) hb1).trans c1
      have c2 := (HBW.out.cell (p := ⟨ba, oa + (k + 1), none⟩) hb1).trans c2
      have HC1 := Lib.hid c1
      have HC2 := Lib.hid c2
      have HBA := Lib.hid (show ba < wr.heap.size from Nat.lt_of_lt_of_le hb1 HBW.out.size)
      have HTK := Lib.hid (cluA_take xs k (by have h9 := HCL.out; have := HM.out; unfold cluA at h9; rw [List.length_map] at h9; omega))
      have hpl : ((cluA xs).take k).length ≤ 1000000 := by rw [List.length_take]; omega
      obtain ⟨CP, hCP⟩ : ∃ CP, CP = (cluA xs).take k := ⟨_, rfl⟩
      rw [hp, ← hCP] at HTK
      rw [← hCP] at HO hpl
      have HPL := Lib.hid hpl
      have HLO := Lib.hid HO.out.lt
      have HW2 := Lib.hid HBW.out.size
      have HSLI := Lib.hid (show ∀ w', Below w.heap.size w w' → Held .i32 w' (.slice (some ⟨bx, ox + a, none⟩) (b - a) (ca - a)) (sliceL xs (a, b)) from fun w' h => by
        have hs := (HX.out.below h).spots
        have hl := sliceL_len xs (a, b) (Nat.le_of_lt hab) (by rw [← HN.out]; exact hbn)
        have hh := held_at (k := .i32) (w := w') (b := bx) (off := ox + a) (cap := ca - a) (xs := sliceL xs (a, b)) (Nat.lt_of_lt_of_le hbx h.size) (fun i hi => by
          rw [hl] at hi
          obtain ⟨b9, o9, e9, _, h9⟩ := hs (a + i) (by rw [← HN.out]; simp only at hi; omega)
          cases e9
          rw [Nat.add_assoc, h9]
          congr 2
          unfold sliceL
          simp only at hi
          simp [List.getD, List.getElem?_take, hi, List.getElem?_drop])
        rw [hl] at hh
        exact hh)
      have HSLN := Lib.hid (show (sliceL xs (a, b)).length ≤ 1000000 ∧ 0 < (sliceL xs (a, b)).length from by rw [sliceL_len xs (a, b) (Nat.le_of_lt hab) (by rw [← HN.out]; exact hbn)]; simp only; omega)
      have HWW := Lib.hid (HB2.out.trans (HBW.out.mono HB2.out.size))
      have hac : ca - a ≠ 0 := by omega
      have hac2 : ((ca - a == 0) = false) := by rw [beq_eq_false_iff_ne]; exact hac
      have hz1 : a ≤ b := by omega
      have hz2 : b ≤ ca := by omega
      have hz3 : (a : Int) ≤ b := by omega
      have hz4 : (b : Int) ≤ ca := by omega
      have hne : ca ≠ a := by omega
      have hkm : k < m + 1 := by omega
      have hkm1 : k + 1 < m + 1 := by omega
      have hwk : IntKind.i64.wrap ((k : Int) + 1) = (k : Int) + 1 := by rw [IntKind.wrap_i64]; omega
      have hkmi : (k : Int) < (m : Int) + 1 := by omega
      have hkmj : (k : Int) + 1 < (m : Int) + 1 := by omega
      clear hp hCP hpl ha hb hbx hb1 hmx
      go_wp2
      obtain ⟨Erg, hErg⟩ : ∃ EE : Nat → Value → World → Prop, EE = fun jj xx ww => match jj with
          | 0 => xx = ov
          | 1 => (fun x w' => ∃ g9, x = .slice (some ⟨g9, 0, none⟩) 0 0 ∧ w'.ownsRow wr.heap.size 21 1 (.slice (some ⟨g9, 0, none⟩) 0 0) 0 []) xx ww
          | 2 => xx = .slice (some ⟨bx, ox, none⟩) n ca
          | 3 => xx = .slice (some ⟨ba, oa, none⟩) (m + 1) cc
          | 4 => xx = .int .i64 (k : Int)
          | 5 => xx = .pointer (some ⟨ba, oa + k, none⟩)
          | 6 => xx = .int .i64 (a : Int)
          | 7 => xx = .slice (some ⟨ba, oa, none⟩) (m + 1) cc
          | 8 => xx = .int .i64 (k : Int)
          | 9 => xx = .int .i64 (k + 1 : Int)
          | 10 => xx = .pointer (some ⟨ba, oa + (k + 1), none⟩)
          | 11 => xx = .int .i64 (b : Int)
          | 12 => xx = .slice (some ⟨bx, ox + a, none⟩) (b - a) (ca - a)
          | 13 => (fun x w' => HeldE (intE .i32) (fun b => wr.heap.size ≤ b) w' x (sliceL xs (a, b))) xx ww
          | 14 => (fun x w' => HeldE rowE (fun b => wr.heap.size ≤ b) w' x [sliceL xs (a, b)]) xx ww
          | 15 => (fun x w' => OwnE rowE (fun b => w2.heap.size ≤ b) w' w2.heap.size 34 x (CP ++ [sliceL xs (a, b)])) xx ww
          | 16 => (fun x w' => OwnE rowE (fun b => w2.heap.size ≤ b) w' w2.heap.size 34 x (CP ++ [sliceL xs (a, b)])) xx ww
          | _ => True := ⟨_, rfl⟩
      have erg0 : ∀ xx ww, Erg 0 xx ww = (xx = ov) := fun xx ww => congrFun (congrFun (congrFun hErg 0) xx) ww
      have erg1 : ∀ xx ww, Erg 1 xx ww = ((fun x w' => ∃ g9, x = .slice (some ⟨g9, 0, none⟩) 0 0 ∧ w'.ownsRow wr.heap.size 21 1 (.slice (some ⟨g9, 0, none⟩) 0 0) 0 []) xx ww) := fun xx ww => congrFun (congrFun (congrFun hErg 1) xx) ww
      have erg2 : ∀ xx ww, Erg 2 xx ww = (xx = .slice (some ⟨bx, ox, none⟩) n ca) := fun xx ww => congrFun (congrFun (congrFun hErg 2) xx) ww
      have erg3 : ∀ xx ww, Erg 3 xx ww = (xx = .slice (some ⟨ba, oa, none⟩) (m + 1) cc) := fun xx ww => congrFun (congrFun (congrFun hErg 3) xx) ww
      have erg4 : ∀ xx ww, Erg 4 xx ww = (xx = .int .i64 (k : Int)) := fun xx ww => congrFun (congrFun (congrFun hErg 4) xx) ww
      have erg5 : ∀ xx ww, Erg 5 xx ww = (xx = .pointer (some ⟨ba, oa + k, none⟩)) := fun xx ww => congrFun (congrFun (congrFun hErg 5) xx) ww
      have erg6 : ∀ xx ww, Erg 6 xx ww = (xx = .int .i64 (a : Int)) := fun xx ww => congrFun (congrFun (congrFun hErg 6) xx) ww
      have erg7 : ∀ xx ww, Erg 7 xx ww = (xx = .slice (some ⟨ba, oa, none⟩) (m + 1) cc) := fun xx ww => congrFun (congrFun (congrFun hErg 7) xx) ww
      have erg8 : ∀ xx ww, Erg 8 xx ww = (xx = .int .i64 (k : Int)) := fun xx ww => congrFun (congrFun (congrFun hErg 8) xx) ww
      have erg9 : ∀ xx ww, Erg 9 xx ww = (xx = .int .i64 (k + 1 : Int)) := fun xx ww => congrFun (congrFun (congrFun hErg 9) xx) ww
      have erg10 : ∀ xx ww, Erg 10 xx ww = (xx = .pointer (some ⟨ba, oa + (k + 1), none⟩)) := fun xx ww => congrFun (congrFun (congrFun hErg 10) xx) ww
      have erg11 : ∀ xx ww, Erg 11 xx ww = (xx = .int .i64 (b : Int)) := fun xx ww => congrFun (congrFun (congrFun hErg 11) xx) ww
      have erg12 : ∀ xx ww, Erg 12 xx ww = (xx = .slice (some ⟨bx, ox + a, none⟩) (b - a) (ca - a)) := fun xx ww => congrFun (congrFun (congrFun hErg 12) xx) ww
      have erg13 : ∀ xx ww, Erg 13 xx ww = ((fun x w' => HeldE (intE .i32) (fun b => wr.heap.size ≤ b) w' x (sliceL xs (a, b))) xx ww) := fun xx ww => congrFun (congrFun (congrFun hErg 13) xx) ww
      have erg14 : ∀ xx ww, Erg 14 xx ww = ((fun x w' => HeldE rowE (fun b => wr.heap.size ≤ b) w' x [sliceL xs (a, b)]) xx ww) := fun xx ww => congrFun (congrFun (congrFun hErg 14) xx) ww
      have erg15 : ∀ xx ww, Erg 15 xx ww = ((fun x w' => OwnE rowE (fun b => w2.heap.size ≤ b) w' w2.heap.size 34 x (CP ++ [sliceL xs (a, b)])) xx ww) := fun xx ww => congrFun (congrFun (congrFun hErg 15) xx) ww
      have erg16 : ∀ xx ww, Erg 16 xx ww = ((fun x w' => OwnE rowE (fun b => w2.heap.size ≤ b) w' w2.heap.size 34 x (CP ++ [sliceL xs (a, b)])) xx ww) := fun xx ww => congrFun (congrFun (congrFun hErg 16) xx) ww
      obtain ⟨Crg, hCrg⟩ : ∃ CC : Array Bool → World → Prop, CC = fun L8 w' => Below w2.heap.size w2 w' ∧ (Mix.one L8 15 = 0 → OwnE rowE (fun b => w2.heap.size ≤ b) w' w2.heap.size 34 ov CP ∧ Below wr.heap.size wr w') ∧ wr.heap.size ≤ w'.heap.size := ⟨_, rfl⟩
      have krg : ∀ i L w, i ≠ 15 →  Crg L w → Crg (L.setIfInBounds i true) w := by
        intro i L w q15 h
        rw [hCrg] at h ⊢
        simp only [Mix.one_ne q15]; exact h
      obtain ⟨Xrg, hXrg⟩ : ∃ XX : Nat → World → World → Prop, XX = fun kk ww1 ww2 => if kk = 15 then (fun x y => Upd (fun b => ov.ownBlock = some b) x y) ww1 ww2 else (fun x y => Below x.heap.size x y) ww1 ww2 := ⟨_, rfl⟩
      have xrg : ∀ {k : Nat} (w : World), Xrg k w w := by
        intro k w
        rw [hXrg]
        show if k = 15 then _ else _
        split
        · exact Upd.refl _ _
        · exact Below.refl _ _
      have crg : Crg (Array.replicate 17 false) wr.drew := by rw [hCrg]; exact ⟨HBW.out.drew, fun _ => ⟨HO.out, (Below.refl _ _).drew⟩, Nat.le_refl _⟩
      have brg : ∀ L w w1, Crg L w → Below w.heap.size w w1 → Crg L w1 := by
        intro L w w1 h hb
        rw [hCrg] at h ⊢
        (obtain ⟨q1, q2, q3⟩ := h; exact ⟨q1.trans (hb.mono q1.size), fun e => ⟨(q2 e).1.below hb, (q2 e).2.trans (hb.mono (q2 e).2.size)⟩, Nat.le_trans q3 hb.size⟩)
      have xbrg : ∀ {k : Nat} (w w1 : World), Below w.heap.size w w1 → Xrg k w w1 := by
        intro k w w1 hb
        rw [hXrg]
        show if k = 15 then _ else _
        split
        · exact Upd.ofBelow hb
        · exact hb
      have Hrgb := Lib.hid brg
      have Hrgxb : Go.RowKit.Hid (∀ {k : Nat} (w w1 : World), Below w.heap.size w w1 → Xrg k w w1) := @xbrg
      clear brg xbrg
      have HrghE := Lib.hid hErg
      clear hErg
      have Hrgk := Lib.hid krg
      have Hrgx : Go.RowKit.Hid (∀ {k : Nat} (w : World), Xrg k w w) := @xrg
      have Hrgc := Lib.hid crg
      have HrghC := Lib.hid hCrg
      have HrghX := Lib.hid hXrg
      have Hrge0 := Lib.hid erg0
      have Hrge1 := Lib.hid erg1
      have Hrge2 := Lib.hid erg2
      have Hrge3 := Lib.hid erg3
      have Hrge4 := Lib.hid erg4
      have Hrge5 := Lib.hid erg5
      have Hrge6 := Lib.hid erg6
      have Hrge7 := Lib.hid erg7
      have Hrge8 := Lib.hid erg8
      have Hrge9 := Lib.hid erg9
      have Hrge10 := Lib.hid erg10
      have Hrge11 := Lib.hid erg11
      have Hrge12 := Lib.hid erg12
      have Hrge13 := Lib.hid erg13
      have Hrge14 := Lib.hid erg14
      have Hrge15 := Lib.hid erg15
      have Hrge16 := Lib.hid erg16
      clear krg xrg crg hCrg hXrg erg0 erg1 erg2 erg3 erg4 erg5 erg6 erg7 erg8 erg9 erg10 erg11 erg12 erg13 erg14 erg15 erg16
      go_wp2_with fail
      refine RegX.regionF Erg Crg Xrg ?_ (by kernel_rfl) (by kernel_rfl) (by kernel_rfl) Hrgc.out (fun Frg hFrg => ?_)
      · intro ii jj x w w1 hji hr hx h
        rw [HrghX.out] at hx
        by_cases hi : ii = 15
        · subst hi
          simp only [if_pos] at hx
          match jj with
          | 0 => rw [Hrge0.out] at h ⊢; exact h
          | 1 => rw [Hrge1.out] at h ⊢; (first | exact (HeldE.upd h hx (fun b hb e => by have := (HLO.out b e).2; omega)) | (obtain ⟨g9, e9, h9⟩ := h; exact ⟨g9, e9, hx.keep.own h9 (fun b hb e => by have := (HLO.out _ e).2; have := (h9.lt _ hb).1; omega)⟩))
          | 2 => rw [Hrge2.out] at h ⊢; exact h
          | 3 => rw [Hrge3.out] at h ⊢; exact h
          | 4 => rw [Hrge4.out] at h ⊢; exact h
          | 5 => rw [Hrge5.out] at h ⊢; exact h
          | 6 => rw [Hrge6.out] at h ⊢; exact h
          | 7 => rw [Hrge7.out] at h ⊢; exact h
          | 8 => rw [Hrge8.out] at h ⊢; exact h
          | 9 => rw [Hrge9.out] at h ⊢; exact h
          | 10 => rw [Hrge10.out] at h ⊢; exact h
          | 11 => rw [Hrge11.out] at h ⊢; exact h
          | 12 => rw [Hrge12.out] at h ⊢; exact h
          | 13 => rw [Hrge13.out] at h ⊢; (first | exact (HeldE.upd h hx (fun b hb e => by have := (HLO.out b e).2; omega)) | (obtain ⟨g9, e9, h9⟩ := h; exact ⟨g9, e9, hx.keep.own h9 (fun b hb e => by have := (HLO.out _ e).2; have := (h9.lt _ hb).1; omega)⟩))
          | 14 => rw [Hrge14.out] at h ⊢; (first | exact (HeldE.upd h hx (fun b hb e => by have := (HLO.out b e).2; omega)) | (obtain ⟨g9, e9, h9⟩ := h; exact ⟨g9, e9, hx.keep.own h9 (fun b hb e => by have := (HLO.out _ e).2; have := (h9.lt _ hb).1; omega)⟩))
          | 15 => exact absurd rfl hji
          | 16 => exact absurd (hr.symm.trans (show Reg.reach _ 6 16 15 = true from by kernel_rfl)) (by decide)
          | jj + 17 => rw [HrghE.out]; trivial
        · simp only [if_neg hi] at hx
          match jj with
          | 0 => rw [Hrge0.out] at h ⊢; exact h
          | 1 => rw [Hrge1.out] at h ⊢; (first | exact HeldE.below h hx | exact OwnE.below h hx | (obtain ⟨g9, e9, h9⟩ := h; exact ⟨g9, e9, ownsRow_below h9 hx⟩))
          | 2 => rw [Hrge2.out] at h ⊢; exact h
          | 3 => rw [Hrge3.out] at h ⊢; exact h
          | 4 => rw [Hrge4.out] at h ⊢; exact h
          | 5 => rw [Hrge5.out] at h ⊢; exact h
          | 6 => rw [Hrge6.out] at h ⊢; exact h
          | 7 => rw [Hrge7.out] at h ⊢; exact h
          | 8 => rw [Hrge8.out] at h ⊢; exact h
          | 9 => rw [Hrge9.out] at h ⊢; exact h
          | 10 => rw [Hrge10.out] at h ⊢; exact h
          | 11 => rw [Hrge11.out] at h ⊢; exact h
          | 12 => rw [Hrge12.out] at h ⊢; exact h
          | 13 => rw [Hrge13.out] at h ⊢; (first | exact HeldE.below h hx | exact OwnE.below h hx | (obtain ⟨g9, e9, h9⟩ := h; exact ⟨g9, e9, ownsRow_below h9 hx⟩))
          | 14 => rw [Hrge14.out] at h ⊢; (first | exact HeldE.below h hx | exact OwnE.below h hx | (obtain ⟨g9, e9, h9⟩ := h; exact ⟨g9, e9, ownsRow_below h9 hx⟩))
          | 15 => rw [Hrge15.out] at h ⊢; (first | exact HeldE.below h hx | exact OwnE.below h hx | (obtain ⟨g9, e9, h9⟩ := h; exact ⟨g9, e9, ownsRow_below h9 hx⟩))
          | 16 => rw [Hrge16.out] at h ⊢; (first | exact HeldE.below h hx | exact OwnE.below h hx | (obtain ⟨g9, e9, h9⟩ := h; exact ⟨g9, e9, ownsRow_below h9 hx⟩))
          | jj + 17 => rw [HrghE.out]; trivial
      simp only [Reg.frame, Reg.dsts, List.map_cons, List.map_nil, Mix.put_lit, List.set_cons_succ, List.set_cons_zero, Nat.zero_add, Nat.reduceAdd] at hFrg
      refine ⟨?_, ?_⟩
      · refine ⟨?_, ?_, ?_, ?_, ?_, ?_, ?_, ?_, ?_, ?_, ?_, ?_, ?_, ?_, ?_, ?_, ?_, trivial⟩
        · intro Lq wq xq hh
          have d16 := hh.old 16 (by kernel_rfl)
          simp only [hFrg, d16]
          clear d16
          refine .inl ⟨rfl, ?_⟩
          unfold Reg.upon
          have hk := Hrgk.out 0 Lq wq (by decide)  hh.cls
          have hx : Xrg 0 wq wq := Hrgx.out wq
          have he : Erg 0 (ov) wq := by rw [Hrge0.out]
          have HK := Lib.hid (And.intro hk (And.intro he hx))
          clear hk hx he
          go_simp
          exact HK.out
        · intro Lq wq xq hh
          simp only [hFrg]
          refine .inl ⟨rfl, ?_⟩
          unfold Reg.upon
          go_simp
          have hc : Crg Lq wq := hh.cls
          rw [HrghC.out] at hc
          have hb1 := (Below.refl wq.heap.size wq).alloc (Nat.le_refl _) (.cells #[] 21)
          refine ⟨Hrgk.out 1 Lq _ (by decide) (Hrgb.out Lq wq _ hh.cls hb1), ?_, Hrgxb.out wq _ hb1⟩
          rw [Hrge1.out]
          exact ⟨_, rfl, World.ownsRow_lit wq #[] 0 hc.2.2 (by decide) rfl⟩
        · intro Lq wq xq hh
          simp only [hFrg]
          refine .inl ⟨rfl, ?_⟩
          unfold Reg.upon
          have hk := Hrgk.out 2 Lq wq (by decide)  hh.cls
          have hx : Xrg 2 wq wq := Hrgx.out wq
          have he : Erg 2 (.slice (some ⟨bx, ox, none⟩) n ca) wq := by rw [Hrge2.out]
          have HK := Lib.hid (And.intro hk (And.intro he hx))
          clear hk hx he
          go_simp
          exact HK.out
        · intro Lq wq xq hh
          simp only [hFrg]
          refine .inl ⟨rfl, ?_⟩
          unfold Reg.upon
          have hk := Hrgk.out 3 Lq wq (by decide)  hh.cls
          have hx : Xrg 3 wq wq := Hrgx.out wq
          have he : Erg 3 (.slice (some ⟨ba, oa, none⟩) (m + 1) cc) wq := by rw [Hrge3.out]
          have HK := Lib.hid (And.intro hk (And.intro he hx))
          clear hk hx he
          go_simp
          exact HK.out
        · intro Lq wq xq hh
          simp only [hFrg]
          refine .inl ⟨rfl, ?_⟩
          unfold Reg.upon
          have hk := Hrgk.out 4 Lq wq (by decide)  hh.cls
          have hx : Xrg 4 wq wq := Hrgx.out wq
          have he : Erg 4 (.int .i64 (k : Int)) wq := by rw [Hrge4.out]
          have HK := Lib.hid (And.intro hk (And.intro he hx))
          clear hk hx he
          go_simp
          exact HK.out
        · intro Lq wq xq hh
          have d3 : Erg 3 (xq 3) wq := hh.val 3 (by kernel_rfl) (by kernel_rfl)
          rw [Hrge3.out] at d3
          have d4 : Erg 4 (xq 4) wq := hh.val 4 (by kernel_rfl) (by kernel_rfl)
          rw [Hrge4.out] at d4
          simp only [hFrg, d3, d4]
          clear d3 d4
          refine .inl ⟨rfl, ?_⟩
          unfold Reg.upon
          have hk := Hrgk.out 5 Lq wq (by decide)  hh.cls
          have hx : Xrg 5 wq wq := Hrgx.out wq
          have he : Erg 5 (.pointer (some ⟨ba, oa + k, none⟩)) wq := by rw [Hrge5.out]
          have HK := Lib.hid (And.intro hk (And.intro he hx))
          clear hk hx he
          go_simp
          exact HK.out
        · intro Lq wq xq hh
          have d5 : Erg 5 (xq 5) wq := hh.val 5 (by kernel_rfl) (by kernel_rfl)
          rw [Hrge5.out] at d5
          simp only [hFrg, d5]
          clear d5
          refine .inl ⟨rfl, ?_⟩
          unfold Reg.upon
          have hc : Crg Lq wq := hh.cls
          rw [HrghC.out] at hc
          have q1 := ((hc.2.1 (Mix.one_un (hh.notYet 15 (by kernel_rfl)))).2.cell (p := ⟨ba, oa + k, none⟩) HBA.out).trans HC1.out
          clear hc
          have hk := Hrgk.out 6 Lq wq (by decide)  hh.cls
          have hx : Xrg 6 wq wq := Hrgx.out wq
          have he : Erg 6 (.int .i64 (a : Int)) wq := by rw [Hrge6.out]
          have HK := Lib.hid (And.intro hk (And.intro he hx))
          clear hk hx he
          go_simp
          exact HK.out
        · intro Lq wq xq hh
          simp only [hFrg]
          refine .inl ⟨rfl, ?_⟩
          unfold Reg.upon
          have hk := Hrgk.out 7 Lq wq (by decide)  hh.cls
          have hx : Xrg 7 wq wq := Hrgx.out wq
          have he : Erg 7 (.slice (some ⟨ba, oa, none⟩) (m + 1) cc) wq := by rw [Hrge7.out]
          have HK := Lib.hid (And.intro hk (And.intro he hx))
          clear hk hx he
          go_simp
          exact HK.out
        · intro Lq wq xq hh
          simp only [hFrg]
          refine .inl ⟨rfl, ?_⟩
          unfold Reg.upon
          have hk := Hrgk.out 8 Lq wq (by decide)  hh.cls
          have hx : Xrg 8 wq wq := Hrgx.out wq
          have he : Erg 8 (.int .i64 (k : Int)) wq := by rw [Hrge8.out]
          have HK := Lib.hid (And.intro hk (And.intro he hx))
          clear hk hx he
          go_simp
          exact HK.out
        · intro Lq wq xq hh
          have d8 : Erg 8 (xq 8) wq := hh.val 8 (by kernel_rfl) (by kernel_rfl)
          rw [Hrge8.out] at d8
          simp only [hFrg, d8]
          clear d8
          refine .inl ⟨rfl, ?_⟩
          unfold Reg.upon
          go_simp
          try rw [hwk]
          exact ⟨Hrgk.out 9 Lq wq (by decide) hh.cls, (by rw [Hrge9.out]), Hrgx.out _⟩
        · intro Lq wq xq hh
          have d7 : Erg 7 (xq 7) wq := hh.val 7 (by kernel_rfl) (by kernel_rfl)
          rw [Hrge7.out] at d7
          have d9 : Erg 9 (xq 9) wq := hh.val 9 (by kernel_rfl) (by kernel_rfl)
          rw [Hrge9.out] at d9
          simp only [hFrg, d7, d9]
          clear d7 d9
          refine .inl ⟨rfl, ?_⟩
          unfold Reg.upon
          have hk := Hrgk.out 10 Lq wq (by decide)  hh.cls
          have hx : Xrg 10 wq wq := Hrgx.out wq
          have he : Erg 10 (.pointer (some ⟨ba, oa + (k + 1), none⟩)) wq := by rw [Hrge10.out]
          have HK := Lib.hid (And.intro hk (And.intro he hx))
          clear hk hx he
          go_simp
          exact HK.out
        · intro Lq wq xq hh
          have d10 : Erg 10 (xq 10) wq := hh.val 10 (by kernel_rfl) (by kernel_rfl)
          rw [Hrge10.out] at d10
          simp only [hFrg, d10]
          clear d10
          refine .inl ⟨rfl, ?_⟩
          unfold Reg.upon
          have hc : Crg Lq wq := hh.cls
          rw [HrghC.out] at hc
          have q2 := ((hc.2.1 (Mix.one_un (hh.notYet 15 (by kernel_rfl)))).2.cell (p := ⟨ba, oa + (k + 1), none⟩) HBA.out).trans HC2.out
          clear hc
          have hk := Hrgk.out 11 Lq wq (by decide)  hh.cls
          have hx : Xrg 11 wq wq := Hrgx.out wq
          have he : Erg 11 (.int .i64 (b : Int)) wq := by rw [Hrge11.out]
          have HK := Lib.hid (And.intro hk (And.intro he hx))
          clear hk hx he
          go_simp
          exact HK.out
        · intro Lq wq xq hh
          have d2 : Erg 2 (xq 2) wq := hh.val 2 (by kernel_rfl) (by kernel_rfl)
          rw [Hrge2.out] at d2
          have d6 : Erg 6 (xq 6) wq := hh.val 6 (by kernel_rfl) (by kernel_rfl)
          rw [Hrge6.out] at d6
          have d11 : Erg 11 (xq 11) wq := hh.val 11 (by kernel_rfl) (by kernel_rfl)
          rw [Hrge11.out] at d11
          simp only [hFrg, d2, d6, d11]
          clear d2 d6 d11
          refine .inl ⟨rfl, ?_⟩
          unfold Reg.upon
          have hk := Hrgk.out 12 Lq wq (by decide)  hh.cls
          have hx : Xrg 12 wq wq := Hrgx.out wq
          have he : Erg 12 (.slice (some ⟨bx, ox + a, none⟩) (b - a) (ca - a)) wq := by rw [Hrge12.out]
          have HK := Lib.hid (And.intro hk (And.intro he hx))
          clear hk hx he
          go_simp
          exact HK.out
        · intro Lq wq xq hh
          have d1 : Erg 1 (xq 1) wq := hh.val 1 (by kernel_rfl) (by kernel_rfl)
          rw [Hrge1.out] at d1
          have d12 : Erg 12 (xq 12) wq := hh.val 12 (by kernel_rfl) (by kernel_rfl)
          rw [Hrge12.out] at d12
          simp only [hFrg, d12]
          clear d12
          refine .inl ⟨rfl, ?_⟩
          unfold Reg.upon
          obtain ⟨g9, e9, h9⟩ := d1
          have hc : Crg Lq wq := hh.cls
          rw [HrghC.out] at hc
          have hw := HWW.out.trans ((hc.2.1 (Mix.one_un (hh.notYet 15 (by kernel_rfl)))).2.mono HWW.out.size)
          rw [e9]
          obtain ⟨v', w', hr, h2, hb1⟩ := int_copyH wq _ 34 g9 h9 _ (sliceL xs (a, b)) (HSLI.out wq hw) HSLN.out.2 HSLN.out.1 hc.2.2
          rw [exec_app rfl rfl rfl hr]
          refine ⟨Hrgk.out 13 Lq _ (by decide) (Hrgb.out Lq wq _ hh.cls hb1), ?_, Hrgxb.out wq _ hb1⟩
          rw [Hrge13.out]
          exact (ownE_ints (Z := fun b => wr.heap.size ≤ b) h2).held (fun b h _ => h)
        · intro Lq wq xq hh
          have d13 : Erg 13 (xq 13) wq := hh.val 13 (by kernel_rfl) (by kernel_rfl)
          rw [Hrge13.out] at d13
          simp only [hFrg]
          refine .inl ⟨rfl, ?_⟩
          unfold Reg.upon
          have hc : Crg Lq wq := hh.cls
          rw [HrghC.out] at hc
          obtain ⟨a3, c3, e3⟩ := d13.len
          have hb := (Below.refl wq.heap.size wq).alloc (Nat.le_refl _) (.cells [xq 13].toArray 34)
          have hh3 : HeldE rowE (fun b => wr.heap.size ≤ b) (wq.alloc (.cells [xq 13].toArray 34)) (.slice (some ⟨wq.heap.size, 0, none⟩) 1 1) [sliceL xs (a, b)] := heldE_one (Y := fun b => wr.heap.size ≤ b) [xq 13] _ ⟨_, rfl, d13⟩ (fun b _ h => h) hc.2.2
          rw [e3] at hb hh3 ⊢
          go_simp
          refine ⟨Hrgk.out 14 Lq _ (by decide) (Hrgb.out Lq wq _ hh.cls hb), ?_, Hrgxb.out wq _ hb⟩
          rw [Hrge14.out]
          exact hh3
        · intro Lq wq xq hh
          have d0 : Erg 0 (xq 0) wq := hh.val 0 (by kernel_rfl) (by kernel_rfl)
          rw [Hrge0.out] at d0
          have d14 : Erg 14 (xq 14) wq := hh.val 14 (by kernel_rfl) (by kernel_rfl)
          rw [Hrge14.out] at d14
          simp only [hFrg, d0]
          clear d0
          refine .inl ⟨rfl, ?_⟩
          unfold Reg.upon
          have hc : Crg Lq wq := hh.cls
          rw [HrghC.out] at hc
          have hc4 := hc.2.1 hh.un
          obtain ⟨v', w', hr, h1, h2, h3, h4⟩ := run_append_e (P := Tryz.prog) (E := rowE) (Z := fun b => w2.heap.size ≤ b) (w := wq) (B := w2.heap.size) (ty := 34) 28 _ (.slice none 0 0) 24 Tryz.underlying28 info_rs rfl (by decide) hc4.1 (d14.zoned (Y := fun b => w2.heap.size ≤ b ∧ ov.ownBlock ≠ some b) (fun b _ hz => ⟨Nat.le_trans HW2.out hz, fun e => by have := (HLO.out b e).2; omega⟩)) (by simp only [List.length_singleton]; have := HPL.out; omega) (by simp only [List.length_singleton]; have := HPL.out; omega) (Nat.le_trans HW2.out hc.2.2)
          rw [exec_app rfl rfl rfl hr]
          have hu : Upd (fun b => ov.ownBlock = some b) wq w' := ⟨h2.os, h2.tape, h2.output, h3.size, fun b hb hn => h3.block b hb hn⟩
          refine ⟨?_, ?_, ?_⟩
          · rw [HrghC.out]
            refine ⟨hc.1.trans h2, fun e => ?_, Nat.le_trans hc.2.2 h2.size⟩
            rw [Mix.one_set (by rw [hh.size]; decide)] at e; exact absurd e (by decide)
          · rw [Hrge15.out]; exact h1
          · rw [HrghX.out]; exact hu
        · intro Lq wq xq hh
          have d15 : Erg 15 (xq 15) wq := hh.val 15 (by kernel_rfl) (by kernel_rfl)
          rw [Hrge15.out] at d15
          simp only [hFrg]
          refine .inl ⟨rfl, ?_⟩
          unfold Reg.upon
          go_simp
          exact ⟨Hrgk.out 16 Lq wq (by decide) hh.cls, (by rw [Hrge16.out]; exact d15), Hrgx.out _⟩
      intro xq wrg hcrg hvrg
      rw [HrghC.out] at hcrg
      simp only [hFrg]
      have vrg16 : Erg 16 (xq 16) wrg := hvrg 16 (by decide)
      rw [Hrge16.out] at vrg16
      clear hvrg hFrg Hrgk Hrgx HrghE Hrgc HrghC HrghX Hrgb Hrgxb Hrge0 Hrge1 Hrge2 Hrge3 Hrge4 Hrge5 Hrge6 Hrge7 Hrge8 Hrge9 Hrge10 Hrge11 Hrge12 Hrge13 Hrge14 Hrge15 Hrge16
      have HF := Lib.hid (show OwnE rowE (fun b => w2.heap.size ≤ b) wrg w2.heap.size 34 (xq 16) ((cluA xs).take (k + 1)) from by rw [HTK.out]; exact vrg16)
      have HB := Lib.hid hcrg.1
      clear hcrg vrg16
      go_wp2
      go_roundw
      case rel => exact ⟨k + 1, by omega, by go_num, HF.out, HB.out⟩
      case measure => simp [intOf] <;> omega
    · obtain rfl : k = m := by omega
      have HF := Lib.hid (show MadeRow w (cluA xs) (.returned ov) wr from by
        have h := HO.out
        rw [List.take_of_length_le (by rw [HCL.out, ← HM.out]; exact Nat.le_refl _)] at h
        exact ⟨ov, rfl, (h.base HB2.out.size).keep (Y := fun b => w.heap.size ≤ b) (.refl _ _) (fun b _ hz => Nat.le_trans HB2.out.size hz), HB2.out.trans (HBW.out.mono HB2.out.size)⟩)
      go_wp2
      go_ret
      exact HF.out
end Go.Proofs.YtkpmmkokfllafaaGreat
