/- TabsKeep (57.1, 57.2) answers true at all columns, and turns nothing. No condition. -/
import Derived.Test.YtgkcobmbdpgceaaTbsW
import Derived.Test.YtgkcobmbdpgceaaTbsR
import Derived.Test.YtgkcobmbdpgceaaMg1
import Derived.Test.YtgkcobmbdpgceaaMg2
import Derived.Test.YtgkcobmbdpgceaaRows
import Derived.ProofKit
import Derived.Lib.MinMax
import Derived.Deep.Cut
namespace Go.Proofs.Ytgkcobmbdpgceaa.lawTabsKeep
open Go.ChangeShapes Go.WideShapes Go.ChangeAt Go.RowKit
def offF (F : Nat → Bool) (l : List Int) : Nat → Bool := l.foldl (fun F c => setF F c false) F
theorem offF_snoc (F : Nat → Bool) (l : List Int) (c : Int) : offF F (l ++ [c]) = setF (offF F l) c false := by unfold offF; rw [List.foldl_append]; rfl
theorem offF_iff (l : List Int) : ∀ (F : Nat → Bool) (k : Nat), offF F l k = true ↔ (F k = true ∧ ¬ ((k : Int) ∈ l ∧ 1 ≤ k ∧ k ≤ 1023)) := by
  induction l with
  | nil => intro F k; simp [offF]
  | cons c l ih =>
    intro F k
    rw [show offF F (c :: l) = offF (setF F c false) l from rfl, ih, List.mem_cons]
    unfold setF
    by_cases h : (k : Int) = c ∧ 1 ≤ c ∧ c ≤ 1023
    · rw [if_pos h]
      constructor
      · rintro ⟨h1, _⟩; cases h1
      · rintro ⟨_, h2⟩; exact absurd ⟨.inl h.1, by omega, by omega⟩ h2
    · rw [if_neg h]
      constructor
      · rintro ⟨h1, h2⟩
        refine ⟨h1, ?_⟩
        rintro ⟨h3 | h3, h4⟩
        · exact h ⟨h3, by omega, by omega⟩
        · exact h2 ⟨h3, h4⟩
      · rintro ⟨h1, h2⟩
        exact ⟨h1, fun e => h2 ⟨.inr e.1, e.2⟩⟩
def goneB (off : List Int) (c : Int) : Bool := off.any fun o => o == c
def wantL (off l : List Int) : List Int := l.filter fun c => !goneB off c
theorem goneB_iff (off : List Int) (c : Int) : goneB off c = true ↔ c ∈ off := by
  unfold goneB
  rw [List.any_eq_true]
  constructor
  · rintro ⟨x, h1, h2⟩
    rw [beq_iff_eq] at h2
    rw [← h2]; exact h1
  · intro h; exact ⟨c, h, by rw [beq_iff_eq]⟩
theorem want_mem (off l : List Int) (c : Int) : c ∈ wantL off l ↔ (c ∈ l ∧ c ∉ off) := by
  unfold wantL
  rw [List.mem_filter]
  have h := goneB_iff off c
  cases hg : goneB off c with
  | true =>
    rw [hg] at h
    constructor
    · rintro ⟨_, h2⟩; cases h2
    · rintro ⟨_, h2⟩; exact absurd (h.1 rfl) h2
  | false =>
    rw [hg] at h
    exact ⟨fun e => ⟨e.1, fun e2 => by have := h.2 e2; cases this⟩, fun e => ⟨e.1, rfl⟩⟩
theorem off_want (off cols : List Int) : offF (ofF cols) off = ofF (wantL off cols) := by
  funext k
  have h1 := offF_iff off (ofF cols) k
  have h2 := ofF_iff (wantL off cols) k
  have h3 := ofF_iff cols k
  have h4 := want_mem off cols (k : Int)
  have h : offF (ofF cols) off k = true ↔ ofF (wantL off cols) k = true := by
    rw [h1, h2, h3, h4]
    constructor
    · rintro ⟨⟨a, b⟩, c⟩; exact ⟨⟨a, fun e => c ⟨e, b⟩⟩, b⟩
    · rintro ⟨⟨a, b⟩, c⟩; exact ⟨⟨a, c⟩, fun e => b e.1⟩
  cases ha : offF (ofF cols) off k with
  | true => exact (h.1 ha).symm
  | false =>
    cases hb : ofF (wantL off cols) k with
    | false => rfl
    | true => exact ha.symm.trans (h.2 hb)
theorem gone_step (off : List Int) (c : Int) (k : Nat) (h : k < off.length) : goneB (off.take (k + 1)) c = (goneB (off.take k) c || off.getD k 0 == c) := by
  unfold goneB
  rw [List.take_succ_eq_append_getElem h, List.any_append, show off.getD k 0 = off[k] from by simp [List.getD, List.getElem?_eq_getElem h]]
  simp
theorem want_step (off l : List Int) (k : Nat) (h : k < l.length) : wantL off (l.take (k + 1)) = wantL off (l.take k) ++ if goneB off (l.getD k 0) = true then [] else [l.getD k 0] := by
  unfold wantL
  rw [List.take_succ_eq_append_getElem h, List.filter_append, show l.getD k 0 = l[k] from by simp [List.getD, List.getElem?_eq_getElem h]]
  cases hg : goneB off l[k] <;> simp [List.filter, hg]
theorem want_len (off l : List Int) : (wantL off l).length ≤ l.length := List.length_filter_le _ _
theorem allF_up (F : Nat → Bool) (k i : Nat) (h1 : i < (allF F k).length) (h0 : 0 < i) : (allF F k).getD (i - 1) 0 < (allF F k).getD i 0 := by
  have hp : (allF F k).Pairwise (· < ·) := by
    unfold allF
    exact List.Pairwise.map _ (fun a b h => by omega) ((List.pairwise_lt_range (n := k)).filter F)
  have := List.pairwise_iff_getElem.1 hp (i - 1) i (by omega) h1 (by omega)
  rw [show (allF F k).getD (i - 1) 0 = (allF F k)[i - 1] from by simp [List.getD, List.getElem?_eq_getElem (show i - 1 < (allF F k).length by omega)], show (allF F k).getD i 0 = (allF F k)[i] from by simp [List.getD, List.getElem?_eq_getElem h1]]
  exact this
theorem allF_has (l : List Int) (i : Nat) (h : i < (allF (ofF l) 1024).length) : hasC l ((allF (ofF l) 1024).getD i 0) = true := by
  have hm : (allF (ofF l) 1024).getD i 0 ∈ allF (ofF l) 1024 := by
    rw [show (allF (ofF l) 1024).getD i 0 = (allF (ofF l) 1024)[i] from by simp [List.getD, List.getElem?_eq_getElem h]]
    exact List.getElem_mem _
  obtain ⟨j, _, h2, h3⟩ := (allF_mem _ _ _).1 hm
  rw [h3, hasC_of]
  exact h2
set_option maxRecDepth 100000 in
set_option maxHeartbeats 6000000 in
theorem walkN (W : World) (v u : Value) (cols off : List Int) (cl : Int) (hv : Held .i64 W v cols) (hu : Held .i64 W u off) (hn : cols.length ≤ 60) (hm : off.length ≤ 60) : Calls Try.prog 8 #[v, u, .int .i64 cl] W (Yes W) := by
  obtain ⟨ao, ca, rfl⟩ := hv.len
  obtain ⟨bo, cb, rfl⟩ := hu.len
  have hd1 : decide ((60 : Int) < cols.length) = false := by rw [decide_eq_false_iff_not]; omega
  have hd2 : decide (60 < cols.length) = false := by rw [decide_eq_false_iff_not]; omega
  have hd3 : decide ((60 : Int) < off.length) = false := by rw [decide_eq_false_iff_not]; omega
  have hd4 : decide (60 < off.length) = false := by rw [decide_eq_false_iff_not]; omega
  have HOF := Lib.hid (show ∀ w', Below W.heap.size W w' → Calls Try.prog 29 #[.slice ao cols.length ca] w' (StMade w' (ofF cols)) from fun w' b => tof_any _ cols w' (hv.below b) (by omega))
  have HV := Lib.hid (show ∀ k, k < cols.length → ∃ b o, ao = some ⟨b, o, none⟩ ∧ b < W.heap.size ∧ W.cell? ⟨b, o + k, none⟩ = some (.int .i64 (cols.getD k 0)) from fun k hk => hv.spots k hk)
  have HU := Lib.hid (show ∀ k, k < off.length → ∃ b o, bo = some ⟨b, o, none⟩ ∧ b < W.heap.size ∧ W.cell? ⟨b, o + k, none⟩ = some (.int .i64 (off.getD k 0)) from fun k hk => hu.spots k hk)
  have HOT := Lib.hid (show ∀ k, k < off.length → off.take (k + 1) = off.take k ++ [off.getD k 0] from fun k hk => by
    rw [List.take_succ_eq_append_getElem hk, show off.getD k 0 = off[k] from by simp [List.getD, List.getElem?_eq_getElem hk]])
  have HGS := Lib.hid (fun c k h => gone_step off c k h)
  have HWS := Lib.hid (fun k h => want_step off cols k h)
  have HOW := Lib.hid (off_want off cols)
  have HWL := Lib.hid (show ∀ k, (wantL off (cols.take k)).length ≤ 60 from fun k => by have h1 := want_len off (cols.take k); rw [List.length_take] at h1; omega)
  obtain ⟨nl, hnl⟩ : ∃ nl, nl = cols.length := ⟨_, rfl⟩
  obtain ⟨ml, hml⟩ : ∃ ml, ml = off.length := ⟨_, rfl⟩
  rw [← hnl] at HOF HV HWS hd1 hd2 hn ⊢
  rw [← hml] at HU HOT HGS hd3 hd4 hm ⊢
  have HNL := Lib.hid hnl
  have HML := Lib.hid hml
  clear hv hu hnl hml
  go_enter Try.func8, Try.ntmps8
  go_wp2_with fail
  refine (works57_any _).mono ?_
  rintro e w1 ⟨rfl, b1⟩
  have B1 := Lib.hid b1
  clear b1
  have h1 := HOF.out w1 B1.out
  go_wp2_with fail
  refine h1.mono ?_
  clear h1 hd1 hd2 hd3 hd4
  rintro e w2 ⟨g, rfl, hg, hst, b2⟩
  have HST := Lib.hid hst
  have HG := Lib.hid hg
  have B2 := Lib.hid (B1.out.trans (b2.mono B1.out.size))
  have HBS := Lib.hid B1.out.size
  clear hst hg b2
  go_wp2
  go_loopw [9] (fun iv wr => ∃ k : Nat, k ≤ ml ∧ iv = .int .i64 k ∧ StAt wr g (offF (ofF cols) (off.take k)) ∧ Below W.heap.size W wr) (fun iv _ => ml - (intOf iv).toNat)
  case atStart => exact ⟨0, Nat.zero_le _, rfl, HST.out, B2.out⟩
  case round =>
    obtain ⟨k, hk, rfl, hst, hbw⟩ := hrel
    obtain ⟨wk, hwk⟩ : ∃ wk, wk = wr := ⟨_, rfl⟩
    subst hwk
    have HK := Lib.hid hst
    have HBW := Lib.hid hbw
    clear hst hbw
    by_cases hlt : k < ml
    · obtain ⟨b, o, e, hb, hc⟩ := HU.out k hlt
      subst e
      have c0 := (HBW.out.cell (p := ⟨b, o + k, none⟩) hb).trans hc
      have hset := tset_any g (offF (ofF cols) (off.take k)) (off.getD k 0) false wk HK.out
      rw [← offF_snoc, ← HOT.out k hlt] at hset
      obtain ⟨x, hx⟩ : ∃ x, x = off.getD k 0 := ⟨_, rfl⟩
      rw [← hx] at c0 hset
      have hki : (k : Int) < (ml : Int) := by omega
      have hwk : IntKind.i64.wrap ((k : Int) + 1) = (k : Int) + 1 := by rw [IntKind.wrap_i64]; omega
      clear hc hx hb
      go_wp2_with fail
      refine hset.mono ?_
      clear hset
      rintro e w3 ⟨rfl, h1, h2⟩
      have HF1 := Lib.hid h1
      have HF2 := Lib.hid (HBW.out.upd h2 HBW.out.size (fun b e => by have := HG.out; have := HBS.out; omega))
      clear h1 h2
      go_wp2
      go_roundw
      case rel => exact ⟨k + 1, by omega, by go_num, HF1.out, HF2.out⟩
      case measure => simp [intOf] <;> omega
    · obtain rfl : k = ml := by omega
      have hst := HK.out
      rw [show off.take k = off from by rw [HML.out, List.take_length], HOW.out] at hst
      have HS2 := Lib.hid hst
      clear hst HK
      go_wp2
      go_loopw [8, 10] (fun av iv wr => ∃ i : Nat, i ≤ nl ∧ iv = .int .i64 i ∧ OwnE (intE .i64) (fun _ => True) wr wk.heap.size 3 av (wantL off (cols.take i)) ∧ Below wk.heap.size wk wr) (fun _ iv _ => nl - (intOf iv).toNat)
      case atStart => exact ⟨0, Nat.zero_le _, rfl, OwnE.nil _ _ _ _ _, Below.refl _ _⟩
      case round =>
        obtain ⟨i, hi, rfl, hown, hbw⟩ := hrel
        obtain ⟨av, hav⟩ : ∃ av, av = u8 := ⟨_, rfl⟩
        rw [← hav] at hown ⊢
        obtain ⟨wi, hwi⟩ : ∃ wi, wi = wr := ⟨_, rfl⟩
        subst hwi
        have HO := Lib.hid hown
        have HBI := Lib.hid hbw
        clear hav hown hbw
        by_cases hlti : i < nl
        · obtain ⟨b1, off1, e1, hb1, hc1⟩ := HV.out i hlti
          subst e1
          have HBWI := Lib.hid (HBW.out.trans (HBI.out.mono HBW.out.size))
          have hci := (HBWI.out.cell (p := ⟨b1, off1 + i, none⟩) hb1).trans hc1
          have hws := HWS.out i hlti
          have HWLI := Lib.hid (HWL.out i)
          obtain ⟨ci, hcie⟩ : ∃ ci, ci = cols.getD i 0 := ⟨_, rfl⟩
          rw [← hcie] at hci hws
          have HCI0 := Lib.hid hci
          have HLB10 := Lib.hid (World.block_lt_of_cell? _ _ hci)
          have hwii : IntKind.i64.wrap ((i : Int) + 1) = (i : Int) + 1 := by rw [IntKind.wrap_i64]; omega
          have hii : (i : Int) < (nl : Int) := by omega
          have HWSS := Lib.hid hws
          have hci0 := hci
          clear hc1 hcie hws hci
          go_wp2
          go_loopw [11, 12] (fun gv kv wr => ∃ k9 : Nat, k9 ≤ k ∧ kv = .int .i64 k9 ∧ gv = .bool (goneB (off.take k9) ci) ∧ Below wi.heap.size wi wr) (fun _ kv _ => k - (intOf kv).toNat)
          case atStart => exact ⟨0, Nat.zero_le _, rfl, rfl, Below.refl _ _⟩
          case round =>
            obtain ⟨k9, hk9, rfl, hgv, hbw⟩ := hrel
            obtain ⟨gv, hgv0⟩ : ∃ gv, gv = u11 := ⟨_, rfl⟩
            rw [← hgv0] at hgv ⊢
            subst hgv
            obtain ⟨wq, hwq⟩ : ∃ wq, wq = wr := ⟨_, rfl⟩
            subst hwq
            have HBQ := Lib.hid hbw
            clear hgv0 hbw hci0
            by_cases hlt9 : k9 < k
            · obtain ⟨b2, off2, e2, hb2, hc2⟩ := HU.out k9 hlt9
              subst e2
              have hok := ((HBWI.out.trans (HBQ.out.mono HBWI.out.size)).cell (p := ⟨b2, off2 + k9, none⟩) hb2).trans hc2
              have hci := (HBQ.out.cell (p := ⟨b1, off1 + i, none⟩) HLB10.out).trans HCI0.out
              have hgs := HGS.out ci k9 hlt9
              obtain ⟨ok, hoke⟩ : ∃ ok, ok = off.getD k9 0 := ⟨_, rfl⟩
              rw [← hoke] at hok hgs
              have HOK := Lib.hid hok
              have HCI := Lib.hid hci
              have HLB1 := Lib.hid (World.block_lt_of_cell? _ _ hci)
              have HLB2 := Lib.hid (World.block_lt_of_cell? _ _ hok)
              have HGSS := Lib.hid hgs
              have hwk9 : IntKind.i64.wrap ((k9 : Int) + 1) = (k9 : Int) + 1 := by rw [IntKind.wrap_i64]; omega
              have hk9i : (k9 : Int) < (k : Int) := by omega
              clear hc2 hb2 hoke hok hci hgs
              cases hgb : goneB (off.take k9) ci with
              | true =>
                rw [hgb] at HGSS
                clear hgb
                go_wp2
                obtain ⟨Ergt, hErgt⟩ : ∃ EE : Nat → Value → World → Prop, EE = fun jj xx ww => match jj with
                    | 0 => xx = .bool true
                    | 1 => xx = .bool true
                    | 2 => xx = undef
                    | 3 => xx = undef
                    | 4 => xx = undef
                    | 5 => xx = undef
                    | 6 => xx = undef
                    | 7 => xx = undef
                    | 8 => xx = undef
                    | 9 => xx = undef
                    | 10 => xx = undef
                    | 11 => xx = .bool true
                    | 12 => xx = .bool true
                    | _ => True := ⟨_, rfl⟩
                have ergt0 : ∀ xx ww, Ergt 0 xx ww = (xx = .bool true) := fun xx ww => congrFun (congrFun (congrFun hErgt 0) xx) ww
                have ergt1 : ∀ xx ww, Ergt 1 xx ww = (xx = .bool true) := fun xx ww => congrFun (congrFun (congrFun hErgt 1) xx) ww
                have ergt2 : ∀ xx ww, Ergt 2 xx ww = (xx = undef) := fun xx ww => congrFun (congrFun (congrFun hErgt 2) xx) ww
                have ergt3 : ∀ xx ww, Ergt 3 xx ww = (xx = undef) := fun xx ww => congrFun (congrFun (congrFun hErgt 3) xx) ww
                have ergt4 : ∀ xx ww, Ergt 4 xx ww = (xx = undef) := fun xx ww => congrFun (congrFun (congrFun hErgt 4) xx) ww
                have ergt5 : ∀ xx ww, Ergt 5 xx ww = (xx = undef) := fun xx ww => congrFun (congrFun (congrFun hErgt 5) xx) ww
                have ergt6 : ∀ xx ww, Ergt 6 xx ww = (xx = undef) := fun xx ww => congrFun (congrFun (congrFun hErgt 6) xx) ww
                have ergt7 : ∀ xx ww, Ergt 7 xx ww = (xx = undef) := fun xx ww => congrFun (congrFun (congrFun hErgt 7) xx) ww
                have ergt8 : ∀ xx ww, Ergt 8 xx ww = (xx = undef) := fun xx ww => congrFun (congrFun (congrFun hErgt 8) xx) ww
                have ergt9 : ∀ xx ww, Ergt 9 xx ww = (xx = undef) := fun xx ww => congrFun (congrFun (congrFun hErgt 9) xx) ww
                have ergt10 : ∀ xx ww, Ergt 10 xx ww = (xx = undef) := fun xx ww => congrFun (congrFun (congrFun hErgt 10) xx) ww
                have ergt11 : ∀ xx ww, Ergt 11 xx ww = (xx = .bool true) := fun xx ww => congrFun (congrFun (congrFun hErgt 11) xx) ww
                have ergt12 : ∀ xx ww, Ergt 12 xx ww = (xx = .bool true) := fun xx ww => congrFun (congrFun (congrFun hErgt 12) xx) ww
                obtain ⟨Crgt, hCrgt⟩ : ∃ CC : Array Bool → World → Prop, CC = fun L8 w' => Below wq.heap.size wq w' := ⟨_, rfl⟩
                have krgt : ∀ i L w,  Crgt L w → Crgt (L.setIfInBounds i true) w := by
                  intro i L w  h
                  rw [hCrgt] at h ⊢
                  exact h
                obtain ⟨Xrgt, hXrgt⟩ : ∃ XX : World → World → Prop, XX = fun x y => True := ⟨_, rfl⟩
                have xrgt : ∀ w, Xrgt w w := fun w => by rw [hXrgt]; exact trivial
                have strgt : ∀ j x w w1, Xrgt w w1 → Ergt j x w → Ergt j x w1 := by
                  intro j x w w1 hx h
                  rw [hXrgt] at hx
                  match j with
                  | 0 => rw [ergt0] at h ⊢; exact h
                  | 1 => rw [ergt1] at h ⊢; exact h
                  | 2 => rw [ergt2] at h ⊢; exact h
                  | 3 => rw [ergt3] at h ⊢; exact h
                  | 4 => rw [ergt4] at h ⊢; exact h
                  | 5 => rw [ergt5] at h ⊢; exact h
                  | 6 => rw [ergt6] at h ⊢; exact h
                  | 7 => rw [ergt7] at h ⊢; exact h
                  | 8 => rw [ergt8] at h ⊢; exact h
                  | 9 => rw [ergt9] at h ⊢; exact h
                  | 10 => rw [ergt10] at h ⊢; exact h
                  | 11 => rw [ergt11] at h ⊢; exact h
                  | 12 => rw [ergt12] at h ⊢; exact h
                  | j + 13 => rw [hErgt]; trivial
                have crgt : Crgt (Array.replicate 13 false) wq.drew := by rw [hCrgt]; exact (Below.refl _ _).drew
                have brgt : ∀ L w w1, Crgt L w → Below w.heap.size w w1 → Crgt L w1 := by
                  intro L w w1 h hb
                  rw [hCrgt] at h ⊢
                  exact h.trans (hb.mono h.size)
                have xbrgt : ∀ w w1, Below w.heap.size w w1 → Xrgt w w1 := by
                  intro w w1 hb
                  rw [hXrgt]
                  trivial
                have Hrgtb := Lib.hid brgt
                have Hrgtxb := Lib.hid xbrgt
                clear brgt xbrgt
                clear hErgt
                have Hrgtk := Lib.hid krgt
                have Hrgtx := Lib.hid xrgt
                have Hrgtst := Lib.hid strgt
                have Hrgtc := Lib.hid crgt
                have HrgthC := Lib.hid hCrgt
                have HrgthX := Lib.hid hXrgt
                have Hrgte0 := Lib.hid ergt0
                have Hrgte1 := Lib.hid ergt1
                have Hrgte2 := Lib.hid ergt2
                have Hrgte3 := Lib.hid ergt3
                have Hrgte4 := Lib.hid ergt4
                have Hrgte5 := Lib.hid ergt5
                have Hrgte6 := Lib.hid ergt6
                have Hrgte7 := Lib.hid ergt7
                have Hrgte8 := Lib.hid ergt8
                have Hrgte9 := Lib.hid ergt9
                have Hrgte10 := Lib.hid ergt10
                have Hrgte11 := Lib.hid ergt11
                have Hrgte12 := Lib.hid ergt12
                clear krgt xrgt strgt crgt hCrgt hXrgt ergt0 ergt1 ergt2 ergt3 ergt4 ergt5 ergt6 ergt7 ergt8 ergt9 ergt10 ergt11 ergt12
                go_wp2_with fail
                refine Reg.regionF Ergt Crgt Xrgt Hrgtst.out (by kernel_rfl) (by kernel_rfl) (by kernel_rfl) Hrgtc.out (fun Frgt hFrgt => ?_)
                simp only [Reg.frame, Reg.dsts, List.map_cons, List.map_nil, Mix.put_lit, List.set_cons_succ, List.set_cons_zero, Nat.zero_add, Nat.reduceAdd] at hFrgt
                refine ⟨?_, ?_⟩
                · refine ⟨?_, ?_, ?_, ?_, ?_, ?_, ?_, ?_, ?_, ?_, ?_, ?_, ?_, trivial⟩
                  · intro Lq wq xq hh
                    have d12 := hh.old 12 (by kernel_rfl)
                    simp only [hFrgt, d12]
                    clear d12
                    refine .inl ⟨rfl, ?_⟩
                    unfold Reg.upon
                    have hk := Hrgtk.out 0 Lq wq  hh.cls
                    have hx := Hrgtx.out wq
                    have he : Ergt 0 (.bool true) wq := by rw [Hrgte0.out]
                    have HK := Lib.hid (And.intro hk (And.intro he hx))
                    clear hk hx he
                    go_simp
                    exact HK.out
                  · intro Lq wq xq hh
                    have d0 : Ergt 0 (xq 0) wq := hh.val 0 (by kernel_rfl) (by kernel_rfl)
                    rw [Hrgte0.out] at d0
                    simp only [hFrgt, d0]
                    clear d0
                    refine .inl ⟨rfl, ?_⟩
                    unfold Reg.upon
                    have hk := Hrgtk.out 1 Lq wq  hh.cls
                    have hx := Hrgtx.out wq
                    have he : Ergt 1 (.bool true) wq := by rw [Hrgte1.out]
                    have HK := Lib.hid (And.intro hk (And.intro he hx))
                    clear hk hx he
                    go_simp
                    exact HK.out
                  · intro Lq wq xq hh
                    have d1 : Ergt 1 (xq 1) wq := hh.val 1 (by kernel_rfl) (by kernel_rfl)
                    rw [Hrgte1.out] at d1
                    simp only [hFrgt, d1]
                    clear d1
                    exact .inr ⟨rfl, Hrgtk.out 2 Lq wq  hh.cls, (by rw [Hrgte2.out])⟩
                  · intro Lq wq xq hh
                    have d1 : Ergt 1 (xq 1) wq := hh.val 1 (by kernel_rfl) (by kernel_rfl)
                    rw [Hrgte1.out] at d1
                    simp only [hFrgt, d1]
                    clear d1
                    exact .inr ⟨rfl, Hrgtk.out 3 Lq wq  hh.cls, (by rw [Hrgte3.out])⟩
                  · intro Lq wq xq hh
                    have d1 : Ergt 1 (xq 1) wq := hh.val 1 (by kernel_rfl) (by kernel_rfl)
                    rw [Hrgte1.out] at d1
                    have d2 : Ergt 2 (xq 2) wq := hh.val 2 (by kernel_rfl) (by kernel_rfl)
                    rw [Hrgte2.out] at d2
                    have d3 : Ergt 3 (xq 3) wq := hh.val 3 (by kernel_rfl) (by kernel_rfl)
                    rw [Hrgte3.out] at d3
                    simp only [hFrgt, d1, d2, d3]
                    clear d1 d2 d3
                    exact .inr ⟨rfl, Hrgtk.out 4 Lq wq  hh.cls, (by rw [Hrgte4.out])⟩
                  · intro Lq wq xq hh
                    have d1 : Ergt 1 (xq 1) wq := hh.val 1 (by kernel_rfl) (by kernel_rfl)
                    rw [Hrgte1.out] at d1
                    have d4 : Ergt 4 (xq 4) wq := hh.val 4 (by kernel_rfl) (by kernel_rfl)
                    rw [Hrgte4.out] at d4
                    simp only [hFrgt, d1, d4]
                    clear d1 d4
                    exact .inr ⟨rfl, Hrgtk.out 5 Lq wq  hh.cls, (by rw [Hrgte5.out])⟩
                  · intro Lq wq xq hh
                    have d1 : Ergt 1 (xq 1) wq := hh.val 1 (by kernel_rfl) (by kernel_rfl)
                    rw [Hrgte1.out] at d1
                    simp only [hFrgt, d1]
                    clear d1
                    exact .inr ⟨rfl, Hrgtk.out 6 Lq wq  hh.cls, (by rw [Hrgte6.out])⟩
                  · intro Lq wq xq hh
                    have d1 : Ergt 1 (xq 1) wq := hh.val 1 (by kernel_rfl) (by kernel_rfl)
                    rw [Hrgte1.out] at d1
                    simp only [hFrgt, d1]
                    clear d1
                    exact .inr ⟨rfl, Hrgtk.out 7 Lq wq  hh.cls, (by rw [Hrgte7.out])⟩
                  · intro Lq wq xq hh
                    have d1 : Ergt 1 (xq 1) wq := hh.val 1 (by kernel_rfl) (by kernel_rfl)
                    rw [Hrgte1.out] at d1
                    have d6 : Ergt 6 (xq 6) wq := hh.val 6 (by kernel_rfl) (by kernel_rfl)
                    rw [Hrgte6.out] at d6
                    have d7 : Ergt 7 (xq 7) wq := hh.val 7 (by kernel_rfl) (by kernel_rfl)
                    rw [Hrgte7.out] at d7
                    simp only [hFrgt, d1, d6, d7]
                    clear d1 d6 d7
                    exact .inr ⟨rfl, Hrgtk.out 8 Lq wq  hh.cls, (by rw [Hrgte8.out])⟩
                  · intro Lq wq xq hh
                    have d1 : Ergt 1 (xq 1) wq := hh.val 1 (by kernel_rfl) (by kernel_rfl)
                    rw [Hrgte1.out] at d1
                    have d8 : Ergt 8 (xq 8) wq := hh.val 8 (by kernel_rfl) (by kernel_rfl)
                    rw [Hrgte8.out] at d8
                    simp only [hFrgt, d1, d8]
                    clear d1 d8
                    exact .inr ⟨rfl, Hrgtk.out 9 Lq wq  hh.cls, (by rw [Hrgte9.out])⟩
                  · intro Lq wq xq hh
                    have d1 : Ergt 1 (xq 1) wq := hh.val 1 (by kernel_rfl) (by kernel_rfl)
                    rw [Hrgte1.out] at d1
                    have d5 : Ergt 5 (xq 5) wq := hh.val 5 (by kernel_rfl) (by kernel_rfl)
                    rw [Hrgte5.out] at d5
                    have d9 : Ergt 9 (xq 9) wq := hh.val 9 (by kernel_rfl) (by kernel_rfl)
                    rw [Hrgte9.out] at d9
                    simp only [hFrgt, d1, d5, d9]
                    clear d1 d5 d9
                    exact .inr ⟨rfl, Hrgtk.out 10 Lq wq  hh.cls, (by rw [Hrgte10.out])⟩
                  · intro Lq wq xq hh
                    have d1 : Ergt 1 (xq 1) wq := hh.val 1 (by kernel_rfl) (by kernel_rfl)
                    rw [Hrgte1.out] at d1
                    have d10 : Ergt 10 (xq 10) wq := hh.val 10 (by kernel_rfl) (by kernel_rfl)
                    rw [Hrgte10.out] at d10
                    simp only [hFrgt, d1, d10]
                    clear d1 d10
                    refine .inl ⟨rfl, ?_⟩
                    unfold Reg.upon
                    have hk := Hrgtk.out 11 Lq wq  hh.cls
                    have hx := Hrgtx.out wq
                    have he : Ergt 11 (.bool true) wq := by rw [Hrgte11.out]
                    have HK := Lib.hid (And.intro hk (And.intro he hx))
                    clear hk hx he
                    go_simp
                    exact HK.out
                  · intro Lq wq xq hh
                    have d11 : Ergt 11 (xq 11) wq := hh.val 11 (by kernel_rfl) (by kernel_rfl)
                    rw [Hrgte11.out] at d11
                    simp only [hFrgt, d11]
                    clear d11
                    refine .inl ⟨rfl, ?_⟩
                    unfold Reg.upon
                    have hk := Hrgtk.out 12 Lq wq  hh.cls
                    have hx := Hrgtx.out wq
                    have he : Ergt 12 (.bool true) wq := by rw [Hrgte12.out]
                    have HK := Lib.hid (And.intro hk (And.intro he hx))
                    clear hk hx he
                    go_simp
                    exact HK.out
                intro xq wrgt hcrgt hvrgt
                rw [HrgthC.out] at hcrgt
                simp only [hFrgt]
                have vrgt12 : Ergt 12 (xq 12) wrgt := hvrgt 12 (by decide)
                rw [Hrgte12.out] at vrgt12
                rw [vrgt12]
                clear hvrgt hFrgt Hrgtk Hrgtx Hrgtst Hrgtc HrgthC HrgthX Hrgtb Hrgtxb Hrgte0 Hrgte1 Hrgte2 Hrgte3 Hrgte4 Hrgte5 Hrgte6 Hrgte7 Hrgte8 Hrgte9 Hrgte10 Hrgte11 Hrgte12
                have HFB := Lib.hid (HBQ.out.trans (hcrgt.mono HBQ.out.size))
                clear hcrgt
                try clear vrgt12
                go_wp2
                go_roundw
                case rel => exact ⟨k9 + 1, by omega, by go_num, by rw [HGSS.out]; rfl, HFB.out⟩
                case measure => simp [intOf] <;> omega
              | false =>
                rw [hgb, Bool.false_or] at HGSS
                clear hgb
                go_wp2
                obtain ⟨Ergf, hErgf⟩ : ∃ EE : Nat → Value → World → Prop, EE = fun jj xx ww => match jj with
                    | 0 => xx = .bool false
                    | 1 => xx = .bool false
                    | 2 => xx = .slice (some ⟨b2, off2, none⟩) k cb
                    | 3 => xx = .int .i64 (k9 : Int)
                    | 4 => xx = .pointer (some ⟨b2, off2 + k9, none⟩)
                    | 5 => xx = .int .i64 ok
                    | 6 => xx = .slice (some ⟨b1, off1, none⟩) nl ca
                    | 7 => xx = .int .i64 (i : Int)
                    | 8 => xx = .pointer (some ⟨b1, off1 + i, none⟩)
                    | 9 => xx = .int .i64 ci
                    | 10 => xx = .bool (ok == ci)
                    | 11 => xx = .bool (ok == ci)
                    | 12 => xx = .bool (ok == ci)
                    | _ => True := ⟨_, rfl⟩
                have ergf0 : ∀ xx ww, Ergf 0 xx ww = (xx = .bool false) := fun xx ww => congrFun (congrFun (congrFun hErgf 0) xx) ww
                have ergf1 : ∀ xx ww, Ergf 1 xx ww = (xx = .bool false) := fun xx ww => congrFun (congrFun (congrFun hErgf 1) xx) ww
                have ergf2 : ∀ xx ww, Ergf 2 xx ww = (xx = .slice (some ⟨b2, off2, none⟩) k cb) := fun xx ww => congrFun (congrFun (congrFun hErgf 2) xx) ww
                have ergf3 : ∀ xx ww, Ergf 3 xx ww = (xx = .int .i64 (k9 : Int)) := fun xx ww => congrFun (congrFun (congrFun hErgf 3) xx) ww
                have ergf4 : ∀ xx ww, Ergf 4 xx ww = (xx = .pointer (some ⟨b2, off2 + k9, none⟩)) := fun xx ww => congrFun (congrFun (congrFun hErgf 4) xx) ww
                have ergf5 : ∀ xx ww, Ergf 5 xx ww = (xx = .int .i64 ok) := fun xx ww => congrFun (congrFun (congrFun hErgf 5) xx) ww
                have ergf6 : ∀ xx ww, Ergf 6 xx ww = (xx = .slice (some ⟨b1, off1, none⟩) nl ca) := fun xx ww => congrFun (congrFun (congrFun hErgf 6) xx) ww
                have ergf7 : ∀ xx ww, Ergf 7 xx ww = (xx = .int .i64 (i : Int)) := fun xx ww => congrFun (congrFun (congrFun hErgf 7) xx) ww
                have ergf8 : ∀ xx ww, Ergf 8 xx ww = (xx = .pointer (some ⟨b1, off1 + i, none⟩)) := fun xx ww => congrFun (congrFun (congrFun hErgf 8) xx) ww
                have ergf9 : ∀ xx ww, Ergf 9 xx ww = (xx = .int .i64 ci) := fun xx ww => congrFun (congrFun (congrFun hErgf 9) xx) ww
                have ergf10 : ∀ xx ww, Ergf 10 xx ww = (xx = .bool (ok == ci)) := fun xx ww => congrFun (congrFun (congrFun hErgf 10) xx) ww
                have ergf11 : ∀ xx ww, Ergf 11 xx ww = (xx = .bool (ok == ci)) := fun xx ww => congrFun (congrFun (congrFun hErgf 11) xx) ww
                have ergf12 : ∀ xx ww, Ergf 12 xx ww = (xx = .bool (ok == ci)) := fun xx ww => congrFun (congrFun (congrFun hErgf 12) xx) ww
                obtain ⟨Crgf, hCrgf⟩ : ∃ CC : Array Bool → World → Prop, CC = fun L8 w' => Below wq.heap.size wq w' := ⟨_, rfl⟩
                have krgf : ∀ i L w,  Crgf L w → Crgf (L.setIfInBounds i true) w := by
                  intro i L w  h
                  rw [hCrgf] at h ⊢
                  exact h
                obtain ⟨Xrgf, hXrgf⟩ : ∃ XX : World → World → Prop, XX = fun x y => True := ⟨_, rfl⟩
                have xrgf : ∀ w, Xrgf w w := fun w => by rw [hXrgf]; exact trivial
                have strgf : ∀ j x w w1, Xrgf w w1 → Ergf j x w → Ergf j x w1 := by
                  intro j x w w1 hx h
                  rw [hXrgf] at hx
                  match j with
                  | 0 => rw [ergf0] at h ⊢; exact h
                  | 1 => rw [ergf1] at h ⊢; exact h
                  | 2 => rw [ergf2] at h ⊢; exact h
                  | 3 => rw [ergf3] at h ⊢; exact h
                  | 4 => rw [ergf4] at h ⊢; exact h
                  | 5 => rw [ergf5] at h ⊢; exact h
                  | 6 => rw [ergf6] at h ⊢; exact h
                  | 7 => rw [ergf7] at h ⊢; exact h
                  | 8 => rw [ergf8] at h ⊢; exact h
                  | 9 => rw [ergf9] at h ⊢; exact h
                  | 10 => rw [ergf10] at h ⊢; exact h
                  | 11 => rw [ergf11] at h ⊢; exact h
                  | 12 => rw [ergf12] at h ⊢; exact h
                  | j + 13 => rw [hErgf]; trivial
                have crgf : Crgf (Array.replicate 13 false) wq.drew := by rw [hCrgf]; exact (Below.refl _ _).drew
                have brgf : ∀ L w w1, Crgf L w → Below w.heap.size w w1 → Crgf L w1 := by
                  intro L w w1 h hb
                  rw [hCrgf] at h ⊢
                  exact h.trans (hb.mono h.size)
                have xbrgf : ∀ w w1, Below w.heap.size w w1 → Xrgf w w1 := by
                  intro w w1 hb
                  rw [hXrgf]
                  trivial
                have Hrgfb := Lib.hid brgf
                have Hrgfxb := Lib.hid xbrgf
                clear brgf xbrgf
                clear hErgf
                have Hrgfk := Lib.hid krgf
                have Hrgfx := Lib.hid xrgf
                have Hrgfst := Lib.hid strgf
                have Hrgfc := Lib.hid crgf
                have HrgfhC := Lib.hid hCrgf
                have HrgfhX := Lib.hid hXrgf
                have Hrgfe0 := Lib.hid ergf0
                have Hrgfe1 := Lib.hid ergf1
                have Hrgfe2 := Lib.hid ergf2
                have Hrgfe3 := Lib.hid ergf3
                have Hrgfe4 := Lib.hid ergf4
                have Hrgfe5 := Lib.hid ergf5
                have Hrgfe6 := Lib.hid ergf6
                have Hrgfe7 := Lib.hid ergf7
                have Hrgfe8 := Lib.hid ergf8
                have Hrgfe9 := Lib.hid ergf9
                have Hrgfe10 := Lib.hid ergf10
                have Hrgfe11 := Lib.hid ergf11
                have Hrgfe12 := Lib.hid ergf12
                clear krgf xrgf strgf crgf hCrgf hXrgf ergf0 ergf1 ergf2 ergf3 ergf4 ergf5 ergf6 ergf7 ergf8 ergf9 ergf10 ergf11 ergf12
                go_wp2_with fail
                refine Reg.regionF Ergf Crgf Xrgf Hrgfst.out (by kernel_rfl) (by kernel_rfl) (by kernel_rfl) Hrgfc.out (fun Frgf hFrgf => ?_)
                simp only [Reg.frame, Reg.dsts, List.map_cons, List.map_nil, Mix.put_lit, List.set_cons_succ, List.set_cons_zero, Nat.zero_add, Nat.reduceAdd] at hFrgf
                refine ⟨?_, ?_⟩
                · refine ⟨?_, ?_, ?_, ?_, ?_, ?_, ?_, ?_, ?_, ?_, ?_, ?_, ?_, trivial⟩
                  · intro Lq wq xq hh
                    have d12 := hh.old 12 (by kernel_rfl)
                    simp only [hFrgf, d12]
                    clear d12
                    refine .inl ⟨rfl, ?_⟩
                    unfold Reg.upon
                    have hk := Hrgfk.out 0 Lq wq  hh.cls
                    have hx := Hrgfx.out wq
                    have he : Ergf 0 (.bool false) wq := by rw [Hrgfe0.out]
                    have HK := Lib.hid (And.intro hk (And.intro he hx))
                    clear hk hx he
                    go_simp
                    exact HK.out
                  · intro Lq wq xq hh
                    have d0 : Ergf 0 (xq 0) wq := hh.val 0 (by kernel_rfl) (by kernel_rfl)
                    rw [Hrgfe0.out] at d0
                    simp only [hFrgf, d0]
                    clear d0
                    refine .inl ⟨rfl, ?_⟩
                    unfold Reg.upon
                    have hk := Hrgfk.out 1 Lq wq  hh.cls
                    have hx := Hrgfx.out wq
                    have he : Ergf 1 (.bool false) wq := by rw [Hrgfe1.out]
                    have HK := Lib.hid (And.intro hk (And.intro he hx))
                    clear hk hx he
                    go_simp
                    exact HK.out
                  · intro Lq wq xq hh
                    have d1 : Ergf 1 (xq 1) wq := hh.val 1 (by kernel_rfl) (by kernel_rfl)
                    rw [Hrgfe1.out] at d1
                    simp only [hFrgf, d1]
                    clear d1
                    refine .inl ⟨rfl, ?_⟩
                    unfold Reg.upon
                    have hk := Hrgfk.out 2 Lq wq  hh.cls
                    have hx := Hrgfx.out wq
                    have he : Ergf 2 (.slice (some ⟨b2, off2, none⟩) k cb) wq := by rw [Hrgfe2.out]
                    have HK := Lib.hid (And.intro hk (And.intro he hx))
                    clear hk hx he
                    go_simp
                    exact HK.out
                  · intro Lq wq xq hh
                    have d1 : Ergf 1 (xq 1) wq := hh.val 1 (by kernel_rfl) (by kernel_rfl)
                    rw [Hrgfe1.out] at d1
                    simp only [hFrgf, d1]
                    clear d1
                    refine .inl ⟨rfl, ?_⟩
                    unfold Reg.upon
                    have hk := Hrgfk.out 3 Lq wq  hh.cls
                    have hx := Hrgfx.out wq
                    have he : Ergf 3 (.int .i64 (k9 : Int)) wq := by rw [Hrgfe3.out]
                    have HK := Lib.hid (And.intro hk (And.intro he hx))
                    clear hk hx he
                    go_simp
                    exact HK.out
                  · intro Lq wq xq hh
                    have d1 : Ergf 1 (xq 1) wq := hh.val 1 (by kernel_rfl) (by kernel_rfl)
                    rw [Hrgfe1.out] at d1
                    have d2 : Ergf 2 (xq 2) wq := hh.val 2 (by kernel_rfl) (by kernel_rfl)
                    rw [Hrgfe2.out] at d2
                    have d3 : Ergf 3 (xq 3) wq := hh.val 3 (by kernel_rfl) (by kernel_rfl)
                    rw [Hrgfe3.out] at d3
                    simp only [hFrgf, d1, d2, d3]
                    clear d1 d2 d3
                    refine .inl ⟨rfl, ?_⟩
                    unfold Reg.upon
                    have hk := Hrgfk.out 4 Lq wq  hh.cls
                    have hx := Hrgfx.out wq
                    have he : Ergf 4 (.pointer (some ⟨b2, off2 + k9, none⟩)) wq := by rw [Hrgfe4.out]
                    have HK := Lib.hid (And.intro hk (And.intro he hx))
                    clear hk hx he
                    go_simp
                    exact HK.out
                  · intro Lq wq xq hh
                    have d1 : Ergf 1 (xq 1) wq := hh.val 1 (by kernel_rfl) (by kernel_rfl)
                    rw [Hrgfe1.out] at d1
                    have d4 : Ergf 4 (xq 4) wq := hh.val 4 (by kernel_rfl) (by kernel_rfl)
                    rw [Hrgfe4.out] at d4
                    simp only [hFrgf, d1, d4]
                    clear d1 d4
                    refine .inl ⟨rfl, ?_⟩
                    unfold Reg.upon
                    have hc : Crgf Lq wq := hh.cls
                    rw [HrgfhC.out] at hc
                    have q0 := (hc.cell (p := ⟨b2, off2 + k9, none⟩) HLB2.out).trans HOK.out
                    clear hc
                    have hk := Hrgfk.out 5 Lq wq  hh.cls
                    have hx := Hrgfx.out wq
                    have he : Ergf 5 (.int .i64 ok) wq := by rw [Hrgfe5.out]
                    have HK := Lib.hid (And.intro hk (And.intro he hx))
                    clear hk hx he
                    go_simp
                    exact HK.out
                  · intro Lq wq xq hh
                    have d1 : Ergf 1 (xq 1) wq := hh.val 1 (by kernel_rfl) (by kernel_rfl)
                    rw [Hrgfe1.out] at d1
                    simp only [hFrgf, d1]
                    clear d1
                    refine .inl ⟨rfl, ?_⟩
                    unfold Reg.upon
                    have hk := Hrgfk.out 6 Lq wq  hh.cls
                    have hx := Hrgfx.out wq
                    have he : Ergf 6 (.slice (some ⟨b1, off1, none⟩) nl ca) wq := by rw [Hrgfe6.out]
                    have HK := Lib.hid (And.intro hk (And.intro he hx))
                    clear hk hx he
                    go_simp
                    exact HK.out
                  · intro Lq wq xq hh
                    have d1 : Ergf 1 (xq 1) wq := hh.val 1 (by kernel_rfl) (by kernel_rfl)
                    rw [Hrgfe1.out] at d1
                    simp only [hFrgf, d1]
                    clear d1
                    refine .inl ⟨rfl, ?_⟩
                    unfold Reg.upon
                    have hk := Hrgfk.out 7 Lq wq  hh.cls
                    have hx := Hrgfx.out wq
                    have he : Ergf 7 (.int .i64 (i : Int)) wq := by rw [Hrgfe7.out]
                    have HK := Lib.hid (And.intro hk (And.intro he hx))
                    clear hk hx he
                    go_simp
                    exact HK.out
                  · intro Lq wq xq hh
                    have d1 : Ergf 1 (xq 1) wq := hh.val 1 (by kernel_rfl) (by kernel_rfl)
                    rw [Hrgfe1.out] at d1
                    have d6 : Ergf 6 (xq 6) wq := hh.val 6 (by kernel_rfl) (by kernel_rfl)
                    rw [Hrgfe6.out] at d6
                    have d7 : Ergf 7 (xq 7) wq := hh.val 7 (by kernel_rfl) (by kernel_rfl)
                    rw [Hrgfe7.out] at d7
                    simp only [hFrgf, d1, d6, d7]
                    clear d1 d6 d7
                    refine .inl ⟨rfl, ?_⟩
                    unfold Reg.upon
                    have hk := Hrgfk.out 8 Lq wq  hh.cls
                    have hx := Hrgfx.out wq
                    have he : Ergf 8 (.pointer (some ⟨b1, off1 + i, none⟩)) wq := by rw [Hrgfe8.out]
                    have HK := Lib.hid (And.intro hk (And.intro he hx))
                    clear hk hx he
                    go_simp
                    exact HK.out
                  · intro Lq wq xq hh
                    have d1 : Ergf 1 (xq 1) wq := hh.val 1 (by kernel_rfl) (by kernel_rfl)
                    rw [Hrgfe1.out] at d1
                    have d8 : Ergf 8 (xq 8) wq := hh.val 8 (by kernel_rfl) (by kernel_rfl)
                    rw [Hrgfe8.out] at d8
                    simp only [hFrgf, d1, d8]
                    clear d1 d8
                    refine .inl ⟨rfl, ?_⟩
                    unfold Reg.upon
                    have hc : Crgf Lq wq := hh.cls
                    rw [HrgfhC.out] at hc
                    have q0 := (hc.cell (p := ⟨b1, off1 + i, none⟩) HLB1.out).trans HCI.out
                    clear hc
                    have hk := Hrgfk.out 9 Lq wq  hh.cls
                    have hx := Hrgfx.out wq
                    have he : Ergf 9 (.int .i64 ci) wq := by rw [Hrgfe9.out]
                    have HK := Lib.hid (And.intro hk (And.intro he hx))
                    clear hk hx he
                    go_simp
                    exact HK.out
                  · intro Lq wq xq hh
                    have d1 : Ergf 1 (xq 1) wq := hh.val 1 (by kernel_rfl) (by kernel_rfl)
                    rw [Hrgfe1.out] at d1
                    have d5 : Ergf 5 (xq 5) wq := hh.val 5 (by kernel_rfl) (by kernel_rfl)
                    rw [Hrgfe5.out] at d5
                    have d9 : Ergf 9 (xq 9) wq := hh.val 9 (by kernel_rfl) (by kernel_rfl)
                    rw [Hrgfe9.out] at d9
                    simp only [hFrgf, d1, d5, d9]
                    clear d1 d5 d9
                    refine .inl ⟨rfl, ?_⟩
                    unfold Reg.upon
                    have hk := Hrgfk.out 10 Lq wq  hh.cls
                    have hx := Hrgfx.out wq
                    have he : Ergf 10 (.bool (ok == ci)) wq := by rw [Hrgfe10.out]
                    have HK := Lib.hid (And.intro hk (And.intro he hx))
                    clear hk hx he
                    go_simp
                    exact HK.out
                  · intro Lq wq xq hh
                    have d1 : Ergf 1 (xq 1) wq := hh.val 1 (by kernel_rfl) (by kernel_rfl)
                    rw [Hrgfe1.out] at d1
                    have d10 : Ergf 10 (xq 10) wq := hh.val 10 (by kernel_rfl) (by kernel_rfl)
                    rw [Hrgfe10.out] at d10
                    simp only [hFrgf, d1, d10]
                    clear d1 d10
                    refine .inl ⟨rfl, ?_⟩
                    unfold Reg.upon
                    have hk := Hrgfk.out 11 Lq wq  hh.cls
                    have hx := Hrgfx.out wq
                    have he : Ergf 11 (.bool (ok == ci)) wq := by rw [Hrgfe11.out]
                    have HK := Lib.hid (And.intro hk (And.intro he hx))
                    clear hk hx he
                    go_simp
                    exact HK.out
                  · intro Lq wq xq hh
                    have d11 : Ergf 11 (xq 11) wq := hh.val 11 (by kernel_rfl) (by kernel_rfl)
                    rw [Hrgfe11.out] at d11
                    simp only [hFrgf, d11]
                    clear d11
                    refine .inl ⟨rfl, ?_⟩
                    unfold Reg.upon
                    have hk := Hrgfk.out 12 Lq wq  hh.cls
                    have hx := Hrgfx.out wq
                    have he : Ergf 12 (.bool (ok == ci)) wq := by rw [Hrgfe12.out]
                    have HK := Lib.hid (And.intro hk (And.intro he hx))
                    clear hk hx he
                    go_simp
                    exact HK.out
                intro xq wrgf hcrgf hvrgf
                rw [HrgfhC.out] at hcrgf
                simp only [hFrgf]
                have vrgf12 : Ergf 12 (xq 12) wrgf := hvrgf 12 (by decide)
                rw [Hrgfe12.out] at vrgf12
                rw [vrgf12]
                clear hvrgf hFrgf Hrgfk Hrgfx Hrgfst Hrgfc HrgfhC HrgfhX Hrgfb Hrgfxb Hrgfe0 Hrgfe1 Hrgfe2 Hrgfe3 Hrgfe4 Hrgfe5 Hrgfe6 Hrgfe7 Hrgfe8 Hrgfe9 Hrgfe10 Hrgfe11 Hrgfe12
                have HFB := Lib.hid (HBQ.out.trans (hcrgf.mono HBQ.out.size))
                clear hcrgf
                try clear vrgf12
                go_wp2
                go_roundw
                case rel => exact ⟨k9 + 1, by omega, by go_num, by rw [HGSS.out], HFB.out⟩
                case measure => simp [intOf] <;> omega
            · obtain rfl : k9 = k := by omega
              rw [show off.take k9 = off from by rw [HML.out, List.take_length]]
              have HO2 := Lib.hid (HO.out.below HBQ.out)
              have HB2 := Lib.hid (HBI.out.trans (HBQ.out.mono HBI.out.size))
              cases hgb : goneB off ci with
              | true =>
                rw [hgb, if_pos rfl, List.append_nil] at HWSS
                have HF1 := Lib.hid (show OwnE (intE .i64) (fun _ => True) wq wk.heap.size 3 av (wantL off (cols.take (i + 1))) from by rw [HWSS.out]; exact HO2.out)
                clear hgb
                go_wp2
                go_roundw
                case rel => exact ⟨i + 1, by omega, by go_num, HF1.out, HB2.out⟩
                case measure => simp [intOf] <;> omega
              | false =>
                rw [hgb, if_neg (by decide)] at HWSS
                clear hgb
                have hci := (HBQ.out.cell (p := ⟨b1, off1 + i, none⟩) HLB10.out).trans HCI0.out
                have b0 := (Below.refl wq.heap.size wq).alloc (Nat.le_refl _) (.cells [.int .i64 ci].toArray 3)
                have HO3 := Lib.hid (HO2.out.below b0)
                have HB3 := Lib.hid (HB2.out.trans (b0.mono HB2.out.size))
                have HU3 := Lib.hid (show HeldE (intE .i64) (fun b => True ∧ av.ownBlock ≠ some b) (wq.alloc (.cells [.int .i64 ci].toArray 3)) (.slice (some ⟨wq.heap.size, 0, none⟩) 1 1) [ci] from heldE_one (E := intE .i64) (Y := fun _ => False) [.int .i64 ci] ci rfl (fun _ _ h => h.elim) ⟨trivial, fun e => by have := (HO2.out.lt _ e).2; omega⟩)
                obtain ⟨WLI, hWLI⟩ : ∃ WLI, WLI = wantL off (cols.take i) := ⟨_, rfl⟩
                rw [← hWLI] at HO3 HWSS HWLI
                clear b0 hWLI
                go_wp2_with (at_builtin; refine wpList_append_e (E := intE .i64) (Z := fun _ => True) rfl (.tmp 71) (.tmp 76) 46 rfl (.int .i64 0) 8 Try.underlying46 info_i8 rfl (by decide) rfl rfl HO3.out HU3.out (by simp only [List.length_singleton]; have := HWLI.out; omega) (by simp only [List.length_singleton]; have := HWLI.out; omega) HB3.out.size ?_)
                intro v4 w4 ho4 b4 _ _
                rw [← HWSS.out] at ho4
                have HF1 := Lib.hid ho4
                have HF2 := Lib.hid (HB3.out.trans b4)
                clear ho4 b4 hci
                go_wp2
                go_roundw
                case rel => exact ⟨i + 1, by omega, by go_num, HF1.out, HF2.out⟩
                case measure => simp [intOf] <;> omega
        · obtain rfl : i = nl := by omega
          have ho := HO.out
          rw [show cols.take i = cols from by rw [HNL.out, List.take_length]] at ho
          have HWN := Lib.hid (HWL.out i)
          rw [show cols.take i = cols from by rw [HNL.out, List.take_length]] at HWN
          have HOWN := Lib.hid ho
          obtain ⟨WL, hWL⟩ : ∃ WL, WL = wantL off cols := ⟨_, rfl⟩
          rw [← hWL] at ho HWN HOWN HS2
          have hhw := ho.held (Z := fun _ => True) (fun _ _ _ => trivial)
          obtain ⟨wa, wcap, rfl⟩ := hhw.len
          have HWH := Lib.hid hhw.ints
          have HSTW := Lib.hid (show StAt wi g (ofF WL) from Has.below HS2.out HBI.out (Has.lt HS2.out))
          have hall := tall_any g (ofF WL) wi HSTW.out
          have HHASC := Lib.hid (fun i h => allF_has WL i h)
          have HUP := Lib.hid (fun i h1 h0 => allF_up (ofF WL) 1024 i h1 h0)
          have HLEN := Lib.hid (show ∀ k, (allF (ofF WL) (k + 1)).length = (allF (ofF WL) k).length + if ofF WL k = true then 1 else 0 from fun k => by rw [allF_succ, List.length_append]; split <;> simp)
          have HLE := Lib.hid (show ∀ k, (allF (ofF WL) k).length ≤ k from fun k => allF_len _ k)
          have HF0 := Lib.hid (show ofF WL 0 = false from by
            cases h : ofF WL 0 with
            | false => rfl
            | true => have := (ofF_iff WL 0).1 h; omega)
          have HZ := Lib.hid (show (allF (ofF WL) 0).length = 0 from rfl)
          have HNF := Lib.hid (fun w' (h : StAt w' g (ofF WL)) => tnext_any g (ofF WL) cl w' h)
          have HPF := Lib.hid (fun w' (h : StAt w' g (ofF WL)) => tprev_any g (ofF WL) cl w' h)
          obtain ⟨wl, hwl⟩ : ∃ wl, wl = WL.length := ⟨_, rfl⟩
          have HRN := Lib.hid (show ∀ w', Held .i64 w' (.slice wa wl wcap) WL → Calls Try.prog 34 #[.slice wa wl wcap, .int .i64 cl] w' (fun e w9 => e = .returned (.int .i64 (nextF (ofF WL) cl)) ∧ w' = w9) from fun w' h => rnext_any _ WL cl w' h (by have := HWN.out; omega))
          have HRP := Lib.hid (show ∀ w', Held .i64 w' (.slice wa wl wcap) WL → Calls Try.prog 36 #[.slice wa wl wcap, .int .i64 cl] w' (fun e w9 => e = .returned (.int .i64 (prevF (ofF WL) cl)) ∧ w' = w9) from fun w' h => rprev_any _ WL cl w' h (by have := HWN.out; omega))
          have HRH := Lib.hid (show ∀ (x : Int) w', Held .i64 w' (.slice wa wl wcap) WL → Calls Try.prog 32 #[.slice wa wl wcap, .int .i64 x] w' (fun e w9 => e = .returned (.bool (hasC WL x)) ∧ w' = w9) from fun x w' h => rhas_any _ WL x w' h (by have := HWN.out; omega))
          have HHF := Lib.hid (fun k => hasC_of WL k)
          rw [← hwl] at HWH ⊢
          obtain ⟨F, hF⟩ : ∃ F, F = ofF WL := ⟨_, rfl⟩
          rw [← hF] at HSTW hall HHASC HUP HLEN HLE HF0 HZ HNF HPF HRN HRP HHF
          have HBX := Lib.hid (HBW.out.trans (HBI.out.mono HBW.out.size))
          clear ho hhw hWL hwl hF HOWN HO
          go_wp2_with fail
          refine hall.mono ?_
          clear hall
          rintro e w5 ⟨v5, rfl, ho5, b5⟩
          have hh5 := ho5.held (Z := fun _ => True) (fun _ _ _ => trivial)
          obtain ⟨la, lcap, rfl⟩ := hh5.len
          have hlc := hh5.spots.2.1
          have HL5 := Lib.hid (show ∀ k, k < (allF F 1024).length → ∃ b o, la = some ⟨b, o, none⟩ ∧ b < w5.heap.size ∧ w5.cell? ⟨b, o + k, none⟩ = some (.int .i64 ((allF F 1024).getD k 0)) from fun k hk => hh5.ints.spots k hk)
          obtain ⟨al, hal⟩ : ∃ al, al = (allF F 1024).length := ⟨_, rfl⟩
          rw [← hal] at hlc HL5 HHASC HUP ⊢
          have hal9 : al ≤ 1024 := by rw [hal]; exact HLE.out 1024
          have HAL := Lib.hid hal
          have HB5 := Lib.hid b5
          have HWH5 := Lib.hid (HWH.out.below b5)
          have HST5 := Lib.hid (show StAt w5 g F from Has.below HSTW.out b5 (Has.lt HSTW.out))
          have HBY := Lib.hid (HBX.out.trans (b5.mono HBX.out.size))
          clear ho5 b5 hh5 hal
          go_wp2
          go_loopw [14] (fun iv wr => ∃ i : Nat, i ≤ al ∧ iv = .int .i64 i ∧ Below w5.heap.size w5 wr) (fun iv _ => al - (intOf iv).toNat)
          case atStart => exact ⟨0, Nat.zero_le _, rfl, Below.refl _ _⟩
          case round =>
            obtain ⟨i, hi9, rfl, hbw⟩ := hrel
            obtain ⟨wq, hwq⟩ : ∃ wq, wq = wr := ⟨_, rfl⟩
            subst hwq
            have HBQ := Lib.hid hbw
            clear hbw
            by_cases hlta : i < al
            · obtain ⟨bl, ol, e1, hb1, hc1⟩ := HL5.out i hlta
              subst e1
              have hx1 := (HBQ.out.cell (p := ⟨bl, ol + i, none⟩) hb1).trans hc1
              have hhas := HHASC.out i hlta
              have hup := HUP.out i hlta
              have hx0 := HL5.out (i - 1) (by omega)
              obtain ⟨x1, hx1e⟩ : ∃ x1, x1 = (allF F 1024).getD i 0 := ⟨_, rfl⟩
              rw [← hx1e] at hx1 hhas hup
              have HHAS := Lib.hid (show ∀ w', Below w5.heap.size w5 w' → Calls Try.prog 32 #[.slice wa wl wcap, .int .i64 x1] w' (fun e w9 => e = .returned (.bool true) ∧ w' = w9) from fun w' b => by rw [← hhas]; exact HRH.out x1 w' (HWH5.out.below b))
              have HX1 := Lib.hid hx1
              have HLBL := Lib.hid (World.block_lt_of_cell? _ _ hx1)
              have hii : (i : Int) < (al : Int) := by omega
              have hic : i < lcap := by omega
              have hwi9 : IntKind.i64.wrap ((i : Int) + 1) = (i : Int) + 1 := by rw [IntKind.wrap_i64]; omega
              clear hc1 hhas hx1e hx1
              by_cases hi0 : i = 0
              · have hg0 : decide ((0 : Int) < (i : Int)) = false := by rw [decide_eq_false_iff_not]; omega
                have hg00 : decide (0 < i) = false := by rw [decide_eq_false_iff_not]; omega
                clear hi0 hup hx0 hb1
                go_wp2
                obtain ⟨Erga, hErga⟩ : ∃ EE : Nat → Value → World → Prop, EE = fun jj xx ww => match jj with
                    | 0 => xx = .slice wa wl wcap
                    | 1 => xx = .slice (some ⟨bl, ol, none⟩) al lcap
                    | 2 => xx = .int .i64 (i : Int)
                    | 3 => xx = .pointer (some ⟨bl, ol + i, none⟩)
                    | 4 => xx = .int .i64 x1
                    | 5 => xx = .bool true
                    | 6 => xx = .bool false
                    | 7 => xx = .bool false
                    | 8 => xx = .int .i64 (i : Int)
                    | 9 => xx = .bool false
                    | 10 => xx = .bool false
                    | 11 => xx = undef
                    | 12 => xx = undef
                    | 13 => xx = undef
                    | 14 => xx = undef
                    | 15 => xx = undef
                    | 16 => xx = undef
                    | 17 => xx = undef
                    | 18 => xx = undef
                    | 19 => xx = undef
                    | 20 => xx = undef
                    | 21 => xx = .bool false
                    | 22 => xx = .bool false
                    | _ => True := ⟨_, rfl⟩
                have erga0 : ∀ xx ww, Erga 0 xx ww = (xx = .slice wa wl wcap) := fun xx ww => congrFun (congrFun (congrFun hErga 0) xx) ww
                have erga1 : ∀ xx ww, Erga 1 xx ww = (xx = .slice (some ⟨bl, ol, none⟩) al lcap) := fun xx ww => congrFun (congrFun (congrFun hErga 1) xx) ww
                have erga2 : ∀ xx ww, Erga 2 xx ww = (xx = .int .i64 (i : Int)) := fun xx ww => congrFun (congrFun (congrFun hErga 2) xx) ww
                have erga3 : ∀ xx ww, Erga 3 xx ww = (xx = .pointer (some ⟨bl, ol + i, none⟩)) := fun xx ww => congrFun (congrFun (congrFun hErga 3) xx) ww
                have erga4 : ∀ xx ww, Erga 4 xx ww = (xx = .int .i64 x1) := fun xx ww => congrFun (congrFun (congrFun hErga 4) xx) ww
                have erga5 : ∀ xx ww, Erga 5 xx ww = (xx = .bool true) := fun xx ww => congrFun (congrFun (congrFun hErga 5) xx) ww
                have erga6 : ∀ xx ww, Erga 6 xx ww = (xx = .bool false) := fun xx ww => congrFun (congrFun (congrFun hErga 6) xx) ww
                have erga7 : ∀ xx ww, Erga 7 xx ww = (xx = .bool false) := fun xx ww => congrFun (congrFun (congrFun hErga 7) xx) ww
                have erga8 : ∀ xx ww, Erga 8 xx ww = (xx = .int .i64 (i : Int)) := fun xx ww => congrFun (congrFun (congrFun hErga 8) xx) ww
                have erga9 : ∀ xx ww, Erga 9 xx ww = (xx = .bool false) := fun xx ww => congrFun (congrFun (congrFun hErga 9) xx) ww
                have erga10 : ∀ xx ww, Erga 10 xx ww = (xx = .bool false) := fun xx ww => congrFun (congrFun (congrFun hErga 10) xx) ww
                have erga11 : ∀ xx ww, Erga 11 xx ww = (xx = undef) := fun xx ww => congrFun (congrFun (congrFun hErga 11) xx) ww
                have erga12 : ∀ xx ww, Erga 12 xx ww = (xx = undef) := fun xx ww => congrFun (congrFun (congrFun hErga 12) xx) ww
                have erga13 : ∀ xx ww, Erga 13 xx ww = (xx = undef) := fun xx ww => congrFun (congrFun (congrFun hErga 13) xx) ww
                have erga14 : ∀ xx ww, Erga 14 xx ww = (xx = undef) := fun xx ww => congrFun (congrFun (congrFun hErga 14) xx) ww
                have erga15 : ∀ xx ww, Erga 15 xx ww = (xx = undef) := fun xx ww => congrFun (congrFun (congrFun hErga 15) xx) ww
                have erga16 : ∀ xx ww, Erga 16 xx ww = (xx = undef) := fun xx ww => congrFun (congrFun (congrFun hErga 16) xx) ww
                have erga17 : ∀ xx ww, Erga 17 xx ww = (xx = undef) := fun xx ww => congrFun (congrFun (congrFun hErga 17) xx) ww
                have erga18 : ∀ xx ww, Erga 18 xx ww = (xx = undef) := fun xx ww => congrFun (congrFun (congrFun hErga 18) xx) ww
                have erga19 : ∀ xx ww, Erga 19 xx ww = (xx = undef) := fun xx ww => congrFun (congrFun (congrFun hErga 19) xx) ww
                have erga20 : ∀ xx ww, Erga 20 xx ww = (xx = undef) := fun xx ww => congrFun (congrFun (congrFun hErga 20) xx) ww
                have erga21 : ∀ xx ww, Erga 21 xx ww = (xx = .bool false) := fun xx ww => congrFun (congrFun (congrFun hErga 21) xx) ww
                have erga22 : ∀ xx ww, Erga 22 xx ww = (xx = .bool false) := fun xx ww => congrFun (congrFun (congrFun hErga 22) xx) ww
                obtain ⟨Crga, hCrga⟩ : ∃ CC : Array Bool → World → Prop, CC = fun L8 w' => Below wq.heap.size wq w' := ⟨_, rfl⟩
                have krga : ∀ i L w,  Crga L w → Crga (L.setIfInBounds i true) w := by
                  intro i L w  h
                  rw [hCrga] at h ⊢
                  exact h
                obtain ⟨Xrga, hXrga⟩ : ∃ XX : World → World → Prop, XX = fun x y => True := ⟨_, rfl⟩
                have xrga : ∀ w, Xrga w w := fun w => by rw [hXrga]; exact trivial
                have strga : ∀ j x w w1, Xrga w w1 → Erga j x w → Erga j x w1 := by
                  intro j x w w1 hx h
                  rw [hXrga] at hx
                  match j with
                  | 0 => rw [erga0] at h ⊢; exact h
                  | 1 => rw [erga1] at h ⊢; exact h
                  | 2 => rw [erga2] at h ⊢; exact h
                  | 3 => rw [erga3] at h ⊢; exact h
                  | 4 => rw [erga4] at h ⊢; exact h
                  | 5 => rw [erga5] at h ⊢; exact h
                  | 6 => rw [erga6] at h ⊢; exact h
                  | 7 => rw [erga7] at h ⊢; exact h
                  | 8 => rw [erga8] at h ⊢; exact h
                  | 9 => rw [erga9] at h ⊢; exact h
                  | 10 => rw [erga10] at h ⊢; exact h
                  | 11 => rw [erga11] at h ⊢; exact h
                  | 12 => rw [erga12] at h ⊢; exact h
                  | 13 => rw [erga13] at h ⊢; exact h
                  | 14 => rw [erga14] at h ⊢; exact h
                  | 15 => rw [erga15] at h ⊢; exact h
                  | 16 => rw [erga16] at h ⊢; exact h
                  | 17 => rw [erga17] at h ⊢; exact h
                  | 18 => rw [erga18] at h ⊢; exact h
                  | 19 => rw [erga19] at h ⊢; exact h
                  | 20 => rw [erga20] at h ⊢; exact h
                  | 21 => rw [erga21] at h ⊢; exact h
                  | 22 => rw [erga22] at h ⊢; exact h
                  | j + 23 => rw [hErga]; trivial
                have crga : Crga (Array.replicate 23 false) wq.drew := by rw [hCrga]; exact (Below.refl _ _).drew
                have brga : ∀ L w w1, Crga L w → Below w.heap.size w w1 → Crga L w1 := by
                  intro L w w1 h hb
                  rw [hCrga] at h ⊢
                  exact h.trans (hb.mono h.size)
                have xbrga : ∀ w w1, Below w.heap.size w w1 → Xrga w w1 := by
                  intro w w1 hb
                  rw [hXrga]
                  trivial
                have Hrgab := Lib.hid brga
                have Hrgaxb := Lib.hid xbrga
                clear brga xbrga
                clear hErga
                have Hrgak := Lib.hid krga
                have Hrgax := Lib.hid xrga
                have Hrgast := Lib.hid strga
                have Hrgac := Lib.hid crga
                have HrgahC := Lib.hid hCrga
                have HrgahX := Lib.hid hXrga
                have Hrgae0 := Lib.hid erga0
                have Hrgae1 := Lib.hid erga1
                have Hrgae2 := Lib.hid erga2
                have Hrgae3 := Lib.hid erga3
                have Hrgae4 := Lib.hid erga4
                have Hrgae5 := Lib.hid erga5
                have Hrgae6 := Lib.hid erga6
                have Hrgae7 := Lib.hid erga7
                have Hrgae8 := Lib.hid erga8
                have Hrgae9 := Lib.hid erga9
                have Hrgae10 := Lib.hid erga10
                have Hrgae11 := Lib.hid erga11
                have Hrgae12 := Lib.hid erga12
                have Hrgae13 := Lib.hid erga13
                have Hrgae14 := Lib.hid erga14
                have Hrgae15 := Lib.hid erga15
                have Hrgae16 := Lib.hid erga16
                have Hrgae17 := Lib.hid erga17
                have Hrgae18 := Lib.hid erga18
                have Hrgae19 := Lib.hid erga19
                have Hrgae20 := Lib.hid erga20
                have Hrgae21 := Lib.hid erga21
                have Hrgae22 := Lib.hid erga22
                clear krga xrga strga crga hCrga hXrga erga0 erga1 erga2 erga3 erga4 erga5 erga6 erga7 erga8 erga9 erga10 erga11 erga12 erga13 erga14 erga15 erga16 erga17 erga18 erga19 erga20 erga21 erga22
                go_wp2_with fail
                refine Reg.regionF Erga Crga Xrga Hrgast.out (by kernel_rfl) (by kernel_rfl) (by kernel_rfl) Hrgac.out (fun Frga hFrga => ?_)
                simp only [Reg.frame, Reg.dsts, List.map_cons, List.map_nil, Mix.put_lit, List.set_cons_succ, List.set_cons_zero, Nat.zero_add, Nat.reduceAdd] at hFrga
                refine ⟨?_, ?_⟩
                · refine ⟨?_, ?_, ?_, ?_, ?_, ?_, ?_, ?_, ?_, ?_, ?_, ?_, ?_, ?_, ?_, ?_, ?_, ?_, ?_, ?_, ?_, ?_, ?_, trivial⟩
                  · intro Lq wq xq hh
                    simp only [hFrga]
                    refine .inl ⟨rfl, ?_⟩
                    unfold Reg.upon
                    have hk := Hrgak.out 0 Lq wq  hh.cls
                    have hx := Hrgax.out wq
                    have he : Erga 0 (.slice wa wl wcap) wq := by rw [Hrgae0.out]
                    have HK := Lib.hid (And.intro hk (And.intro he hx))
                    clear hk hx he
                    go_simp
                    exact HK.out
                  · intro Lq wq xq hh
                    simp only [hFrga]
                    refine .inl ⟨rfl, ?_⟩
                    unfold Reg.upon
                    have hk := Hrgak.out 1 Lq wq  hh.cls
                    have hx := Hrgax.out wq
                    have he : Erga 1 (.slice (some ⟨bl, ol, none⟩) al lcap) wq := by rw [Hrgae1.out]
                    have HK := Lib.hid (And.intro hk (And.intro he hx))
                    clear hk hx he
                    go_simp
                    exact HK.out
                  · intro Lq wq xq hh
                    simp only [hFrga]
                    refine .inl ⟨rfl, ?_⟩
                    unfold Reg.upon
                    have hk := Hrgak.out 2 Lq wq  hh.cls
                    have hx := Hrgax.out wq
                    have he : Erga 2 (.int .i64 (i : Int)) wq := by rw [Hrgae2.out]
                    have HK := Lib.hid (And.intro hk (And.intro he hx))
                    clear hk hx he
                    go_simp
                    exact HK.out
                  · intro Lq wq xq hh
                    have d1 : Erga 1 (xq 1) wq := hh.val 1 (by kernel_rfl) (by kernel_rfl)
                    rw [Hrgae1.out] at d1
                    have d2 : Erga 2 (xq 2) wq := hh.val 2 (by kernel_rfl) (by kernel_rfl)
                    rw [Hrgae2.out] at d2
                    simp only [hFrga, d1, d2]
                    clear d1 d2
                    refine .inl ⟨rfl, ?_⟩
                    unfold Reg.upon
                    have hk := Hrgak.out 3 Lq wq  hh.cls
                    have hx := Hrgax.out wq
                    have he : Erga 3 (.pointer (some ⟨bl, ol + i, none⟩)) wq := by rw [Hrgae3.out]
                    have HK := Lib.hid (And.intro hk (And.intro he hx))
                    clear hk hx he
                    go_simp
                    exact HK.out
                  · intro Lq wq xq hh
                    have d3 : Erga 3 (xq 3) wq := hh.val 3 (by kernel_rfl) (by kernel_rfl)
                    rw [Hrgae3.out] at d3
                    simp only [hFrga, d3]
                    clear d3
                    refine .inl ⟨rfl, ?_⟩
                    unfold Reg.upon
                    have hc : Crga Lq wq := hh.cls
                    rw [HrgahC.out] at hc
                    have q0 := (hc.cell (p := ⟨bl, ol + i, none⟩) HLBL.out).trans HX1.out
                    clear hc
                    have hk := Hrgak.out 4 Lq wq  hh.cls
                    have hx := Hrgax.out wq
                    have he : Erga 4 (.int .i64 x1) wq := by rw [Hrgae4.out]
                    have HK := Lib.hid (And.intro hk (And.intro he hx))
                    clear hk hx he
                    go_simp
                    exact HK.out
                  · intro Lq wq xq hh
                    have d0 : Erga 0 (xq 0) wq := hh.val 0 (by kernel_rfl) (by kernel_rfl)
                    rw [Hrgae0.out] at d0
                    have d4 : Erga 4 (xq 4) wq := hh.val 4 (by kernel_rfl) (by kernel_rfl)
                    rw [Hrgae4.out] at d4
                    simp only [hFrga, d0, d4]
                    clear d0 d4
                    refine .inl ⟨rfl, ?_⟩
                    unfold Reg.upon
                    have hc : Crga Lq wq := hh.cls
                    rw [HrgahC.out] at hc
                    go_simp
                    refine (HHAS.out wq (HBQ.out.trans (hc.mono HBQ.out.size))).mono ?_
                    rintro e w2 ⟨rfl, rfl⟩
                    exact ⟨_, rfl, Hrgak.out 5 Lq wq  hh.cls, (by rw [Hrgae5.out]; try rfl), Hrgax.out _⟩
                  · intro Lq wq xq hh
                    have d5 : Erga 5 (xq 5) wq := hh.val 5 (by kernel_rfl) (by kernel_rfl)
                    rw [Hrgae5.out] at d5
                    simp only [hFrga, d5]
                    clear d5
                    refine .inl ⟨rfl, ?_⟩
                    unfold Reg.upon
                    have hk := Hrgak.out 6 Lq wq  hh.cls
                    have hx := Hrgax.out wq
                    have he : Erga 6 (.bool false) wq := by rw [Hrgae6.out]
                    have HK := Lib.hid (And.intro hk (And.intro he hx))
                    clear hk hx he
                    go_simp
                    exact HK.out
                  · intro Lq wq xq hh
                    have d6 : Erga 6 (xq 6) wq := hh.val 6 (by kernel_rfl) (by kernel_rfl)
                    rw [Hrgae6.out] at d6
                    simp only [hFrga, d6]
                    clear d6
                    refine .inl ⟨rfl, ?_⟩
                    unfold Reg.upon
                    have hk := Hrgak.out 7 Lq wq  hh.cls
                    have hx := Hrgax.out wq
                    have he : Erga 7 (.bool false) wq := by rw [Hrgae7.out]
                    have HK := Lib.hid (And.intro hk (And.intro he hx))
                    clear hk hx he
                    go_simp
                    exact HK.out
                  · intro Lq wq xq hh
                    have d7 : Erga 7 (xq 7) wq := hh.val 7 (by kernel_rfl) (by kernel_rfl)
                    rw [Hrgae7.out] at d7
                    simp only [hFrga, d7]
                    clear d7
                    refine .inl ⟨rfl, ?_⟩
                    unfold Reg.upon
                    have hk := Hrgak.out 8 Lq wq  hh.cls
                    have hx := Hrgax.out wq
                    have he : Erga 8 (.int .i64 (i : Int)) wq := by rw [Hrgae8.out]
                    have HK := Lib.hid (And.intro hk (And.intro he hx))
                    clear hk hx he
                    go_simp
                    exact HK.out
                  · intro Lq wq xq hh
                    have d7 : Erga 7 (xq 7) wq := hh.val 7 (by kernel_rfl) (by kernel_rfl)
                    rw [Hrgae7.out] at d7
                    have d8 : Erga 8 (xq 8) wq := hh.val 8 (by kernel_rfl) (by kernel_rfl)
                    rw [Hrgae8.out] at d8
                    simp only [hFrga, d7, d8]
                    clear d7 d8
                    refine .inl ⟨rfl, ?_⟩
                    unfold Reg.upon
                    have hk := Hrgak.out 9 Lq wq  hh.cls
                    have hx := Hrgax.out wq
                    have he : Erga 9 (.bool false) wq := by rw [Hrgae9.out]
                    have HK := Lib.hid (And.intro hk (And.intro he hx))
                    clear hk hx he
                    go_simp
                    exact HK.out
                  · intro Lq wq xq hh
                    have d7 : Erga 7 (xq 7) wq := hh.val 7 (by kernel_rfl) (by kernel_rfl)
                    rw [Hrgae7.out] at d7
                    have d9 : Erga 9 (xq 9) wq := hh.val 9 (by kernel_rfl) (by kernel_rfl)
                    rw [Hrgae9.out] at d9
                    simp only [hFrga, d7, d9]
                    clear d7 d9
                    refine .inl ⟨rfl, ?_⟩
                    unfold Reg.upon
                    have hk := Hrgak.out 10 Lq wq  hh.cls
                    have hx := Hrgax.out wq
                    have he : Erga 10 (.bool false) wq := by rw [Hrgae10.out]
                    have HK := Lib.hid (And.intro hk (And.intro he hx))
                    clear hk hx he
                    go_simp
                    exact HK.out
                  · intro Lq wq xq hh
                    have d10 : Erga 10 (xq 10) wq := hh.val 10 (by kernel_rfl) (by kernel_rfl)
                    rw [Hrgae10.out] at d10
                    simp only [hFrga, d10]
                    clear d10
                    exact .inr ⟨rfl, Hrgak.out 11 Lq wq  hh.cls, (by rw [Hrgae11.out])⟩
                  · intro Lq wq xq hh
                    have d10 : Erga 10 (xq 10) wq := hh.val 10 (by kernel_rfl) (by kernel_rfl)
                    rw [Hrgae10.out] at d10
                    simp only [hFrga, d10]
                    clear d10
                    exact .inr ⟨rfl, Hrgak.out 12 Lq wq  hh.cls, (by rw [Hrgae12.out])⟩
                  · intro Lq wq xq hh
                    have d10 : Erga 10 (xq 10) wq := hh.val 10 (by kernel_rfl) (by kernel_rfl)
                    rw [Hrgae10.out] at d10
                    have d11 : Erga 11 (xq 11) wq := hh.val 11 (by kernel_rfl) (by kernel_rfl)
                    rw [Hrgae11.out] at d11
                    have d12 : Erga 12 (xq 12) wq := hh.val 12 (by kernel_rfl) (by kernel_rfl)
                    rw [Hrgae12.out] at d12
                    simp only [hFrga, d10, d11, d12]
                    clear d10 d11 d12
                    exact .inr ⟨rfl, Hrgak.out 13 Lq wq  hh.cls, (by rw [Hrgae13.out])⟩
                  · intro Lq wq xq hh
                    have d10 : Erga 10 (xq 10) wq := hh.val 10 (by kernel_rfl) (by kernel_rfl)
                    rw [Hrgae10.out] at d10
                    have d13 : Erga 13 (xq 13) wq := hh.val 13 (by kernel_rfl) (by kernel_rfl)
                    rw [Hrgae13.out] at d13
                    simp only [hFrga, d10, d13]
                    clear d10 d13
                    exact .inr ⟨rfl, Hrgak.out 14 Lq wq  hh.cls, (by rw [Hrgae14.out])⟩
                  · intro Lq wq xq hh
                    have d10 : Erga 10 (xq 10) wq := hh.val 10 (by kernel_rfl) (by kernel_rfl)
                    rw [Hrgae10.out] at d10
                    simp only [hFrga, d10]
                    clear d10
                    exact .inr ⟨rfl, Hrgak.out 15 Lq wq  hh.cls, (by rw [Hrgae15.out])⟩
                  · intro Lq wq xq hh
                    have d10 : Erga 10 (xq 10) wq := hh.val 10 (by kernel_rfl) (by kernel_rfl)
                    rw [Hrgae10.out] at d10
                    simp only [hFrga, d10]
                    clear d10
                    exact .inr ⟨rfl, Hrgak.out 16 Lq wq  hh.cls, (by rw [Hrgae16.out])⟩
                  · intro Lq wq xq hh
                    have d10 : Erga 10 (xq 10) wq := hh.val 10 (by kernel_rfl) (by kernel_rfl)
                    rw [Hrgae10.out] at d10
                    have d16 : Erga 16 (xq 16) wq := hh.val 16 (by kernel_rfl) (by kernel_rfl)
                    rw [Hrgae16.out] at d16
                    simp only [hFrga, d10, d16]
                    clear d10 d16
                    exact .inr ⟨rfl, Hrgak.out 17 Lq wq  hh.cls, (by rw [Hrgae17.out])⟩
                  · intro Lq wq xq hh
                    have d10 : Erga 10 (xq 10) wq := hh.val 10 (by kernel_rfl) (by kernel_rfl)
                    rw [Hrgae10.out] at d10
                    have d15 : Erga 15 (xq 15) wq := hh.val 15 (by kernel_rfl) (by kernel_rfl)
                    rw [Hrgae15.out] at d15
                    have d17 : Erga 17 (xq 17) wq := hh.val 17 (by kernel_rfl) (by kernel_rfl)
                    rw [Hrgae17.out] at d17
                    simp only [hFrga, d10, d15, d17]
                    clear d10 d15 d17
                    exact .inr ⟨rfl, Hrgak.out 18 Lq wq  hh.cls, (by rw [Hrgae18.out])⟩
                  · intro Lq wq xq hh
                    have d10 : Erga 10 (xq 10) wq := hh.val 10 (by kernel_rfl) (by kernel_rfl)
                    rw [Hrgae10.out] at d10
                    have d18 : Erga 18 (xq 18) wq := hh.val 18 (by kernel_rfl) (by kernel_rfl)
                    rw [Hrgae18.out] at d18
                    simp only [hFrga, d10, d18]
                    clear d10 d18
                    exact .inr ⟨rfl, Hrgak.out 19 Lq wq  hh.cls, (by rw [Hrgae19.out])⟩
                  · intro Lq wq xq hh
                    have d10 : Erga 10 (xq 10) wq := hh.val 10 (by kernel_rfl) (by kernel_rfl)
                    rw [Hrgae10.out] at d10
                    have d14 : Erga 14 (xq 14) wq := hh.val 14 (by kernel_rfl) (by kernel_rfl)
                    rw [Hrgae14.out] at d14
                    have d19 : Erga 19 (xq 19) wq := hh.val 19 (by kernel_rfl) (by kernel_rfl)
                    rw [Hrgae19.out] at d19
                    simp only [hFrga, d10, d14, d19]
                    clear d10 d14 d19
                    exact .inr ⟨rfl, Hrgak.out 20 Lq wq  hh.cls, (by rw [Hrgae20.out])⟩
                  · intro Lq wq xq hh
                    have d7 : Erga 7 (xq 7) wq := hh.val 7 (by kernel_rfl) (by kernel_rfl)
                    rw [Hrgae7.out] at d7
                    have d10 : Erga 10 (xq 10) wq := hh.val 10 (by kernel_rfl) (by kernel_rfl)
                    rw [Hrgae10.out] at d10
                    have d20 : Erga 20 (xq 20) wq := hh.val 20 (by kernel_rfl) (by kernel_rfl)
                    rw [Hrgae20.out] at d20
                    simp only [hFrga, d7, d10, d20]
                    clear d7 d10 d20
                    refine .inl ⟨rfl, ?_⟩
                    unfold Reg.upon
                    have hk := Hrgak.out 21 Lq wq  hh.cls
                    have hx := Hrgax.out wq
                    have he : Erga 21 (.bool false) wq := by rw [Hrgae21.out]
                    have HK := Lib.hid (And.intro hk (And.intro he hx))
                    clear hk hx he
                    go_simp
                    exact HK.out
                  · intro Lq wq xq hh
                    have d7 : Erga 7 (xq 7) wq := hh.val 7 (by kernel_rfl) (by kernel_rfl)
                    rw [Hrgae7.out] at d7
                    have d21 : Erga 21 (xq 21) wq := hh.val 21 (by kernel_rfl) (by kernel_rfl)
                    rw [Hrgae21.out] at d21
                    simp only [hFrga, d7, d21]
                    clear d7 d21
                    refine .inl ⟨rfl, ?_⟩
                    unfold Reg.upon
                    have hk := Hrgak.out 22 Lq wq  hh.cls
                    have hx := Hrgax.out wq
                    have he : Erga 22 (.bool false) wq := by rw [Hrgae22.out]
                    have HK := Lib.hid (And.intro hk (And.intro he hx))
                    clear hk hx he
                    go_simp
                    exact HK.out
                intro xq wrga hcrga hvrga
                rw [HrgahC.out] at hcrga
                simp only [hFrga]
                have vrga22 : Erga 22 (xq 22) wrga := hvrga 22 (by decide)
                rw [Hrgae22.out] at vrga22
                rw [vrga22]
                clear hvrga hFrga Hrgak Hrgax Hrgast Hrgac HrgahC HrgahX Hrgab Hrgaxb Hrgae0 Hrgae1 Hrgae2 Hrgae3 Hrgae4 Hrgae5 Hrgae6 Hrgae7 Hrgae8 Hrgae9 Hrgae10 Hrgae11 Hrgae12 Hrgae13 Hrgae14 Hrgae15 Hrgae16 Hrgae17 Hrgae18 Hrgae19 Hrgae20 Hrgae21 Hrgae22
                have HFB := Lib.hid (HBQ.out.trans (hcrga.mono HBQ.out.size))
                clear hcrga
                try clear vrga22
                go_wp2
                go_roundw
                case rel => exact ⟨i + 1, by omega, by go_num, HFB.out⟩
                case measure => simp [intOf] <;> omega
              · obtain ⟨bl', ol', e0, hb0, hc0⟩ := hx0
                cases e0
                have hx0 := (HBQ.out.cell (p := ⟨bl, ol + (i - 1), none⟩) hb1).trans hc0
                have hup := hup (by omega)
                obtain ⟨i0, hi0e⟩ : ∃ i0, i0 = i - 1 := ⟨_, rfl⟩
                rw [← hi0e] at hx0 hup
                obtain ⟨x0, hx0e⟩ : ∃ x0, x0 = (allF F 1024).getD i0 0 := ⟨_, rfl⟩
                rw [← hx0e] at hx0 hup
                have HX0 := Lib.hid hx0
                have hg0 : decide ((0 : Int) < (i : Int)) = true := by rw [decide_eq_true_eq]; omega
                have hg00 : 0 < i := by omega
                have hle : decide (x1 ≤ x0) = false := by rw [decide_eq_false_iff_not]; omega
                have hwm : IntKind.i64.wrap ((i : Int) - 1) = (i0 : Int) := by rw [IntKind.wrap_i64]; omega
                have hi0a : (i0 : Int) < (al : Int) := by omega
                have hi0b : i0 < al := by omega
                have hi0c : i0 < lcap := by omega
                clear hi0 hup hx0 hb1 hb0 hc0 hi0e hx0e
                go_wp2
                obtain ⟨Ergb, hErgb⟩ : ∃ EE : Nat → Value → World → Prop, EE = fun jj xx ww => match jj with
                    | 0 => xx = .slice wa wl wcap
                    | 1 => xx = .slice (some ⟨bl, ol, none⟩) al lcap
                    | 2 => xx = .int .i64 (i : Int)
                    | 3 => xx = .pointer (some ⟨bl, ol + i, none⟩)
                    | 4 => xx = .int .i64 x1
                    | 5 => xx = .bool true
                    | 6 => xx = .bool false
                    | 7 => xx = .bool false
                    | 8 => xx = .int .i64 (i : Int)
                    | 9 => xx = .bool true
                    | 10 => xx = .bool true
                    | 11 => xx = .slice (some ⟨bl, ol, none⟩) al lcap
                    | 12 => xx = .int .i64 (i : Int)
                    | 13 => xx = .pointer (some ⟨bl, ol + i, none⟩)
                    | 14 => xx = .int .i64 x1
                    | 15 => xx = .slice (some ⟨bl, ol, none⟩) al lcap
                    | 16 => xx = .int .i64 (i : Int)
                    | 17 => xx = .int .i64 (i0 : Int)
                    | 18 => xx = .pointer (some ⟨bl, ol + i0, none⟩)
                    | 19 => xx = .int .i64 x0
                    | 20 => xx = .bool false
                    | 21 => xx = .bool false
                    | 22 => xx = .bool false
                    | _ => True := ⟨_, rfl⟩
                have ergb0 : ∀ xx ww, Ergb 0 xx ww = (xx = .slice wa wl wcap) := fun xx ww => congrFun (congrFun (congrFun hErgb 0) xx) ww
                have ergb1 : ∀ xx ww, Ergb 1 xx ww = (xx = .slice (some ⟨bl, ol, none⟩) al lcap) := fun xx ww => congrFun (congrFun (congrFun hErgb 1) xx) ww
                have ergb2 : ∀ xx ww, Ergb 2 xx ww = (xx = .int .i64 (i : Int)) := fun xx ww => congrFun (congrFun (congrFun hErgb 2) xx) ww
                have ergb3 : ∀ xx ww, Ergb 3 xx ww = (xx = .pointer (some ⟨bl, ol + i, none⟩)) := fun xx ww => congrFun (congrFun (congrFun hErgb 3) xx) ww
                have ergb4 : ∀ xx ww, Ergb 4 xx ww = (xx = .int .i64 x1) := fun xx ww => congrFun (congrFun (congrFun hErgb 4) xx) ww
                have ergb5 : ∀ xx ww, Ergb 5 xx ww = (xx = .bool true) := fun xx ww => congrFun (congrFun (congrFun hErgb 5) xx) ww
                have ergb6 : ∀ xx ww, Ergb 6 xx ww = (xx = .bool false) := fun xx ww => congrFun (congrFun (congrFun hErgb 6) xx) ww
                have ergb7 : ∀ xx ww, Ergb 7 xx ww = (xx = .bool false) := fun xx ww => congrFun (congrFun (congrFun hErgb 7) xx) ww
                have ergb8 : ∀ xx ww, Ergb 8 xx ww = (xx = .int .i64 (i : Int)) := fun xx ww => congrFun (congrFun (congrFun hErgb 8) xx) ww
                have ergb9 : ∀ xx ww, Ergb 9 xx ww = (xx = .bool true) := fun xx ww => congrFun (congrFun (congrFun hErgb 9) xx) ww
                have ergb10 : ∀ xx ww, Ergb 10 xx ww = (xx = .bool true) := fun xx ww => congrFun (congrFun (congrFun hErgb 10) xx) ww
                have ergb11 : ∀ xx ww, Ergb 11 xx ww = (xx = .slice (some ⟨bl, ol, none⟩) al lcap) := fun xx ww => congrFun (congrFun (congrFun hErgb 11) xx) ww
                have ergb12 : ∀ xx ww, Ergb 12 xx ww = (xx = .int .i64 (i : Int)) := fun xx ww => congrFun (congrFun (congrFun hErgb 12) xx) ww
                have ergb13 : ∀ xx ww, Ergb 13 xx ww = (xx = .pointer (some ⟨bl, ol + i, none⟩)) := fun xx ww => congrFun (congrFun (congrFun hErgb 13) xx) ww
                have ergb14 : ∀ xx ww, Ergb 14 xx ww = (xx = .int .i64 x1) := fun xx ww => congrFun (congrFun (congrFun hErgb 14) xx) ww
                have ergb15 : ∀ xx ww, Ergb 15 xx ww = (xx = .slice (some ⟨bl, ol, none⟩) al lcap) := fun xx ww => congrFun (congrFun (congrFun hErgb 15) xx) ww
                have ergb16 : ∀ xx ww, Ergb 16 xx ww = (xx = .int .i64 (i : Int)) := fun xx ww => congrFun (congrFun (congrFun hErgb 16) xx) ww
                have ergb17 : ∀ xx ww, Ergb 17 xx ww = (xx = .int .i64 (i0 : Int)) := fun xx ww => congrFun (congrFun (congrFun hErgb 17) xx) ww
                have ergb18 : ∀ xx ww, Ergb 18 xx ww = (xx = .pointer (some ⟨bl, ol + i0, none⟩)) := fun xx ww => congrFun (congrFun (congrFun hErgb 18) xx) ww
                have ergb19 : ∀ xx ww, Ergb 19 xx ww = (xx = .int .i64 x0) := fun xx ww => congrFun (congrFun (congrFun hErgb 19) xx) ww
                have ergb20 : ∀ xx ww, Ergb 20 xx ww = (xx = .bool false) := fun xx ww => congrFun (congrFun (congrFun hErgb 20) xx) ww
                have ergb21 : ∀ xx ww, Ergb 21 xx ww = (xx = .bool false) := fun xx ww => congrFun (congrFun (congrFun hErgb 21) xx) ww
                have ergb22 : ∀ xx ww, Ergb 22 xx ww = (xx = .bool false) := fun xx ww => congrFun (congrFun (congrFun hErgb 22) xx) ww
                obtain ⟨Crgb, hCrgb⟩ : ∃ CC : Array Bool → World → Prop, CC = fun L8 w' => Below wq.heap.size wq w' := ⟨_, rfl⟩
                have krgb : ∀ i L w,  Crgb L w → Crgb (L.setIfInBounds i true) w := by
                  intro i L w  h
                  rw [hCrgb] at h ⊢
                  exact h
                obtain ⟨Xrgb, hXrgb⟩ : ∃ XX : World → World → Prop, XX = fun x y => True := ⟨_, rfl⟩
                have xrgb : ∀ w, Xrgb w w := fun w => by rw [hXrgb]; exact trivial
                have strgb : ∀ j x w w1, Xrgb w w1 → Ergb j x w → Ergb j x w1 := by
                  intro j x w w1 hx h
                  rw [hXrgb] at hx
                  match j with
                  | 0 => rw [ergb0] at h ⊢; exact h
                  | 1 => rw [ergb1] at h ⊢; exact h
                  | 2 => rw [ergb2] at h ⊢; exact h
                  | 3 => rw [ergb3] at h ⊢; exact h
                  | 4 => rw [ergb4] at h ⊢; exact h
                  | 5 => rw [ergb5] at h ⊢; exact h
                  | 6 => rw [ergb6] at h ⊢; exact h
                  | 7 => rw [ergb7] at h ⊢; exact h
                  | 8 => rw [ergb8] at h ⊢; exact h
                  | 9 => rw [ergb9] at h ⊢; exact h
                  | 10 => rw [ergb10] at h ⊢; exact h
                  | 11 => rw [ergb11] at h ⊢; exact h
                  | 12 => rw [ergb12] at h ⊢; exact h
                  | 13 => rw [ergb13] at h ⊢; exact h
                  | 14 => rw [ergb14] at h ⊢; exact h
                  | 15 => rw [ergb15] at h ⊢; exact h
                  | 16 => rw [ergb16] at h ⊢; exact h
                  | 17 => rw [ergb17] at h ⊢; exact h
                  | 18 => rw [ergb18] at h ⊢; exact h
                  | 19 => rw [ergb19] at h ⊢; exact h
                  | 20 => rw [ergb20] at h ⊢; exact h
                  | 21 => rw [ergb21] at h ⊢; exact h
                  | 22 => rw [ergb22] at h ⊢; exact h
                  | j + 23 => rw [hErgb]; trivial
                have crgb : Crgb (Array.replicate 23 false) wq.drew := by rw [hCrgb]; exact (Below.refl _ _).drew
                have brgb : ∀ L w w1, Crgb L w → Below w.heap.size w w1 → Crgb L w1 := by
                  intro L w w1 h hb
                  rw [hCrgb] at h ⊢
                  exact h.trans (hb.mono h.size)
                have xbrgb : ∀ w w1, Below w.heap.size w w1 → Xrgb w w1 := by
                  intro w w1 hb
                  rw [hXrgb]
                  trivial
                have Hrgbb := Lib.hid brgb
                have Hrgbxb := Lib.hid xbrgb
                clear brgb xbrgb
                clear hErgb
                have Hrgbk := Lib.hid krgb
                have Hrgbx := Lib.hid xrgb
                have Hrgbst := Lib.hid strgb
                have Hrgbc := Lib.hid crgb
                have HrgbhC := Lib.hid hCrgb
                have HrgbhX := Lib.hid hXrgb
                have Hrgbe0 := Lib.hid ergb0
                have Hrgbe1 := Lib.hid ergb1
                have Hrgbe2 := Lib.hid ergb2
                have Hrgbe3 := Lib.hid ergb3
                have Hrgbe4 := Lib.hid ergb4
                have Hrgbe5 := Lib.hid ergb5
                have Hrgbe6 := Lib.hid ergb6
                have Hrgbe7 := Lib.hid ergb7
                have Hrgbe8 := Lib.hid ergb8
                have Hrgbe9 := Lib.hid ergb9
                have Hrgbe10 := Lib.hid ergb10
                have Hrgbe11 := Lib.hid ergb11
                have Hrgbe12 := Lib.hid ergb12
                have Hrgbe13 := Lib.hid ergb13
                have Hrgbe14 := Lib.hid ergb14
                have Hrgbe15 := Lib.hid ergb15
                have Hrgbe16 := Lib.hid ergb16
                have Hrgbe17 := Lib.hid ergb17
                have Hrgbe18 := Lib.hid ergb18
                have Hrgbe19 := Lib.hid ergb19
                have Hrgbe20 := Lib.hid ergb20
                have Hrgbe21 := Lib.hid ergb21
                have Hrgbe22 := Lib.hid ergb22
                clear krgb xrgb strgb crgb hCrgb hXrgb ergb0 ergb1 ergb2 ergb3 ergb4 ergb5 ergb6 ergb7 ergb8 ergb9 ergb10 ergb11 ergb12 ergb13 ergb14 ergb15 ergb16 ergb17 ergb18 ergb19 ergb20 ergb21 ergb22
                go_wp2_with fail
                refine Reg.regionF Ergb Crgb Xrgb Hrgbst.out (by kernel_rfl) (by kernel_rfl) (by kernel_rfl) Hrgbc.out (fun Frgb hFrgb => ?_)
                simp only [Reg.frame, Reg.dsts, List.map_cons, List.map_nil, Mix.put_lit, List.set_cons_succ, List.set_cons_zero, Nat.zero_add, Nat.reduceAdd] at hFrgb
                refine ⟨?_, ?_⟩
                · refine ⟨?_, ?_, ?_, ?_, ?_, ?_, ?_, ?_, ?_, ?_, ?_, ?_, ?_, ?_, ?_, ?_, ?_, ?_, ?_, ?_, ?_, ?_, ?_, trivial⟩
                  · intro Lq wq xq hh
                    simp only [hFrgb]
                    refine .inl ⟨rfl, ?_⟩
                    unfold Reg.upon
                    have hk := Hrgbk.out 0 Lq wq  hh.cls
                    have hx := Hrgbx.out wq
                    have he : Ergb 0 (.slice wa wl wcap) wq := by rw [Hrgbe0.out]
                    have HK := Lib.hid (And.intro hk (And.intro he hx))
                    clear hk hx he
                    go_simp
                    exact HK.out
                  · intro Lq wq xq hh
                    simp only [hFrgb]
                    refine .inl ⟨rfl, ?_⟩
                    unfold Reg.upon
                    have hk := Hrgbk.out 1 Lq wq  hh.cls
                    have hx := Hrgbx.out wq
                    have he : Ergb 1 (.slice (some ⟨bl, ol, none⟩) al lcap) wq := by rw [Hrgbe1.out]
                    have HK := Lib.hid (And.intro hk (And.intro he hx))
                    clear hk hx he
                    go_simp
                    exact HK.out
                  · intro Lq wq xq hh
                    simp only [hFrgb]
                    refine .inl ⟨rfl, ?_⟩
                    unfold Reg.upon
                    have hk := Hrgbk.out 2 Lq wq  hh.cls
                    have hx := Hrgbx.out wq
                    have he : Ergb 2 (.int .i64 (i : Int)) wq := by rw [Hrgbe2.out]
                    have HK := Lib.hid (And.intro hk (And.intro he hx))
                    clear hk hx he
                    go_simp
                    exact HK.out
                  · intro Lq wq xq hh
                    have d1 : Ergb 1 (xq 1) wq := hh.val 1 (by kernel_rfl) (by kernel_rfl)
                    rw [Hrgbe1.out] at d1
                    have d2 : Ergb 2 (xq 2) wq := hh.val 2 (by kernel_rfl) (by kernel_rfl)
                    rw [Hrgbe2.out] at d2
                    simp only [hFrgb, d1, d2]
                    clear d1 d2
                    refine .inl ⟨rfl, ?_⟩
                    unfold Reg.upon
                    have hk := Hrgbk.out 3 Lq wq  hh.cls
                    have hx := Hrgbx.out wq
                    have he : Ergb 3 (.pointer (some ⟨bl, ol + i, none⟩)) wq := by rw [Hrgbe3.out]
                    have HK := Lib.hid (And.intro hk (And.intro he hx))
                    clear hk hx he
                    go_simp
                    exact HK.out
                  · intro Lq wq xq hh
                    have d3 : Ergb 3 (xq 3) wq := hh.val 3 (by kernel_rfl) (by kernel_rfl)
                    rw [Hrgbe3.out] at d3
                    simp only [hFrgb, d3]
                    clear d3
                    refine .inl ⟨rfl, ?_⟩
                    unfold Reg.upon
                    have hc : Crgb Lq wq := hh.cls
                    rw [HrgbhC.out] at hc
                    have q0 := (hc.cell (p := ⟨bl, ol + i, none⟩) HLBL.out).trans HX1.out
                    clear hc
                    have hk := Hrgbk.out 4 Lq wq  hh.cls
                    have hx := Hrgbx.out wq
                    have he : Ergb 4 (.int .i64 x1) wq := by rw [Hrgbe4.out]
                    have HK := Lib.hid (And.intro hk (And.intro he hx))
                    clear hk hx he
                    go_simp
                    exact HK.out
                  · intro Lq wq xq hh
                    have d0 : Ergb 0 (xq 0) wq := hh.val 0 (by kernel_rfl) (by kernel_rfl)
                    rw [Hrgbe0.out] at d0
                    have d4 : Ergb 4 (xq 4) wq := hh.val 4 (by kernel_rfl) (by kernel_rfl)
                    rw [Hrgbe4.out] at d4
                    simp only [hFrgb, d0, d4]
                    clear d0 d4
                    refine .inl ⟨rfl, ?_⟩
                    unfold Reg.upon
                    have hc : Crgb Lq wq := hh.cls
                    rw [HrgbhC.out] at hc
                    go_simp
                    refine (HHAS.out wq (HBQ.out.trans (hc.mono HBQ.out.size))).mono ?_
                    rintro e w2 ⟨rfl, rfl⟩
                    exact ⟨_, rfl, Hrgbk.out 5 Lq wq  hh.cls, (by rw [Hrgbe5.out]; try rfl), Hrgbx.out _⟩
                  · intro Lq wq xq hh
                    have d5 : Ergb 5 (xq 5) wq := hh.val 5 (by kernel_rfl) (by kernel_rfl)
                    rw [Hrgbe5.out] at d5
                    simp only [hFrgb, d5]
                    clear d5
                    refine .inl ⟨rfl, ?_⟩
                    unfold Reg.upon
                    have hk := Hrgbk.out 6 Lq wq  hh.cls
                    have hx := Hrgbx.out wq
                    have he : Ergb 6 (.bool false) wq := by rw [Hrgbe6.out]
                    have HK := Lib.hid (And.intro hk (And.intro he hx))
                    clear hk hx he
                    go_simp
                    exact HK.out
                  · intro Lq wq xq hh
                    have d6 : Ergb 6 (xq 6) wq := hh.val 6 (by kernel_rfl) (by kernel_rfl)
                    rw [Hrgbe6.out] at d6
                    simp only [hFrgb, d6]
                    clear d6
                    refine .inl ⟨rfl, ?_⟩
                    unfold Reg.upon
                    have hk := Hrgbk.out 7 Lq wq  hh.cls
                    have hx := Hrgbx.out wq
                    have he : Ergb 7 (.bool false) wq := by rw [Hrgbe7.out]
                    have HK := Lib.hid (And.intro hk (And.intro he hx))
                    clear hk hx he
                    go_simp
                    exact HK.out
                  · intro Lq wq xq hh
                    have d7 : Ergb 7 (xq 7) wq := hh.val 7 (by kernel_rfl) (by kernel_rfl)
                    rw [Hrgbe7.out] at d7
                    simp only [hFrgb, d7]
                    clear d7
                    refine .inl ⟨rfl, ?_⟩
                    unfold Reg.upon
                    have hk := Hrgbk.out 8 Lq wq  hh.cls
                    have hx := Hrgbx.out wq
                    have he : Ergb 8 (.int .i64 (i : Int)) wq := by rw [Hrgbe8.out]
                    have HK := Lib.hid (And.intro hk (And.intro he hx))
                    clear hk hx he
                    go_simp
                    exact HK.out
                  · intro Lq wq xq hh
                    have d7 : Ergb 7 (xq 7) wq := hh.val 7 (by kernel_rfl) (by kernel_rfl)
                    rw [Hrgbe7.out] at d7
                    have d8 : Ergb 8 (xq 8) wq := hh.val 8 (by kernel_rfl) (by kernel_rfl)
                    rw [Hrgbe8.out] at d8
                    simp only [hFrgb, d7, d8]
                    clear d7 d8
                    refine .inl ⟨rfl, ?_⟩
                    unfold Reg.upon
                    have hk := Hrgbk.out 9 Lq wq  hh.cls
                    have hx := Hrgbx.out wq
                    have he : Ergb 9 (.bool true) wq := by rw [Hrgbe9.out]
                    have HK := Lib.hid (And.intro hk (And.intro he hx))
                    clear hk hx he
                    go_simp
                    exact HK.out
                  · intro Lq wq xq hh
                    have d7 : Ergb 7 (xq 7) wq := hh.val 7 (by kernel_rfl) (by kernel_rfl)
                    rw [Hrgbe7.out] at d7
                    have d9 : Ergb 9 (xq 9) wq := hh.val 9 (by kernel_rfl) (by kernel_rfl)
                    rw [Hrgbe9.out] at d9
                    simp only [hFrgb, d7, d9]
                    clear d7 d9
                    refine .inl ⟨rfl, ?_⟩
                    unfold Reg.upon
                    have hk := Hrgbk.out 10 Lq wq  hh.cls
                    have hx := Hrgbx.out wq
                    have he : Ergb 10 (.bool true) wq := by rw [Hrgbe10.out]
                    have HK := Lib.hid (And.intro hk (And.intro he hx))
                    clear hk hx he
                    go_simp
                    exact HK.out
                  · intro Lq wq xq hh
                    have d10 : Ergb 10 (xq 10) wq := hh.val 10 (by kernel_rfl) (by kernel_rfl)
                    rw [Hrgbe10.out] at d10
                    simp only [hFrgb, d10]
                    clear d10
                    refine .inl ⟨rfl, ?_⟩
                    unfold Reg.upon
                    have hk := Hrgbk.out 11 Lq wq  hh.cls
                    have hx := Hrgbx.out wq
                    have he : Ergb 11 (.slice (some ⟨bl, ol, none⟩) al lcap) wq := by rw [Hrgbe11.out]
                    have HK := Lib.hid (And.intro hk (And.intro he hx))
                    clear hk hx he
                    go_simp
                    exact HK.out
                  · intro Lq wq xq hh
                    have d10 : Ergb 10 (xq 10) wq := hh.val 10 (by kernel_rfl) (by kernel_rfl)
                    rw [Hrgbe10.out] at d10
                    simp only [hFrgb, d10]
                    clear d10
                    refine .inl ⟨rfl, ?_⟩
                    unfold Reg.upon
                    have hk := Hrgbk.out 12 Lq wq  hh.cls
                    have hx := Hrgbx.out wq
                    have he : Ergb 12 (.int .i64 (i : Int)) wq := by rw [Hrgbe12.out]
                    have HK := Lib.hid (And.intro hk (And.intro he hx))
                    clear hk hx he
                    go_simp
                    exact HK.out
                  · intro Lq wq xq hh
                    have d10 : Ergb 10 (xq 10) wq := hh.val 10 (by kernel_rfl) (by kernel_rfl)
                    rw [Hrgbe10.out] at d10
                    have d11 : Ergb 11 (xq 11) wq := hh.val 11 (by kernel_rfl) (by kernel_rfl)
                    rw [Hrgbe11.out] at d11
                    have d12 : Ergb 12 (xq 12) wq := hh.val 12 (by kernel_rfl) (by kernel_rfl)
                    rw [Hrgbe12.out] at d12
                    simp only [hFrgb, d10, d11, d12]
                    clear d10 d11 d12
                    refine .inl ⟨rfl, ?_⟩
                    unfold Reg.upon
                    have hk := Hrgbk.out 13 Lq wq  hh.cls
                    have hx := Hrgbx.out wq
                    have he : Ergb 13 (.pointer (some ⟨bl, ol + i, none⟩)) wq := by rw [Hrgbe13.out]
                    have HK := Lib.hid (And.intro hk (And.intro he hx))
                    clear hk hx he
                    go_simp
                    exact HK.out
                  · intro Lq wq xq hh
                    have d10 : Ergb 10 (xq 10) wq := hh.val 10 (by kernel_rfl) (by kernel_rfl)
                    rw [Hrgbe10.out] at d10
                    have d13 : Ergb 13 (xq 13) wq := hh.val 13 (by kernel_rfl) (by kernel_rfl)
                    rw [Hrgbe13.out] at d13
                    simp only [hFrgb, d10, d13]
                    clear d10 d13
                    refine .inl ⟨rfl, ?_⟩
                    unfold Reg.upon
                    have hc : Crgb Lq wq := hh.cls
                    rw [HrgbhC.out] at hc
                    have q0 := (hc.cell (p := ⟨bl, ol + i, none⟩) HLBL.out).trans HX1.out
                    clear hc
                    have hk := Hrgbk.out 14 Lq wq  hh.cls
                    have hx := Hrgbx.out wq
                    have he : Ergb 14 (.int .i64 x1) wq := by rw [Hrgbe14.out]
                    have HK := Lib.hid (And.intro hk (And.intro he hx))
                    clear hk hx he
                    go_simp
                    exact HK.out
                  · intro Lq wq xq hh
                    have d10 : Ergb 10 (xq 10) wq := hh.val 10 (by kernel_rfl) (by kernel_rfl)
                    rw [Hrgbe10.out] at d10
                    simp only [hFrgb, d10]
                    clear d10
                    refine .inl ⟨rfl, ?_⟩
                    unfold Reg.upon
                    have hk := Hrgbk.out 15 Lq wq  hh.cls
                    have hx := Hrgbx.out wq
                    have he : Ergb 15 (.slice (some ⟨bl, ol, none⟩) al lcap) wq := by rw [Hrgbe15.out]
                    have HK := Lib.hid (And.intro hk (And.intro he hx))
                    clear hk hx he
                    go_simp
                    exact HK.out
                  · intro Lq wq xq hh
                    have d10 : Ergb 10 (xq 10) wq := hh.val 10 (by kernel_rfl) (by kernel_rfl)
                    rw [Hrgbe10.out] at d10
                    simp only [hFrgb, d10]
                    clear d10
                    refine .inl ⟨rfl, ?_⟩
                    unfold Reg.upon
                    have hk := Hrgbk.out 16 Lq wq  hh.cls
                    have hx := Hrgbx.out wq
                    have he : Ergb 16 (.int .i64 (i : Int)) wq := by rw [Hrgbe16.out]
                    have HK := Lib.hid (And.intro hk (And.intro he hx))
                    clear hk hx he
                    go_simp
                    exact HK.out
                  · intro Lq wq xq hh
                    have d10 : Ergb 10 (xq 10) wq := hh.val 10 (by kernel_rfl) (by kernel_rfl)
                    rw [Hrgbe10.out] at d10
                    have d16 : Ergb 16 (xq 16) wq := hh.val 16 (by kernel_rfl) (by kernel_rfl)
                    rw [Hrgbe16.out] at d16
                    simp only [hFrgb, d10, d16]
                    clear d10 d16
                    refine .inl ⟨rfl, ?_⟩
                    unfold Reg.upon
                    have hk := Hrgbk.out 17 Lq wq  hh.cls
                    have hx := Hrgbx.out wq
                    have he : Ergb 17 (.int .i64 (i0 : Int)) wq := by rw [Hrgbe17.out]
                    have HK := Lib.hid (And.intro hk (And.intro he hx))
                    clear hk hx he
                    go_simp
                    exact HK.out
                  · intro Lq wq xq hh
                    have d10 : Ergb 10 (xq 10) wq := hh.val 10 (by kernel_rfl) (by kernel_rfl)
                    rw [Hrgbe10.out] at d10
                    have d15 : Ergb 15 (xq 15) wq := hh.val 15 (by kernel_rfl) (by kernel_rfl)
                    rw [Hrgbe15.out] at d15
                    have d17 : Ergb 17 (xq 17) wq := hh.val 17 (by kernel_rfl) (by kernel_rfl)
                    rw [Hrgbe17.out] at d17
                    simp only [hFrgb, d10, d15, d17]
                    clear d10 d15 d17
                    refine .inl ⟨rfl, ?_⟩
                    unfold Reg.upon
                    have hk := Hrgbk.out 18 Lq wq  hh.cls
                    have hx := Hrgbx.out wq
                    have he : Ergb 18 (.pointer (some ⟨bl, ol + i0, none⟩)) wq := by rw [Hrgbe18.out]
                    have HK := Lib.hid (And.intro hk (And.intro he hx))
                    clear hk hx he
                    go_simp
                    exact HK.out
                  · intro Lq wq xq hh
                    have d10 : Ergb 10 (xq 10) wq := hh.val 10 (by kernel_rfl) (by kernel_rfl)
                    rw [Hrgbe10.out] at d10
                    have d18 : Ergb 18 (xq 18) wq := hh.val 18 (by kernel_rfl) (by kernel_rfl)
                    rw [Hrgbe18.out] at d18
                    simp only [hFrgb, d10, d18]
                    clear d10 d18
                    refine .inl ⟨rfl, ?_⟩
                    unfold Reg.upon
                    have hc : Crgb Lq wq := hh.cls
                    rw [HrgbhC.out] at hc
                    have q0 := (hc.cell (p := ⟨bl, ol + i0, none⟩) HLBL.out).trans HX0.out
                    clear hc
                    have hk := Hrgbk.out 19 Lq wq  hh.cls
                    have hx := Hrgbx.out wq
                    have he : Ergb 19 (.int .i64 x0) wq := by rw [Hrgbe19.out]
                    have HK := Lib.hid (And.intro hk (And.intro he hx))
                    clear hk hx he
                    go_simp
                    exact HK.out
                  · intro Lq wq xq hh
                    have d10 : Ergb 10 (xq 10) wq := hh.val 10 (by kernel_rfl) (by kernel_rfl)
                    rw [Hrgbe10.out] at d10
                    have d14 : Ergb 14 (xq 14) wq := hh.val 14 (by kernel_rfl) (by kernel_rfl)
                    rw [Hrgbe14.out] at d14
                    have d19 : Ergb 19 (xq 19) wq := hh.val 19 (by kernel_rfl) (by kernel_rfl)
                    rw [Hrgbe19.out] at d19
                    simp only [hFrgb, d10, d14, d19]
                    clear d10 d14 d19
                    refine .inl ⟨rfl, ?_⟩
                    unfold Reg.upon
                    have hk := Hrgbk.out 20 Lq wq  hh.cls
                    have hx := Hrgbx.out wq
                    have he : Ergb 20 (.bool false) wq := by rw [Hrgbe20.out]
                    have HK := Lib.hid (And.intro hk (And.intro he hx))
                    clear hk hx he
                    go_simp
                    exact HK.out
                  · intro Lq wq xq hh
                    have d7 : Ergb 7 (xq 7) wq := hh.val 7 (by kernel_rfl) (by kernel_rfl)
                    rw [Hrgbe7.out] at d7
                    have d10 : Ergb 10 (xq 10) wq := hh.val 10 (by kernel_rfl) (by kernel_rfl)
                    rw [Hrgbe10.out] at d10
                    have d20 : Ergb 20 (xq 20) wq := hh.val 20 (by kernel_rfl) (by kernel_rfl)
                    rw [Hrgbe20.out] at d20
                    simp only [hFrgb, d7, d10, d20]
                    clear d7 d10 d20
                    refine .inl ⟨rfl, ?_⟩
                    unfold Reg.upon
                    have hk := Hrgbk.out 21 Lq wq  hh.cls
                    have hx := Hrgbx.out wq
                    have he : Ergb 21 (.bool false) wq := by rw [Hrgbe21.out]
                    have HK := Lib.hid (And.intro hk (And.intro he hx))
                    clear hk hx he
                    go_simp
                    exact HK.out
                  · intro Lq wq xq hh
                    have d7 : Ergb 7 (xq 7) wq := hh.val 7 (by kernel_rfl) (by kernel_rfl)
                    rw [Hrgbe7.out] at d7
                    have d21 : Ergb 21 (xq 21) wq := hh.val 21 (by kernel_rfl) (by kernel_rfl)
                    rw [Hrgbe21.out] at d21
                    simp only [hFrgb, d7, d21]
                    clear d7 d21
                    refine .inl ⟨rfl, ?_⟩
                    unfold Reg.upon
                    have hk := Hrgbk.out 22 Lq wq  hh.cls
                    have hx := Hrgbx.out wq
                    have he : Ergb 22 (.bool false) wq := by rw [Hrgbe22.out]
                    have HK := Lib.hid (And.intro hk (And.intro he hx))
                    clear hk hx he
                    go_simp
                    exact HK.out
                intro xq wrgb hcrgb hvrgb
                rw [HrgbhC.out] at hcrgb
                simp only [hFrgb]
                have vrgb22 : Ergb 22 (xq 22) wrgb := hvrgb 22 (by decide)
                rw [Hrgbe22.out] at vrgb22
                rw [vrgb22]
                clear hvrgb hFrgb Hrgbk Hrgbx Hrgbst Hrgbc HrgbhC HrgbhX Hrgbb Hrgbxb Hrgbe0 Hrgbe1 Hrgbe2 Hrgbe3 Hrgbe4 Hrgbe5 Hrgbe6 Hrgbe7 Hrgbe8 Hrgbe9 Hrgbe10 Hrgbe11 Hrgbe12 Hrgbe13 Hrgbe14 Hrgbe15 Hrgbe16 Hrgbe17 Hrgbe18 Hrgbe19 Hrgbe20 Hrgbe21 Hrgbe22
                have HFB := Lib.hid (HBQ.out.trans (hcrgb.mono HBQ.out.size))
                clear hcrgb
                try clear vrgb22
                go_wp2
                go_roundw
                case rel => exact ⟨i + 1, by omega, by go_num, HFB.out⟩
                case measure => simp [intOf] <;> omega
            · obtain rfl : i = al := by omega
              have HWHQ := Lib.hid (HWH5.out.below HBQ.out)
              have HSTQ := Lib.hid (show StAt wq g F from Has.below HST5.out HBQ.out (Has.lt HST5.out))
              have HBZ := Lib.hid (HBY.out.trans (HBQ.out.mono HBY.out.size))
              clear HL5 hlc
              go_wp2
              go_loopw [15, 16] (fun nv kv wr => ∃ k9 : Nat, 1 ≤ k9 ∧ k9 ≤ 1024 ∧ kv = .int .i64 k9 ∧ nv = .int .i64 ((allF F k9).length : Int) ∧ wq = wr) (fun _ kv _ => 1024 - (intOf kv).toNat)
              case atStart => exact ⟨1, Nat.le_refl _, by decide, rfl, by have := HLEN.out 0; rw [HF0.out, HZ.out] at this; rw [this]; rfl, rfl⟩
              case round =>
                obtain ⟨k9, hk1, hk2, rfl, hnv, rfl⟩ := hrel
                obtain ⟨nv, hnv0⟩ : ∃ nv, nv = u15 := ⟨_, rfl⟩
                rw [← hnv0] at hnv ⊢
                subst hnv
                clear hnv0
                by_cases hlt9 : k9 ≤ 1023
                · have hg : decide ((k9 : Int) ≤ 1023) = true := by rw [decide_eq_true_eq]; omega
                  have hh := HRH.out (k9 : Int) wq HWHQ.out
                  rw [HHF.out] at hh
                  have hl9 := HLEN.out k9
                  have hle9 := HLE.out k9
                  have hwk9 : IntKind.i64.wrap ((k9 : Int) + 1) = (k9 : Int) + 1 := by rw [IntKind.wrap_i64]; omega
                  obtain ⟨cn, hcn⟩ : ∃ cn, cn = (allF F k9).length := ⟨_, rfl⟩
                  rw [← hcn] at hl9 hle9 ⊢
                  have hwc : IntKind.i64.wrap ((cn : Int) + 1) = (cn : Int) + 1 := by rw [IntKind.wrap_i64]; omega
                  clear hcn
                  cases hb : F k9 with
                  | true =>
                    rw [hb] at hh
                    rw [hb, if_pos rfl] at hl9
                    have HL9 := Lib.hid hl9
                    clear hb hl9
                    go_wp2_with fail
                    refine hh.mono ?_
                    clear hh
                    rintro e w7 ⟨rfl, rfl⟩
                    go_wp2
                    go_roundw
                    case rel => exact ⟨k9 + 1, by omega, by omega, by go_num, by rw [HL9.out]; go_num, trivial⟩
                    case measure => simp [intOf] <;> omega
                  | false =>
                    rw [hb] at hh
                    rw [hb, if_neg (by decide), Nat.add_zero] at hl9
                    have HL9 := Lib.hid hl9
                    clear hb hl9
                    go_wp2_with fail
                    refine hh.mono ?_
                    clear hh
                    rintro e w7 ⟨rfl, rfl⟩
                    go_wp2
                    go_roundw
                    case rel => exact ⟨k9 + 1, by omega, by omega, by go_num, by rw [HL9.out]; rfl, trivial⟩
                    case measure => simp [intOf] <;> omega
                · obtain rfl : k9 = 1024 := by omega
                  rw [← HAL.out]
                  have hnn : ((i : Int) == (i : Int)) = true := by simp
                  have hp1 : ((nextF F cl) == (nextF F cl)) = true := by simp
                  have hp2 : ((prevF F cl) == (prevF F cl)) = true := by simp
                  have g1 := tset_nil 5 true wq
                  go_wp2_with fail
                  refine g1.mono ?_
                  clear g1
                  rintro e w7 ⟨rfl, rfl⟩
                  have g2 := HNF.out wq HSTQ.out
                  go_wp2_with fail
                  refine g2.mono ?_
                  clear g2
                  rintro e w7 ⟨rfl, rfl⟩
                  have g3 := HRN.out wq HWHQ.out
                  go_wp2_with fail
                  refine g3.mono ?_
                  clear g3
                  rintro e w7 ⟨rfl, rfl⟩
                  have g4 := HPF.out wq HSTQ.out
                  go_wp2_with fail
                  refine g4.mono ?_
                  clear g4
                  rintro e w7 ⟨rfl, rfl⟩
                  have g5 := HRP.out wq HWHQ.out
                  go_wp2_with fail
                  refine g5.mono ?_
                  clear g5
                  rintro e w7 ⟨rfl, rfl⟩
                  have g6 := tnext_nil 3 wq
                  go_wp2_with fail
                  refine g6.mono ?_
                  clear g6
                  rintro e w7 ⟨rfl, rfl⟩
                  have g7 := tprev_nil 3 wq
                  go_wp2_with fail
                  refine g7.mono ?_
                  clear g7
                  rintro e w7 ⟨rfl, rfl⟩
                  have g8 := tall_nil wq
                  go_wp2_with fail
                  refine g8.mono ?_
                  clear g8
                  rintro e w7 ⟨rfl, rfl⟩
                  go_wp2
                  go_ret
                  exact ⟨(ret_eq (by first | rfl | (simp <;> omega))), HBZ.out⟩
set_option maxRecDepth 100000 in
theorem walk (W : World) (v : Value) (cols : List Int) (hv : Held .i64 W v cols) (hwf : ∀ x ∈ cols, (Lit.int .i64 x).wf = true) (u : Value) (off : List Int) (hu : Held .i64 W u off) (hwf2 : ∀ x ∈ off, (Lit.int .i64 x).wf = true) (cl : Int) (hw : (Lit.int .i64 cl).wf = true) : Calls Try.prog 8 #[v, u, .int .i64 cl] W (Yes W) := by
  by_cases hl : 60 < cols.length
  · obtain ⟨ao, ca, rfl⟩ := hv.len
    obtain ⟨bo, cb, rfl⟩ := hu.len
    clear hv hu hwf hwf2
    go_enter Try.func8, Try.ntmps8
    go_wp2_with fail
    refine (works57_any _).mono ?_
    rintro e w1 ⟨rfl, b1⟩
    go_wp2_with fail
    refine (works57_any _).mono ?_
    rintro e w2 ⟨rfl, b2⟩
    have B := b1.trans (b2.mono b1.size)
    go_wp2
    go_ret
    exact ⟨(ret_eq (by first | rfl | (simp <;> omega))), B⟩
  · by_cases hl2 : 60 < off.length
    · obtain ⟨ao, ca, rfl⟩ := hv.len
      obtain ⟨bo, cb, rfl⟩ := hu.len
      have hd1 : decide ((60 : Int) < cols.length) = false := by rw [decide_eq_false_iff_not]; omega
      have hd2 : decide (60 < cols.length) = false := by rw [decide_eq_false_iff_not]; omega
      clear hv hu hwf hwf2
      go_enter Try.func8, Try.ntmps8
      go_wp2_with fail
      refine (works57_any _).mono ?_
      rintro e w1 ⟨rfl, b1⟩
      go_wp2_with fail
      refine (works57_any _).mono ?_
      rintro e w2 ⟨rfl, b2⟩
      have B := b1.trans (b2.mono b1.size)
      go_wp2
      go_ret
      exact ⟨(ret_eq (by first | rfl | (simp <;> omega))), B⟩
    · exact walkN W v u cols off cl hv hu (by omega) (by omega)

set_option maxRecDepth 100000 in
theorem lifted (os : Os) (started : os.Started) (H : Type) (enc : TypeId × Value → H) :
    ReturnsInHanded {} Try.checked os 8 .any (Rows.tabsKeepSpec.pre6 enc Try.prog Try.f8 Rows.tabsKeepRow.domain false) (Rows.tabsKeepSpec.post enc Try.prog Try.f8 false true false false) := by
  refine law_frame_plain (C := Try.checked) (tb := 4) (by kernel_rfl) started (by kernel_rfl) Try.func8 (by kernel_rfl) (by kernel_rfl) Try.underlying4 rfl
    (by rw [Try.params8]; intro t ht; simp at ht; rcases ht with rfl | rfl <;> exact ⟨by kernel_rfl, of_decide_eq_true (by kernel_rfl)⟩)
    (by rw [Try.params8]; intro ds hd; match ds, hd with | [_, _, _], _ => rfl)
    (ChangeSpec.witness6 (enc := enc) (C := Try.checked) false ⟨#[], #[.slice none 0 0, .slice none 0 0, .int .i64 0], []⟩ 8 (by kernel_rfl) (by kernel_rfl) (by kernel_rfl) (by kernel_rfl)) ?_
  intro W base args ds before hval hA
  rw [Try.params8] at hA hval
  obtain ⟨v0, vs0, d0, ds0, p0, q0, hargs, rfl, rfl, h0, r0⟩ := trodAll_cons hA
  obtain ⟨v1, vs1, d1, ds1, p1, q1, rfl, rfl, rfl, h1, r1⟩ := trodAll_cons r0
  obtain ⟨v2, vs2, d2, ds2, p2, q2, rfl, rfl, rfl, h2, r2⟩ := trodAll_cons r1
  obtain ⟨rfl, rfl, rfl⟩ := trodAll_nil r2
  obtain rfl : args = #[v0, v1, v2] := by cases args; simp_all
  obtain ⟨x0, hx0, wx0⟩ := held_arg Try.underlying43 Try.underlying3 (by kernel_rfl) (hval 0 43 v0 rfl rfl) h0
  obtain ⟨x1, hx1, wx1⟩ := held_arg Try.underlying43 Try.underlying3 (by kernel_rfl) (hval 1 43 v1 rfl rfl) h1
  obtain ⟨x2, rfl, rfl, rfl, wx2⟩ := open_int Try.underlying3 (hval 2 3 v2 rfl rfl) h2
  exact walk W v0 x0 hx0 wx0 v1 x1 hx1 wx1 x2 wx2

theorem proved : Rows.TabsKeepSaid :=
  OpenClaim.holds_of_wide 8 Try.f8 rfl rfl rfl rfl rfl rfl rfl ⟨rfl, rfl, rfl, rfl, rfl⟩ rfl rfl rfl rfl rfl (by kernel_rfl) Try.func8 (by kernel_rfl)
    (of_decide_eq_true (by kernel_rfl)) (by unfold Func.isWrapper; first | (rw [if_pos (by decide +kernel)]; kernel_rfl) | (rw [if_neg (by decide +kernel)]; exact ⟨rfl, rfl⟩))
    (fun os started H enc _ => lifted os started H enc)
#print axioms proved

end Go.Proofs.Ytgkcobmbdpgceaa.lawTabsKeep
