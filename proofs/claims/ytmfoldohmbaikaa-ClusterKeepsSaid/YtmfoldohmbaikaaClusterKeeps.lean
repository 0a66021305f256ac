/- ClusterKeeps (20.1) answers true at any row of numbers, and turns nothing. No conditions. -/
import Derived.Test.YtmfoldohmbaikaaClusX
import Derived.Test.YtmfoldohmbaikaaUallV
import Derived.Test.YtmfoldohmbaikaaRows
import Derived.ProofKit
import Derived.Deep.Cut
namespace Go.Proofs.Ytmfoldohmbaikaa.lawClusterKeeps
open Go.ChangeShapes Go.WideShapes Go.ChangeAt Go.RowKit
def upTo (xs : List Int) (k : Nat) : List Int := xs.take (min k 16)
theorem upTo_len (xs : List Int) (k : Nat) (h : k ≤ xs.length) : (upTo xs k).length = min k 16 := by unfold upTo; simp; omega
theorem upTo_low (xs : List Int) (k : Nat) (h : k < xs.length) (h16 : k < 16) : upTo xs (k + 1) = upTo xs k ++ [xs.getD k 0] := by
  unfold upTo
  rw [show min (k + 1) 16 = k + 1 by omega, show min k 16 = k by omega, List.take_succ_eq_append_getElem h]
  simp [List.getD, List.getElem?_eq_getElem h]
theorem upTo_high (xs : List Int) (k : Nat) (h16 : 16 ≤ k) : upTo xs (k + 1) = upTo xs k := by
  unfold upTo
  rw [show min (k + 1) 16 = 16 by omega, show min k 16 = 16 by omega]
theorem upTo_all (xs : List Int) : upTo xs xs.length = xs.take 16 := by
  unfold upTo
  rcases Nat.lt_or_ge xs.length 16 with h | h
  · rw [show min xs.length 16 = xs.length by omega, List.take_of_length_le (Nat.le_refl _), List.take_of_length_le (by omega)]
  · rw [show min xs.length 16 = 16 by omega]
set_option maxRecDepth 100000 in
set_option maxHeartbeats 1000000 in
theorem walkN (w : World) (va : Value) (xs : List Int) (ha : Held .i32 w va xs) (ca : CapOk va) (hla : xs.length ≤ 1000) (na : Nat)
    (ea : na ≤ xs.length ∧ xs.take 16 = xs.take na ∧ ((16 ≤ xs.length ∧ na = 16) ∨ (xs.length < 16 ∧ na = xs.length))) :
    Calls Try.prog 13 #[va] w (Yes w) := by
  obtain ⟨ao, ka, rfl, _⟩ := id ha.view
  have HA := Lib.hid ha
  have hka : xs.length ≤ ka := ca _ _ _ rfl
  have lA : (xs.take 16).length ≤ 16 := by simp; omega
  have HEA := Lib.hid ea
  have HLA := Lib.hid lA
  clear ha ca ea lA
  go_enter Try.func13, Try.ntmps13
  go_wp2_with fail
  refine (works20_any _).mono ?_
  rintro e w1 ⟨rfl, b1⟩
  go_wp2
  obtain ⟨W, g, hg, hW, h3, hbW, hzW⟩ := cl_new w1
  rw [← hW, ← hg]
  have hgb : w.heap.size ≤ g := by have := b1.size; omega
  have hb2 := b1.trans (hbW.mono b1.size)
  have H3 := Lib.hid h3
  clear h3 hbW b1 hW hzW hg
  go_loopw [4] (fun i wr => ∃ k : Nat, k ≤ xs.length ∧ i = .int .i64 k ∧ ClAt wr g (upTo xs k) ∧ Below w.heap.size w wr) (fun i _ => xs.length - (intOf i).toNat)
  case atStart => exact ⟨0, Nat.zero_le _, rfl, H3.out, hb2⟩
  case round =>
    obtain ⟨k, hk, rfl, hcl, hbw⟩ := hrel
    have hul := upTo_len xs k hk
    by_cases hlt : k < xs.length
    · obtain ⟨b, off, e1, hb0, hx0⟩ := HA.out.spots k hlt
      subst e1
      obtain ⟨x, hx⟩ : ∃ x, x = xs.getD k 0 := ⟨_, rfl⟩
      have hnext : k < 16 → upTo xs (k + 1) = upTo xs k ++ [x] := fun h => by rw [hx]; exact upTo_low xs k hlt h
      have hstay : 16 ≤ k → upTo xs (k + 1) = upTo xs k := fun h => upTo_high xs k h
      rw [← hx] at hx0
      obtain ⟨A, hA⟩ : ∃ A, A = upTo xs k := ⟨_, rfl⟩
      rw [← hA] at hcl hul hnext hstay
      have HX := Lib.hid hx0
      have HN := Lib.hid hnext
      have HS := Lib.hid hstay
      have HU := Lib.hid hul
      have HC := Lib.hid hcl
      have HAl : Go.RowKit.Hid (A.length ≤ 16) := Lib.hid (by omega)
      clear hx0 hnext hstay hul hA hx hcl
      have hlen : A.length = min k 16 := HU.out
      have HLEN := Lib.hid hlen
      clear hlen
      have hclr := HC.out
      have k0 : (0 : Int) ≤ (k : Int) := by omega
      have k1 : (k : Int) < (xs.length : Int) := by omega
      go_upto_region 8 with (first
        | (refine wpList_load_has rfl 77 (.tmp 3) rfl g rfl 77 (clCells A) _ 17 HC.out Try.underlying77 rfl info_cl (clCells_len A HAl.out) ?_)
        | (refine wpList_store_has rfl 77 (.tmp 5) (.tmp 25) rfl wr.heap.size rfl 77 (clCells []) (clCells A) 17 rfl (Has.new wr (clCells []) _) info_cl rfl (clCells_len A HAl.out) (cl_cells_one A) ?_; intro w5 h5 b5))
      have hlt3 := HC.out.lt
      obtain ⟨G, hG⟩ : ∃ G, G = wr.heap.size := ⟨_, rfl⟩
      have h3 : ClAt w5 g A := (Has.alloc HC.out _).but b5 (by simp; omega) (by omega)
      have hb5 : Below w.heap.size w w5 := (hbw.alloc hbw.size _).trans (b5.below (by have := hbw.size; simp; omega) hbw.size)
      rw [← hG] at h5 ⊢
      clear hG b5 hlt3 hclr hbw
      by_cases h16 : k < 16
      · have hq : (((A ++ [x]).length : Int) == 16) = decide ((15 : Int) ≤ (k : Int)) := by
          have := HLEN.out
          by_cases h : k = 15
          · rw [decide_eq_true (by omega)]; simp; omega
          · rw [decide_eq_false (by omega)]; simp; omega
        obtain ⟨q, hq2⟩ : ∃ q, decide ((15 : Int) ≤ (k : Int)) = q := ⟨_, rfl⟩
        rw [hq2] at hq
        have HQ := Lib.hid hq
        have HQ2 := Lib.hid hq2
        have HMIN := Lib.hid (show (if (16 : Int) < (k : Int) + 1 then 16 else (k : Int) + 1) = ((A ++ [x]).length : Int) by have := HLEN.out; simp; split <;> omega)
        have k2 : (k : Int) < 16 := by omega
        have d1 : decide ((16 : Int) ≤ (k : Int)) = false := decide_eq_false (by omega)
        have d2 : IntKind.i64.wrap ((k : Int) + 1) = (k : Int) + 1 := by rw [IntKind.wrap_i64]; omega
        clear hq hq2
        obtain ⟨Erg, hErg⟩ : ∃ EE : Nat → Value → World → Prop, EE = fun jj xx ww => match jj with
            | 0 => xx = .slice (some ⟨b, off, none⟩) xs.length ka
            | 1 => xx = .int .i64 k
            | 2 => xx = .pointer (some ⟨b, off + k, none⟩)
            | 3 => xx = .int .i32 x
            | 4 => xx = .bool true
            | 5 => xx = .int .i64 k
            | 6 => xx = .bool true
            | 7 => xx = .bool false
            | 8 => xx = .bool false
            | 9 => xx = .int .i64 k
            | 10 => xx = .bool false
            | 11 => xx = .bool false
            | 12 => xx = undef
            | 13 => xx = undef
            | 14 => xx = undef
            | 15 => xx = .bool false
            | 16 => xx = .bool false
            | 17 => xx = .bool false
            | 18 => xx = .int .i64 (A ++ [x]).length
            | 19 => xx = .int .i64 k
            | 20 => xx = .int .i64 ((k : Int) + 1)
            | 21 => xx = .int .i64 (A ++ [x]).length
            | 22 => xx = .bool false
            | 23 => xx = .bool false
            | 24 => xx = .bool false
            | 25 => xx = .bool q
            | 26 => xx = .int .i64 k
            | 27 => xx = .bool q
            | 28 => xx = .bool false
            | 29 => xx = .bool false
            | _ => True := ⟨_, rfl⟩
        have erg0 : ∀ xx ww, Erg 0 xx ww = (xx = .slice (some ⟨b, off, none⟩) xs.length ka) := fun xx ww => congrFun (congrFun (congrFun hErg 0) xx) ww
        have erg1 : ∀ xx ww, Erg 1 xx ww = (xx = .int .i64 k) := fun xx ww => congrFun (congrFun (congrFun hErg 1) xx) ww
        have erg2 : ∀ xx ww, Erg 2 xx ww = (xx = .pointer (some ⟨b, off + k, none⟩)) := fun xx ww => congrFun (congrFun (congrFun hErg 2) xx) ww
        have erg3 : ∀ xx ww, Erg 3 xx ww = (xx = .int .i32 x) := fun xx ww => congrFun (congrFun (congrFun hErg 3) xx) ww
        have erg4 : ∀ xx ww, Erg 4 xx ww = (xx = .bool true) := fun xx ww => congrFun (congrFun (congrFun hErg 4) xx) ww
        have erg5 : ∀ xx ww, Erg 5 xx ww = (xx = .int .i64 k) := fun xx ww => congrFun (congrFun (congrFun hErg 5) xx) ww
        have erg6 : ∀ xx ww, Erg 6 xx ww = (xx = .bool true) := fun xx ww => congrFun (congrFun (congrFun hErg 6) xx) ww
        have erg7 : ∀ xx ww, Erg 7 xx ww = (xx = .bool false) := fun xx ww => congrFun (congrFun (congrFun hErg 7) xx) ww
        have erg8 : ∀ xx ww, Erg 8 xx ww = (xx = .bool false) := fun xx ww => congrFun (congrFun (congrFun hErg 8) xx) ww
        have erg9 : ∀ xx ww, Erg 9 xx ww = (xx = .int .i64 k) := fun xx ww => congrFun (congrFun (congrFun hErg 9) xx) ww
        have erg10 : ∀ xx ww, Erg 10 xx ww = (xx = .bool false) := fun xx ww => congrFun (congrFun (congrFun hErg 10) xx) ww
        have erg11 : ∀ xx ww, Erg 11 xx ww = (xx = .bool false) := fun xx ww => congrFun (congrFun (congrFun hErg 11) xx) ww
        have erg12 : ∀ xx ww, Erg 12 xx ww = (xx = undef) := fun xx ww => congrFun (congrFun (congrFun hErg 12) xx) ww
        have erg13 : ∀ xx ww, Erg 13 xx ww = (xx = undef) := fun xx ww => congrFun (congrFun (congrFun hErg 13) xx) ww
        have erg14 : ∀ xx ww, Erg 14 xx ww = (xx = undef) := fun xx ww => congrFun (congrFun (congrFun hErg 14) xx) ww
        have erg15 : ∀ xx ww, Erg 15 xx ww = (xx = .bool false) := fun xx ww => congrFun (congrFun (congrFun hErg 15) xx) ww
        have erg16 : ∀ xx ww, Erg 16 xx ww = (xx = .bool false) := fun xx ww => congrFun (congrFun (congrFun hErg 16) xx) ww
        have erg17 : ∀ xx ww, Erg 17 xx ww = (xx = .bool false) := fun xx ww => congrFun (congrFun (congrFun hErg 17) xx) ww
        have erg18 : ∀ xx ww, Erg 18 xx ww = (xx = .int .i64 (A ++ [x]).length) := fun xx ww => congrFun (congrFun (congrFun hErg 18) xx) ww
        have erg19 : ∀ xx ww, Erg 19 xx ww = (xx = .int .i64 k) := fun xx ww => congrFun (congrFun (congrFun hErg 19) xx) ww
        have erg20 : ∀ xx ww, Erg 20 xx ww = (xx = .int .i64 ((k : Int) + 1)) := fun xx ww => congrFun (congrFun (congrFun hErg 20) xx) ww
        have erg21 : ∀ xx ww, Erg 21 xx ww = (xx = .int .i64 (A ++ [x]).length) := fun xx ww => congrFun (congrFun (congrFun hErg 21) xx) ww
        have erg22 : ∀ xx ww, Erg 22 xx ww = (xx = .bool false) := fun xx ww => congrFun (congrFun (congrFun hErg 22) xx) ww
        have erg23 : ∀ xx ww, Erg 23 xx ww = (xx = .bool false) := fun xx ww => congrFun (congrFun (congrFun hErg 23) xx) ww
        have erg24 : ∀ xx ww, Erg 24 xx ww = (xx = .bool false) := fun xx ww => congrFun (congrFun (congrFun hErg 24) xx) ww
        have erg25 : ∀ xx ww, Erg 25 xx ww = (xx = .bool q) := fun xx ww => congrFun (congrFun (congrFun hErg 25) xx) ww
        have erg26 : ∀ xx ww, Erg 26 xx ww = (xx = .int .i64 k) := fun xx ww => congrFun (congrFun (congrFun hErg 26) xx) ww
        have erg27 : ∀ xx ww, Erg 27 xx ww = (xx = .bool q) := fun xx ww => congrFun (congrFun (congrFun hErg 27) xx) ww
        have erg28 : ∀ xx ww, Erg 28 xx ww = (xx = .bool false) := fun xx ww => congrFun (congrFun (congrFun hErg 28) xx) ww
        have erg29 : ∀ xx ww, Erg 29 xx ww = (xx = .bool false) := fun xx ww => congrFun (congrFun (congrFun hErg 29) xx) ww
        obtain ⟨Crg, hCrg⟩ : ∃ CC : Array Bool → World → Prop, CC = fun L w' => ClAt w' g (if Mix.one L 4 = 0 then A else A ++ [x]) ∧ Below w.heap.size w w' := ⟨_, rfl⟩
        have krg : ∀ i L w, i ≠ 4 →  Crg L w → Crg (L.setIfInBounds i true) w := by
          intro i L w q4 h
          rw [hCrg] at h ⊢
          simp only [Mix.one_ne q4]; exact h
        obtain ⟨Xrg, hXrg⟩ : ∃ XX : World → World → Prop, XX = fun w w1 => But g w.heap.size w w1 := ⟨_, rfl⟩
        have xrg : ∀ w, Xrg w w := fun w => by rw [hXrg]; exact But.refl _ _ _
        have strg : ∀ j x w w1, Xrg w w1 → Erg j x w → Erg j x w1 := by
          intro j x w w1 hx h
          rw [hXrg] at hx
          match j with
          | 0 => rw [erg0] at h ⊢; exact h
          | 1 => rw [erg1] at h ⊢; exact h
          | 2 => rw [erg2] at h ⊢; exact h
          | 3 => rw [erg3] at h ⊢; exact h
          | 4 => rw [erg4] at h ⊢; exact h
          | 5 => rw [erg5] at h ⊢; exact h
          | 6 => rw [erg6] at h ⊢; exact h
          | 7 => rw [erg7] at h ⊢; exact h
          | 8 => rw [erg8] at h ⊢; exact h
          | 9 => rw [erg9] at h ⊢; exact h
          | 10 => rw [erg10] at h ⊢; exact h
          | 11 => rw [erg11] at h ⊢; exact h
          | 12 => rw [erg12] at h ⊢; exact h
          | 13 => rw [erg13] at h ⊢; exact h
          | 14 => rw [erg14] at h ⊢; exact h
          | 15 => rw [erg15] at h ⊢; exact h
          | 16 => rw [erg16] at h ⊢; exact h
          | 17 => rw [erg17] at h ⊢; exact h
          | 18 => rw [erg18] at h ⊢; exact h
          | 19 => rw [erg19] at h ⊢; exact h
          | 20 => rw [erg20] at h ⊢; exact h
          | 21 => rw [erg21] at h ⊢; exact h
          | 22 => rw [erg22] at h ⊢; exact h
          | 23 => rw [erg23] at h ⊢; exact h
          | 24 => rw [erg24] at h ⊢; exact h
          | 25 => rw [erg25] at h ⊢; exact h
          | 26 => rw [erg26] at h ⊢; exact h
          | 27 => rw [erg27] at h ⊢; exact h
          | 28 => rw [erg28] at h ⊢; exact h
          | 29 => rw [erg29] at h ⊢; exact h
          | j + 30 => rw [hErg]; trivial
        have crg : Crg (Array.replicate 30 false) w5 := by rw [hCrg]; exact ⟨h3, hb5⟩
        have brg : ∀ L w w1, Crg L w → Below w.heap.size w w1 → Crg L w1 := by
          intro L w w1 h hb
          rw [hCrg] at h ⊢
          exact ⟨Has.below h.1 hb h.1.lt, h.2.trans (hb.mono h.2.size)⟩
        have xbrg : ∀ w w1, Below w.heap.size w w1 → Xrg w w1 := by
          intro w w1 hb
          rw [hXrg]
          exact But.ofBelow hb
        have Hrgb := Lib.hid brg
        have Hrgxb := Lib.hid xbrg
        clear brg xbrg
        clear hErg
        have Hrgk := Lib.hid krg
        have Hrgx := Lib.hid xrg
        have Hrgst := Lib.hid strg
        have Hrgc := Lib.hid crg
        have HrghC := Lib.hid hCrg
        have HrghX := Lib.hid hXrg
        have Hrge0 := Lib.hid erg0
        have Hrge1 := Lib.hid erg1
        have Hrge2 := Lib.hid erg2
        have Hrge3 := Lib.hid erg3
        have Hrge4 := Lib.hid erg4
        have Hrge5 := Lib.hid erg5
        have Hrge6 := Lib.hid erg6
        have Hrge7 := Lib.hid erg7
        have Hrge8 := Lib.hid erg8
        have Hrge9 := Lib.hid erg9
        have Hrge10 := Lib.hid erg10
        have Hrge11 := Lib.hid erg11
        have Hrge12 := Lib.hid erg12
        have Hrge13 := Lib.hid erg13
        have Hrge14 := Lib.hid erg14
        have Hrge15 := Lib.hid erg15
        have Hrge16 := Lib.hid erg16
        have Hrge17 := Lib.hid erg17
        have Hrge18 := Lib.hid erg18
        have Hrge19 := Lib.hid erg19
        have Hrge20 := Lib.hid erg20
        have Hrge21 := Lib.hid erg21
        have Hrge22 := Lib.hid erg22
        have Hrge23 := Lib.hid erg23
        have Hrge24 := Lib.hid erg24
        have Hrge25 := Lib.hid erg25
        have Hrge26 := Lib.hid erg26
        have Hrge27 := Lib.hid erg27
        have Hrge28 := Lib.hid erg28
        have Hrge29 := Lib.hid erg29
        clear krg xrg strg crg hCrg hXrg erg0 erg1 erg2 erg3 erg4 erg5 erg6 erg7 erg8 erg9 erg10 erg11 erg12 erg13 erg14 erg15 erg16 erg17 erg18 erg19 erg20 erg21 erg22 erg23 erg24 erg25 erg26 erg27 erg28 erg29
        refine Reg.regionU Erg Crg Xrg Hrgst.out (by kernel_rfl) (by kernel_rfl) Hrgc.out (fun Frg hFrg => ?_)
        simp only [Reg.frame, Reg.dsts, List.map_cons, List.map_nil, Mix.put_lit, Reg.put_none, List.set_cons_succ, List.set_cons_zero, Array.getD, Nat.zero_add, Nat.reduceAdd] at hFrg
        refine ⟨?_, ?_⟩
        · refine ⟨?_, ?_, ?_, ?_, ?_, ?_, ?_, ?_, ?_, ?_, ?_, ?_, ?_, ?_, ?_, ?_, ?_, ?_, ?_, ?_, ?_, ?_, ?_, ?_, ?_, ?_, ?_, ?_, ?_, ?_, trivial⟩
          · intro Lq wq xq hh
            simp only [hFrg]
            refine .inl ⟨rfl, ?_⟩
            unfold Reg.upon
            have hk := Hrgk.out 0 Lq wq (by decide)  hh.cls
            have hx := Hrgx.out wq
            have he : Erg 0 (.slice (some ⟨b, off, none⟩) xs.length ka) wq := by rw [Hrge0.out]
            have HK := Lib.hid (And.intro hk (And.intro he hx))
            clear hk hx he
            go_simp
            exact HK.out
          · intro Lq wq xq hh
            simp only [hFrg]
            refine .inl ⟨rfl, ?_⟩
            unfold Reg.upon
            have hk := Hrgk.out 1 Lq wq (by decide)  hh.cls
            have hx := Hrgx.out wq
            have he : Erg 1 (.int .i64 k) wq := by rw [Hrge1.out]
            have HK := Lib.hid (And.intro hk (And.intro he hx))
            clear hk hx he
            go_simp
            exact HK.out
          · intro Lq wq xq hh
            have d0 : Erg 0 (xq 0) wq := hh.val 0 (by kernel_rfl) (by kernel_rfl)
            rw [Hrge0.out] at d0
            have d1 : Erg 1 (xq 1) wq := hh.val 1 (by kernel_rfl) (by kernel_rfl)
            rw [Hrge1.out] at d1
            simp only [hFrg, d0, d1]
            clear d0 d1
            refine .inl ⟨rfl, ?_⟩
            unfold Reg.upon
            have hk := Hrgk.out 2 Lq wq (by decide)  hh.cls
            have hx := Hrgx.out wq
            have he : Erg 2 (.pointer (some ⟨b, off + k, none⟩)) wq := by rw [Hrge2.out]
            have HK := Lib.hid (And.intro hk (And.intro he hx))
            clear hk hx he
            go_simp
            exact HK.out
          · intro Lq wq xq hh
            have d2 : Erg 2 (xq 2) wq := hh.val 2 (by kernel_rfl) (by kernel_rfl)
            rw [Hrge2.out] at d2
            simp only [hFrg, d2]
            clear d2
            refine .inl ⟨rfl, ?_⟩
            unfold Reg.upon
            have hc : Crg Lq wq := hh.cls
            rw [HrghC.out] at hc
            have hcell := ((hc.2).cell (p := ⟨b, off + k, none⟩) hb0).trans HX.out
            clear hc
            have hk := Hrgk.out 3 Lq wq (by decide)  hh.cls
            have hx := Hrgx.out wq
            have he : Erg 3 (.int .i32 x) wq := by rw [Hrge3.out]
            have HK := Lib.hid (And.intro hk (And.intro he hx))
            clear hk hx he
            go_simp
            exact HK.out
          · intro Lq wq xq hh
            have d3 : Erg 3 (xq 3) wq := hh.val 3 (by kernel_rfl) (by kernel_rfl)
            rw [Hrge3.out] at d3
            simp only [hFrg, d3]
            clear d3
            refine .inl ⟨rfl, ?_⟩
            unfold Reg.upon
            have hc : Crg Lq wq := hh.cls
            rw [HrghC.out] at hc
            rw [hh.un, if_pos rfl] at hc
            go_simp
            refine (cadd_any g A x _ hc.1 (by have := HLEN.out; omega)).mono ?_
            rintro e w2 ⟨rfl, h1, h2⟩
            refine ⟨_, rfl, ?_, (by rw [Hrge4.out]), (by rw [HrghX.out]; exact h2)⟩
            rw [HrghC.out]
            dsimp only
            rw [Mix.one_set (by rw [hh.size]; decide), if_neg (by decide)]
            exact ⟨h1, hc.2.trans (h2.below hc.2.size hgb)⟩
          · intro Lq wq xq hh
            simp only [hFrg]
            refine .inl ⟨rfl, ?_⟩
            unfold Reg.upon
            have hk := Hrgk.out 5 Lq wq (by decide)  hh.cls
            have hx := Hrgx.out wq
            have he : Erg 5 (.int .i64 k) wq := by rw [Hrge5.out]
            have HK := Lib.hid (And.intro hk (And.intro he hx))
            clear hk hx he
            go_simp
            exact HK.out
          · intro Lq wq xq hh
            have d5 : Erg 5 (xq 5) wq := hh.val 5 (by kernel_rfl) (by kernel_rfl)
            rw [Hrge5.out] at d5
            simp only [hFrg, d5]
            clear d5
            refine .inl ⟨rfl, ?_⟩
            unfold Reg.upon
            have hk := Hrgk.out 6 Lq wq (by decide)  hh.cls
            have hx := Hrgx.out wq
            have he : Erg 6 (.bool true) wq := by rw [Hrge6.out]
            have HK := Lib.hid (And.intro hk (And.intro he hx))
            clear hk hx he
            go_simp
            exact HK.out
          · intro Lq wq xq hh
            have d4 : Erg 4 (xq 4) wq := hh.val 4 (by kernel_rfl) (by kernel_rfl)
            rw [Hrge4.out] at d4
            have d6 : Erg 6 (xq 6) wq := hh.val 6 (by kernel_rfl) (by kernel_rfl)
            rw [Hrge6.out] at d6
            simp only [hFrg, d4, d6]
            clear d4 d6
            refine .inl ⟨rfl, ?_⟩
            unfold Reg.upon
            have hk := Hrgk.out 7 Lq wq (by decide)  hh.cls
            have hx := Hrgx.out wq
            have he : Erg 7 (.bool false) wq := by rw [Hrge7.out]
            have HK := Lib.hid (And.intro hk (And.intro he hx))
            clear hk hx he
            go_simp
            exact HK.out
          · intro Lq wq xq hh
            have d7 : Erg 7 (xq 7) wq := hh.val 7 (by kernel_rfl) (by kernel_rfl)
            rw [Hrge7.out] at d7
            simp only [hFrg, d7]
            clear d7
            refine .inl ⟨rfl, ?_⟩
            unfold Reg.upon
            have hk := Hrgk.out 8 Lq wq (by decide)  hh.cls
            have hx := Hrgx.out wq
            have he : Erg 8 (.bool false) wq := by rw [Hrge8.out]
            have HK := Lib.hid (And.intro hk (And.intro he hx))
            clear hk hx he
            go_simp
            exact HK.out
          · intro Lq wq xq hh
            have d8 : Erg 8 (xq 8) wq := hh.val 8 (by kernel_rfl) (by kernel_rfl)
            rw [Hrge8.out] at d8
            simp only [hFrg, d8]
            clear d8
            refine .inl ⟨rfl, ?_⟩
            unfold Reg.upon
            have hk := Hrgk.out 9 Lq wq (by decide)  hh.cls
            have hx := Hrgx.out wq
            have he : Erg 9 (.int .i64 k) wq := by rw [Hrge9.out]
            have HK := Lib.hid (And.intro hk (And.intro he hx))
            clear hk hx he
            go_simp
            exact HK.out
          · intro Lq wq xq hh
            have d8 : Erg 8 (xq 8) wq := hh.val 8 (by kernel_rfl) (by kernel_rfl)
            rw [Hrge8.out] at d8
            have d9 : Erg 9 (xq 9) wq := hh.val 9 (by kernel_rfl) (by kernel_rfl)
            rw [Hrge9.out] at d9
            simp only [hFrg, d8, d9]
            clear d8 d9
            refine .inl ⟨rfl, ?_⟩
            unfold Reg.upon
            have hk := Hrgk.out 10 Lq wq (by decide)  hh.cls
            have hx := Hrgx.out wq
            have he : Erg 10 (.bool false) wq := by rw [Hrge10.out]
            have HK := Lib.hid (And.intro hk (And.intro he hx))
            clear hk hx he
            go_simp
            exact HK.out
          · intro Lq wq xq hh
            have d8 : Erg 8 (xq 8) wq := hh.val 8 (by kernel_rfl) (by kernel_rfl)
            rw [Hrge8.out] at d8
            have d10 : Erg 10 (xq 10) wq := hh.val 10 (by kernel_rfl) (by kernel_rfl)
            rw [Hrge10.out] at d10
            simp only [hFrg, d8, d10]
            clear d8 d10
            refine .inl ⟨rfl, ?_⟩
            unfold Reg.upon
            have hk := Hrgk.out 11 Lq wq (by decide)  hh.cls
            have hx := Hrgx.out wq
            have he : Erg 11 (.bool false) wq := by rw [Hrge11.out]
            have HK := Lib.hid (And.intro hk (And.intro he hx))
            clear hk hx he
            go_simp
            exact HK.out
          · intro Lq wq xq hh
            have d11 : Erg 11 (xq 11) wq := hh.val 11 (by kernel_rfl) (by kernel_rfl)
            rw [Hrge11.out] at d11
            simp only [hFrg, d11]
            clear d11
            exact .inr ⟨rfl, Hrgk.out 12 Lq wq (by decide)  hh.cls, (by rw [Hrge12.out])⟩
          · intro Lq wq xq hh
            have d11 : Erg 11 (xq 11) wq := hh.val 11 (by kernel_rfl) (by kernel_rfl)
            rw [Hrge11.out] at d11
            simp only [hFrg, d11]
            clear d11
            exact .inr ⟨rfl, Hrgk.out 13 Lq wq (by decide)  hh.cls, (by rw [Hrge13.out])⟩
          · intro Lq wq xq hh
            have d11 : Erg 11 (xq 11) wq := hh.val 11 (by kernel_rfl) (by kernel_rfl)
            rw [Hrge11.out] at d11
            have d12 : Erg 12 (xq 12) wq := hh.val 12 (by kernel_rfl) (by kernel_rfl)
            rw [Hrge12.out] at d12
            have d13 : Erg 13 (xq 13) wq := hh.val 13 (by kernel_rfl) (by kernel_rfl)
            rw [Hrge13.out] at d13
            simp only [hFrg, d11, d12, d13]
            clear d11 d12 d13
            exact .inr ⟨rfl, Hrgk.out 14 Lq wq (by decide)  hh.cls, (by rw [Hrge14.out])⟩
          · intro Lq wq xq hh
            have d8 : Erg 8 (xq 8) wq := hh.val 8 (by kernel_rfl) (by kernel_rfl)
            rw [Hrge8.out] at d8
            have d11 : Erg 11 (xq 11) wq := hh.val 11 (by kernel_rfl) (by kernel_rfl)
            rw [Hrge11.out] at d11
            have d14 : Erg 14 (xq 14) wq := hh.val 14 (by kernel_rfl) (by kernel_rfl)
            rw [Hrge14.out] at d14
            simp only [hFrg, d8, d11, d14]
            clear d8 d11 d14
            refine .inl ⟨rfl, ?_⟩
            unfold Reg.upon
            have hk := Hrgk.out 15 Lq wq (by decide)  hh.cls
            have hx := Hrgx.out wq
            have he : Erg 15 (.bool false) wq := by rw [Hrge15.out]
            have HK := Lib.hid (And.intro hk (And.intro he hx))
            clear hk hx he
            go_simp
            exact HK.out
          · intro Lq wq xq hh
            have d8 : Erg 8 (xq 8) wq := hh.val 8 (by kernel_rfl) (by kernel_rfl)
            rw [Hrge8.out] at d8
            have d15 : Erg 15 (xq 15) wq := hh.val 15 (by kernel_rfl) (by kernel_rfl)
            rw [Hrge15.out] at d15
            simp only [hFrg, d8, d15]
            clear d8 d15
            refine .inl ⟨rfl, ?_⟩
            unfold Reg.upon
            have hk := Hrgk.out 16 Lq wq (by decide)  hh.cls
            have hx := Hrgx.out wq
            have he : Erg 16 (.bool false) wq := by rw [Hrge16.out]
            have HK := Lib.hid (And.intro hk (And.intro he hx))
            clear hk hx he
            go_simp
            exact HK.out
          · intro Lq wq xq hh
            have d16 : Erg 16 (xq 16) wq := hh.val 16 (by kernel_rfl) (by kernel_rfl)
            rw [Hrge16.out] at d16
            simp only [hFrg, d16]
            clear d16
            refine .inl ⟨rfl, ?_⟩
            unfold Reg.upon
            have hk := Hrgk.out 17 Lq wq (by decide)  hh.cls
            have hx := Hrgx.out wq
            have he : Erg 17 (.bool false) wq := by rw [Hrge17.out]
            have HK := Lib.hid (And.intro hk (And.intro he hx))
            clear hk hx he
            go_simp
            exact HK.out
          · intro Lq wq xq hh
            have d17 : Erg 17 (xq 17) wq := hh.val 17 (by kernel_rfl) (by kernel_rfl)
            rw [Hrge17.out] at d17
            simp only [hFrg, d17]
            clear d17
            refine .inl ⟨rfl, ?_⟩
            unfold Reg.upon
            have hc : Crg Lq wq := hh.cls
            rw [HrghC.out] at hc
            rw [hh.isDone 4 (by kernel_rfl), if_neg (by decide)] at hc
            go_simp
            refine (clen_any g (A ++ [x]) _ hc.1).mono ?_
            rintro e w2 ⟨rfl, rfl⟩
            exact ⟨_, rfl, Hrgk.out 18 Lq wq (by decide)  hh.cls, (by rw [Hrge18.out]; try rfl), Hrgx.out _⟩
          · intro Lq wq xq hh
            have d17 : Erg 17 (xq 17) wq := hh.val 17 (by kernel_rfl) (by kernel_rfl)
            rw [Hrge17.out] at d17
            simp only [hFrg, d17]
            clear d17
            refine .inl ⟨rfl, ?_⟩
            unfold Reg.upon
            have hk := Hrgk.out 19 Lq wq (by decide)  hh.cls
            have hx := Hrgx.out wq
            have he : Erg 19 (.int .i64 k) wq := by rw [Hrge19.out]
            have HK := Lib.hid (And.intro hk (And.intro he hx))
            clear hk hx he
            go_simp
            exact HK.out
          · intro Lq wq xq hh
            have d17 : Erg 17 (xq 17) wq := hh.val 17 (by kernel_rfl) (by kernel_rfl)
            rw [Hrge17.out] at d17
            have d19 : Erg 19 (xq 19) wq := hh.val 19 (by kernel_rfl) (by kernel_rfl)
            rw [Hrge19.out] at d19
            simp only [hFrg, d17, d19]
            clear d17 d19
            refine .inl ⟨rfl, ?_⟩
            unfold Reg.upon
            have hk := Hrgk.out 20 Lq wq (by decide)  hh.cls
            have hx := Hrgx.out wq
            have he : Erg 20 (.int .i64 ((k : Int) + 1)) wq := by rw [Hrge20.out]
            have HK := Lib.hid (And.intro hk (And.intro he hx))
            clear hk hx he
            go_simp
            exact HK.out
          · intro Lq wq xq hh
            have d17 : Erg 17 (xq 17) wq := hh.val 17 (by kernel_rfl) (by kernel_rfl)
            rw [Hrge17.out] at d17
            have d20 : Erg 20 (xq 20) wq := hh.val 20 (by kernel_rfl) (by kernel_rfl)
            rw [Hrge20.out] at d20
            simp only [hFrg, d17, d20]
            clear d17 d20
            refine .inl ⟨rfl, ?_⟩
            unfold Reg.upon
            have hc : Crg Lq wq := hh.cls
            rw [HrghC.out] at hc
            go_simp
            rw [HMIN.out]
            exact ⟨Hrgk.out 21 Lq wq (by decide)  hh.cls, (by rw [Hrge21.out]; try rfl), Hrgx.out _⟩
          · intro Lq wq xq hh
            have d17 : Erg 17 (xq 17) wq := hh.val 17 (by kernel_rfl) (by kernel_rfl)
            rw [Hrge17.out] at d17
            have d18 : Erg 18 (xq 18) wq := hh.val 18 (by kernel_rfl) (by kernel_rfl)
            rw [Hrge18.out] at d18
            have d21 : Erg 21 (xq 21) wq := hh.val 21 (by kernel_rfl) (by kernel_rfl)
            rw [Hrge21.out] at d21
            simp only [hFrg, d17, d18, d21]
            clear d17 d18 d21
            refine .inl ⟨rfl, ?_⟩
            unfold Reg.upon
            have hk := Hrgk.out 22 Lq wq (by decide)  hh.cls
            have hx := Hrgx.out wq
            have he : Erg 22 (.bool false) wq := by rw [Hrge22.out]
            have HK := Lib.hid (And.intro hk (And.intro he hx))
            clear hk hx he
            go_simp
            exact HK.out
          · intro Lq wq xq hh
            have d17 : Erg 17 (xq 17) wq := hh.val 17 (by kernel_rfl) (by kernel_rfl)
            rw [Hrge17.out] at d17
            have d22 : Erg 22 (xq 22) wq := hh.val 22 (by kernel_rfl) (by kernel_rfl)
            rw [Hrge22.out] at d22
            simp only [hFrg, d17, d22]
            clear d17 d22
            refine .inl ⟨rfl, ?_⟩
            unfold Reg.upon
            have hk := Hrgk.out 23 Lq wq (by decide)  hh.cls
            have hx := Hrgx.out wq
            have he : Erg 23 (.bool false) wq := by rw [Hrge23.out]
            have HK := Lib.hid (And.intro hk (And.intro he hx))
            clear hk hx he
            go_simp
            exact HK.out
          · intro Lq wq xq hh
            have d23 : Erg 23 (xq 23) wq := hh.val 23 (by kernel_rfl) (by kernel_rfl)
            rw [Hrge23.out] at d23
            simp only [hFrg, d23]
            clear d23
            refine .inl ⟨rfl, ?_⟩
            unfold Reg.upon
            have hk := Hrgk.out 24 Lq wq (by decide)  hh.cls
            have hx := Hrgx.out wq
            have he : Erg 24 (.bool false) wq := by rw [Hrge24.out]
            have HK := Lib.hid (And.intro hk (And.intro he hx))
            clear hk hx he
            go_simp
            exact HK.out
          · intro Lq wq xq hh
            have d24 : Erg 24 (xq 24) wq := hh.val 24 (by kernel_rfl) (by kernel_rfl)
            rw [Hrge24.out] at d24
            simp only [hFrg, d24]
            clear d24
            refine .inl ⟨rfl, ?_⟩
            unfold Reg.upon
            have hc : Crg Lq wq := hh.cls
            rw [HrghC.out] at hc
            rw [hh.isDone 4 (by kernel_rfl), if_neg (by decide)] at hc
            go_simp
            refine (cfull_any g (A ++ [x]) _ hc.1 q HQ.out).mono ?_
            rintro e w2 ⟨rfl, rfl⟩
            exact ⟨_, rfl, Hrgk.out 25 Lq wq (by decide)  hh.cls, (by rw [Hrge25.out]; try rfl), Hrgx.out _⟩
          · intro Lq wq xq hh
            have d24 : Erg 24 (xq 24) wq := hh.val 24 (by kernel_rfl) (by kernel_rfl)
            rw [Hrge24.out] at d24
            simp only [hFrg, d24]
            clear d24
            refine .inl ⟨rfl, ?_⟩
            unfold Reg.upon
            have hk := Hrgk.out 26 Lq wq (by decide)  hh.cls
            have hx := Hrgx.out wq
            have he : Erg 26 (.int .i64 k) wq := by rw [Hrge26.out]
            have HK := Lib.hid (And.intro hk (And.intro he hx))
            clear hk hx he
            go_simp
            exact HK.out
          · intro Lq wq xq hh
            have d24 : Erg 24 (xq 24) wq := hh.val 24 (by kernel_rfl) (by kernel_rfl)
            rw [Hrge24.out] at d24
            have d26 : Erg 26 (xq 26) wq := hh.val 26 (by kernel_rfl) (by kernel_rfl)
            rw [Hrge26.out] at d26
            simp only [hFrg, d24, d26]
            clear d24 d26
            refine .inl ⟨rfl, ?_⟩
            unfold Reg.upon
            have hc : Crg Lq wq := hh.cls
            rw [HrghC.out] at hc
            go_simp
            rw [HQ2.out]
            exact ⟨Hrgk.out 27 Lq wq (by decide)  hh.cls, (by rw [Hrge27.out]; try rfl), Hrgx.out _⟩
          · intro Lq wq xq hh
            have d24 : Erg 24 (xq 24) wq := hh.val 24 (by kernel_rfl) (by kernel_rfl)
            rw [Hrge24.out] at d24
            have d25 : Erg 25 (xq 25) wq := hh.val 25 (by kernel_rfl) (by kernel_rfl)
            rw [Hrge25.out] at d25
            have d27 : Erg 27 (xq 27) wq := hh.val 27 (by kernel_rfl) (by kernel_rfl)
            rw [Hrge27.out] at d27
            simp only [hFrg, d24, d25, d27]
            clear d24 d25 d27
            refine .inl ⟨rfl, ?_⟩
            unfold Reg.upon
            have hk := Hrgk.out 28 Lq wq (by decide)  hh.cls
            have hx := Hrgx.out wq
            have he : Erg 28 (.bool false) wq := by rw [Hrge28.out]
            have HK := Lib.hid (And.intro hk (And.intro he hx))
            clear hk hx he
            go_simp
            exact HK.out
          · intro Lq wq xq hh
            have d24 : Erg 24 (xq 24) wq := hh.val 24 (by kernel_rfl) (by kernel_rfl)
            rw [Hrge24.out] at d24
            have d28 : Erg 28 (xq 28) wq := hh.val 28 (by kernel_rfl) (by kernel_rfl)
            rw [Hrge28.out] at d28
            simp only [hFrg, d24, d28]
            clear d24 d28
            refine .inl ⟨rfl, ?_⟩
            unfold Reg.upon
            have hk := Hrgk.out 29 Lq wq (by decide)  hh.cls
            have hx := Hrgx.out wq
            have he : Erg 29 (.bool false) wq := by rw [Hrge29.out]
            have HK := Lib.hid (And.intro hk (And.intro he hx))
            clear hk hx he
            go_simp
            exact HK.out
        intro xq wrg hcrg hvrg
        rw [HrghC.out] at hcrg
        simp only [hFrg]
        have vrg29 : Erg 29 (xq 29) wrg := hvrg 29 (by decide)
        rw [Hrge29.out] at vrg29
        rw [vrg29]
        clear hvrg hFrg Hrgk Hrgx Hrgst Hrgc HrghC HrghX Hrgb Hrgxb Hrge0 Hrge1 Hrge2 Hrge3 Hrge4 Hrge5 Hrge6 Hrge7 Hrge8 Hrge9 Hrge10 Hrge11 Hrge12 Hrge13 Hrge14 Hrge15 Hrge16 Hrge17 Hrge18 Hrge19 Hrge20 Hrge21 Hrge22 Hrge23 Hrge24 Hrge25 Hrge26 Hrge27 Hrge28 Hrge29
        rw [Mix.one_all (by decide), if_neg (by decide)] at hcrg
        have h9 : ClAt wrg g (upTo xs (k + 1)) := by rw [HN.out h16]; exact hcrg.1
        have hb9 := hcrg.2
        clear hcrg HQ HQ2 HMIN d1 d2
        go_wp2
        go_roundw
        case rel => exact ⟨k + 1, by omega, by go_num, h9, hb9⟩
        case measure => simp [intOf] <;> omega
      · have HQ := Lib.hid (show ((A.length : Int) == 16) = true by have := HLEN.out; simp; omega)
        have HMIN := Lib.hid (show (if (16 : Int) < (k : Int) + 1 then 16 else (k : Int) + 1) = (A.length : Int) by have := HLEN.out; split <;> omega)
        have k2 : (16 : Int) ≤ (k : Int) := by omega
        have d1 : decide ((k : Int) < (16 : Int)) = false := decide_eq_false (by omega)
        have d3 : decide ((15 : Int) ≤ (k : Int)) = true := decide_eq_true (by omega)
        have d2 : IntKind.i64.wrap ((k : Int) + 1) = (k : Int) + 1 := by rw [IntKind.wrap_i64]; omega
        have hneq := fun w => cl_neq A A HAl.out HAl.out w
        rw [show clEq A A = true by simp [clEq]] at hneq
        obtain ⟨Erg, hErg⟩ : ∃ EE : Nat → Value → World → Prop, EE = fun jj xx ww => match jj with
            | 0 => xx = .slice (some ⟨b, off, none⟩) xs.length ka
            | 1 => xx = .int .i64 k
            | 2 => xx = .pointer (some ⟨b, off + k, none⟩)
            | 3 => xx = .int .i32 x
            | 4 => xx = .bool false
            | 5 => xx = .int .i64 k
            | 6 => xx = .bool false
            | 7 => xx = .bool false
            | 8 => xx = .bool false
            | 9 => xx = .int .i64 k
            | 10 => xx = .bool true
            | 11 => xx = .bool true
            | 12 => xx = .agg (clCells A).toArray
            | 13 => xx = .agg (clCells A).toArray
            | 14 => xx = .bool false
            | 15 => xx = .bool false
            | 16 => xx = .bool false
            | 17 => xx = .bool false
            | 18 => xx = .int .i64 A.length
            | 19 => xx = .int .i64 k
            | 20 => xx = .int .i64 ((k : Int) + 1)
            | 21 => xx = .int .i64 A.length
            | 22 => xx = .bool false
            | 23 => xx = .bool false
            | 24 => xx = .bool false
            | 25 => xx = .bool true
            | 26 => xx = .int .i64 k
            | 27 => xx = .bool true
            | 28 => xx = .bool false
            | 29 => xx = .bool false
            | _ => True := ⟨_, rfl⟩
        have erg0 : ∀ xx ww, Erg 0 xx ww = (xx = .slice (some ⟨b, off, none⟩) xs.length ka) := fun xx ww => congrFun (congrFun (congrFun hErg 0) xx) ww
        have erg1 : ∀ xx ww, Erg 1 xx ww = (xx = .int .i64 k) := fun xx ww => congrFun (congrFun (congrFun hErg 1) xx) ww
        have erg2 : ∀ xx ww, Erg 2 xx ww = (xx = .pointer (some ⟨b, off + k, none⟩)) := fun xx ww => congrFun (congrFun (congrFun hErg 2) xx) ww
        have erg3 : ∀ xx ww, Erg 3 xx ww = (xx = .int .i32 x) := fun xx ww => congrFun (congrFun (congrFun hErg 3) xx) ww
        have erg4 : ∀ xx ww, Erg 4 xx ww = (xx = .bool false) := fun xx ww => congrFun (congrFun (congrFun hErg 4) xx) ww
        have erg5 : ∀ xx ww, Erg 5 xx ww = (xx = .int .i64 k) := fun xx ww => congrFun (congrFun (congrFun hErg 5) xx) ww
        have erg6 : ∀ xx ww, Erg 6 xx ww = (xx = .bool false) := fun xx ww => congrFun (congrFun (congrFun hErg 6) xx) ww
        have erg7 : ∀ xx ww, Erg 7 xx ww = (xx = .bool false) := fun xx ww => congrFun (congrFun (congrFun hErg 7) xx) ww
        have erg8 : ∀ xx ww, Erg 8 xx ww = (xx = .bool false) := fun xx ww => congrFun (congrFun (congrFun hErg 8) xx) ww
        have erg9 : ∀ xx ww, Erg 9 xx ww = (xx = .int .i64 k) := fun xx ww => congrFun (congrFun (congrFun hErg 9) xx) ww
        have erg10 : ∀ xx ww, Erg 10 xx ww = (xx = .bool true) := fun xx ww => congrFun (congrFun (congrFun hErg 10) xx) ww
        have erg11 : ∀ xx ww, Erg 11 xx ww = (xx = .bool true) := fun xx ww => congrFun (congrFun (congrFun hErg 11) xx) ww
        have erg12 : ∀ xx ww, Erg 12 xx ww = (xx = .agg (clCells A).toArray) := fun xx ww => congrFun (congrFun (congrFun hErg 12) xx) ww
        have erg13 : ∀ xx ww, Erg 13 xx ww = (xx = .agg (clCells A).toArray) := fun xx ww => congrFun (congrFun (congrFun hErg 13) xx) ww
        have erg14 : ∀ xx ww, Erg 14 xx ww = (xx = .bool false) := fun xx ww => congrFun (congrFun (congrFun hErg 14) xx) ww
        have erg15 : ∀ xx ww, Erg 15 xx ww = (xx = .bool false) := fun xx ww => congrFun (congrFun (congrFun hErg 15) xx) ww
        have erg16 : ∀ xx ww, Erg 16 xx ww = (xx = .bool false) := fun xx ww => congrFun (congrFun (congrFun hErg 16) xx) ww
        have erg17 : ∀ xx ww, Erg 17 xx ww = (xx = .bool false) := fun xx ww => congrFun (congrFun (congrFun hErg 17) xx) ww
        have erg18 : ∀ xx ww, Erg 18 xx ww = (xx = .int .i64 A.length) := fun xx ww => congrFun (congrFun (congrFun hErg 18) xx) ww
        have erg19 : ∀ xx ww, Erg 19 xx ww = (xx = .int .i64 k) := fun xx ww => congrFun (congrFun (congrFun hErg 19) xx) ww
        have erg20 : ∀ xx ww, Erg 20 xx ww = (xx = .int .i64 ((k : Int) + 1)) := fun xx ww => congrFun (congrFun (congrFun hErg 20) xx) ww
        have erg21 : ∀ xx ww, Erg 21 xx ww = (xx = .int .i64 A.length) := fun xx ww => congrFun (congrFun (congrFun hErg 21) xx) ww
        have erg22 : ∀ xx ww, Erg 22 xx ww = (xx = .bool false) := fun xx ww => congrFun (congrFun (congrFun hErg 22) xx) ww
        have erg23 : ∀ xx ww, Erg 23 xx ww = (xx = .bool false) := fun xx ww => congrFun (congrFun (congrFun hErg 23) xx) ww
        have erg24 : ∀ xx ww, Erg 24 xx ww = (xx = .bool false) := fun xx ww => congrFun (congrFun (congrFun hErg 24) xx) ww
        have erg25 : ∀ xx ww, Erg 25 xx ww = (xx = .bool true) := fun xx ww => congrFun (congrFun (congrFun hErg 25) xx) ww
        have erg26 : ∀ xx ww, Erg 26 xx ww = (xx = .int .i64 k) := fun xx ww => congrFun (congrFun (congrFun hErg 26) xx) ww
        have erg27 : ∀ xx ww, Erg 27 xx ww = (xx = .bool true) := fun xx ww => congrFun (congrFun (congrFun hErg 27) xx) ww
        have erg28 : ∀ xx ww, Erg 28 xx ww = (xx = .bool false) := fun xx ww => congrFun (congrFun (congrFun hErg 28) xx) ww
        have erg29 : ∀ xx ww, Erg 29 xx ww = (xx = .bool false) := fun xx ww => congrFun (congrFun (congrFun hErg 29) xx) ww
        obtain ⟨Crg, hCrg⟩ : ∃ CC : Array Bool → World → Prop, CC = fun L w' => ClAt w' g A ∧ ClAt w' G A ∧ Below w.heap.size w w' := ⟨_, rfl⟩
        have krg : ∀ i L w,  Crg L w → Crg (L.setIfInBounds i true) w := by
          intro i L w  h
          rw [hCrg] at h ⊢
          exact h
        obtain ⟨Xrg, hXrg⟩ : ∃ XX : World → World → Prop, XX = fun w w1 => Below w.heap.size w w1 := ⟨_, rfl⟩
        have xrg : ∀ w, Xrg w w := fun w => by rw [hXrg]; exact Below.refl _ _
        have strg : ∀ j x w w1, Xrg w w1 → Erg j x w → Erg j x w1 := by
          intro j x w w1 hx h
          rw [hXrg] at hx
          match j with
          | 0 => rw [erg0] at h ⊢; exact h
          | 1 => rw [erg1] at h ⊢; exact h
          | 2 => rw [erg2] at h ⊢; exact h
          | 3 => rw [erg3] at h ⊢; exact h
          | 4 => rw [erg4] at h ⊢; exact h
          | 5 => rw [erg5] at h ⊢; exact h
          | 6 => rw [erg6] at h ⊢; exact h
          | 7 => rw [erg7] at h ⊢; exact h
          | 8 => rw [erg8] at h ⊢; exact h
          | 9 => rw [erg9] at h ⊢; exact h
          | 10 => rw [erg10] at h ⊢; exact h
          | 11 => rw [erg11] at h ⊢; exact h
          | 12 => rw [erg12] at h ⊢; exact h
          | 13 => rw [erg13] at h ⊢; exact h
          | 14 => rw [erg14] at h ⊢; exact h
          | 15 => rw [erg15] at h ⊢; exact h
          | 16 => rw [erg16] at h ⊢; exact h
          | 17 => rw [erg17] at h ⊢; exact h
          | 18 => rw [erg18] at h ⊢; exact h
          | 19 => rw [erg19] at h ⊢; exact h
          | 20 => rw [erg20] at h ⊢; exact h
          | 21 => rw [erg21] at h ⊢; exact h
          | 22 => rw [erg22] at h ⊢; exact h
          | 23 => rw [erg23] at h ⊢; exact h
          | 24 => rw [erg24] at h ⊢; exact h
          | 25 => rw [erg25] at h ⊢; exact h
          | 26 => rw [erg26] at h ⊢; exact h
          | 27 => rw [erg27] at h ⊢; exact h
          | 28 => rw [erg28] at h ⊢; exact h
          | 29 => rw [erg29] at h ⊢; exact h
          | j + 30 => rw [hErg]; trivial
        have crg : Crg (Array.replicate 30 false) w5 := by rw [hCrg]; exact ⟨h3, h5, hb5⟩
        have brg : ∀ L w w1, Crg L w → Below w.heap.size w w1 → Crg L w1 := by
          intro L w w1 h hb
          rw [hCrg] at h ⊢
          exact ⟨Has.below h.1 hb h.1.lt, Has.below h.2.1 hb h.2.1.lt, h.2.2.trans (hb.mono h.2.2.size)⟩
        have xbrg : ∀ w w1, Below w.heap.size w w1 → Xrg w w1 := by
          intro w w1 hb
          rw [hXrg]
          exact hb
        have Hrgb := Lib.hid brg
        have Hrgxb := Lib.hid xbrg
        clear brg xbrg
        clear hErg
        have Hrgk := Lib.hid krg
        have Hrgx := Lib.hid xrg
        have Hrgst := Lib.hid strg
        have Hrgc := Lib.hid crg
        have HrghC := Lib.hid hCrg
        have HrghX := Lib.hid hXrg
        have Hrge0 := Lib.hid erg0
        have Hrge1 := Lib.hid erg1
        have Hrge2 := Lib.hid erg2
        have Hrge3 := Lib.hid erg3
        have Hrge4 := Lib.hid erg4
        have Hrge5 := Lib.hid erg5
        have Hrge6 := Lib.hid erg6
        have Hrge7 := Lib.hid erg7
        have Hrge8 := Lib.hid erg8
        have Hrge9 := Lib.hid erg9
        have Hrge10 := Lib.hid erg10
        have Hrge11 := Lib.hid erg11
        have Hrge12 := Lib.hid erg12
        have Hrge13 := Lib.hid erg13
        have Hrge14 := Lib.hid erg14
        have Hrge15 := Lib.hid erg15
        have Hrge16 := Lib.hid erg16
        have Hrge17 := Lib.hid erg17
        have Hrge18 := Lib.hid erg18
        have Hrge19 := Lib.hid erg19
        have Hrge20 := Lib.hid erg20
        have Hrge21 := Lib.hid erg21
        have Hrge22 := Lib.hid erg22
        have Hrge23 := Lib.hid erg23
        have Hrge24 := Lib.hid erg24
        have Hrge25 := Lib.hid erg25
        have Hrge26 := Lib.hid erg26
        have Hrge27 := Lib.hid erg27
        have Hrge28 := Lib.hid erg28
        have Hrge29 := Lib.hid erg29
        clear krg xrg strg crg hCrg hXrg erg0 erg1 erg2 erg3 erg4 erg5 erg6 erg7 erg8 erg9 erg10 erg11 erg12 erg13 erg14 erg15 erg16 erg17 erg18 erg19 erg20 erg21 erg22 erg23 erg24 erg25 erg26 erg27 erg28 erg29
        refine Reg.regionU Erg Crg Xrg Hrgst.out (by kernel_rfl) (by kernel_rfl) Hrgc.out (fun Frg hFrg => ?_)
        simp only [Reg.frame, Reg.dsts, List.map_cons, List.map_nil, Mix.put_lit, Reg.put_none, List.set_cons_succ, List.set_cons_zero, Array.getD, Nat.zero_add, Nat.reduceAdd] at hFrg
        refine ⟨?_, ?_⟩
        · refine ⟨?_, ?_, ?_, ?_, ?_, ?_, ?_, ?_, ?_, ?_, ?_, ?_, ?_, ?_, ?_, ?_, ?_, ?_, ?_, ?_, ?_, ?_, ?_, ?_, ?_, ?_, ?_, ?_, ?_, ?_, trivial⟩
          · intro Lq wq xq hh
            simp only [hFrg]
            refine .inl ⟨rfl, ?_⟩
            unfold Reg.upon
            have hk := Hrgk.out 0 Lq wq  hh.cls
            have hx := Hrgx.out wq
            have he : Erg 0 (.slice (some ⟨b, off, none⟩) xs.length ka) wq := by rw [Hrge0.out]
            have HK := Lib.hid (And.intro hk (And.intro he hx))
            clear hk hx he
            go_simp
            exact HK.out
          · intro Lq wq xq hh
            simp only [hFrg]
            refine .inl ⟨rfl, ?_⟩
            unfold Reg.upon
            have hk := Hrgk.out 1 Lq wq  hh.cls
            have hx := Hrgx.out wq
            have he : Erg 1 (.int .i64 k) wq := by rw [Hrge1.out]
            have HK := Lib.hid (And.intro hk (And.intro he hx))
            clear hk hx he
            go_simp
            exact HK.out
          · intro Lq wq xq hh
            have d0 : Erg 0 (xq 0) wq := hh.val 0 (by kernel_rfl) (by kernel_rfl)
            rw [Hrge0.out] at d0
            have d1 : Erg 1 (xq 1) wq := hh.val 1 (by kernel_rfl) (by kernel_rfl)
            rw [Hrge1.out] at d1
            simp only [hFrg, d0, d1]
            clear d0 d1
            refine .inl ⟨rfl, ?_⟩
            unfold Reg.upon
            have hk := Hrgk.out 2 Lq wq  hh.cls
            have hx := Hrgx.out wq
            have he : Erg 2 (.pointer (some ⟨b, off + k, none⟩)) wq := by rw [Hrge2.out]
            have HK := Lib.hid (And.intro hk (And.intro he hx))
            clear hk hx he
            go_simp
            exact HK.out
          · intro Lq wq xq hh
            have d2 : Erg 2 (xq 2) wq := hh.val 2 (by kernel_rfl) (by kernel_rfl)
            rw [Hrge2.out] at d2
            simp only [hFrg, d2]
            clear d2
            refine .inl ⟨rfl, ?_⟩
            unfold Reg.upon
            have hc : Crg Lq wq := hh.cls
            rw [HrghC.out] at hc
            have hcell := ((hc.2.2).cell (p := ⟨b, off + k, none⟩) hb0).trans HX.out
            clear hc
            have hk := Hrgk.out 3 Lq wq  hh.cls
            have hx := Hrgx.out wq
            have he : Erg 3 (.int .i32 x) wq := by rw [Hrge3.out]
            have HK := Lib.hid (And.intro hk (And.intro he hx))
            clear hk hx he
            go_simp
            exact HK.out
          · intro Lq wq xq hh
            have d3 : Erg 3 (xq 3) wq := hh.val 3 (by kernel_rfl) (by kernel_rfl)
            rw [Hrge3.out] at d3
            simp only [hFrg, d3]
            clear d3
            refine .inl ⟨rfl, ?_⟩
            unfold Reg.upon
            have hc : Crg Lq wq := hh.cls
            rw [HrghC.out] at hc
            go_simp
            refine (cadd_full g A x _ hc.1 (by have := HLEN.out; omega)).mono ?_
            rintro e w2 ⟨rfl, rfl⟩
            exact ⟨_, rfl, Hrgk.out 4 Lq wq  hh.cls, (by rw [Hrge4.out]; try rfl), Hrgx.out _⟩
          · intro Lq wq xq hh
            simp only [hFrg]
            refine .inl ⟨rfl, ?_⟩
            unfold Reg.upon
            have hk := Hrgk.out 5 Lq wq  hh.cls
            have hx := Hrgx.out wq
            have he : Erg 5 (.int .i64 k) wq := by rw [Hrge5.out]
            have HK := Lib.hid (And.intro hk (And.intro he hx))
            clear hk hx he
            go_simp
            exact HK.out
          · intro Lq wq xq hh
            have d5 : Erg 5 (xq 5) wq := hh.val 5 (by kernel_rfl) (by kernel_rfl)
            rw [Hrge5.out] at d5
            simp only [hFrg, d5]
            clear d5
            refine .inl ⟨rfl, ?_⟩
            unfold Reg.upon
            have hk := Hrgk.out 6 Lq wq  hh.cls
            have hx := Hrgx.out wq
            have he : Erg 6 (.bool false) wq := by rw [Hrge6.out]
            have HK := Lib.hid (And.intro hk (And.intro he hx))
            clear hk hx he
            go_simp
            exact HK.out
          · intro Lq wq xq hh
            have d4 : Erg 4 (xq 4) wq := hh.val 4 (by kernel_rfl) (by kernel_rfl)
            rw [Hrge4.out] at d4
            have d6 : Erg 6 (xq 6) wq := hh.val 6 (by kernel_rfl) (by kernel_rfl)
            rw [Hrge6.out] at d6
            simp only [hFrg, d4, d6]
            clear d4 d6
            refine .inl ⟨rfl, ?_⟩
            unfold Reg.upon
            have hk := Hrgk.out 7 Lq wq  hh.cls
            have hx := Hrgx.out wq
            have he : Erg 7 (.bool false) wq := by rw [Hrge7.out]
            have HK := Lib.hid (And.intro hk (And.intro he hx))
            clear hk hx he
            go_simp
            exact HK.out
          · intro Lq wq xq hh
            have d7 : Erg 7 (xq 7) wq := hh.val 7 (by kernel_rfl) (by kernel_rfl)
            rw [Hrge7.out] at d7
            simp only [hFrg, d7]
            clear d7
            refine .inl ⟨rfl, ?_⟩
            unfold Reg.upon
            have hk := Hrgk.out 8 Lq wq  hh.cls
            have hx := Hrgx.out wq
            have he : Erg 8 (.bool false) wq := by rw [Hrge8.out]
            have HK := Lib.hid (And.intro hk (And.intro he hx))
            clear hk hx he
            go_simp
            exact HK.out
          · intro Lq wq xq hh
            have d8 : Erg 8 (xq 8) wq := hh.val 8 (by kernel_rfl) (by kernel_rfl)
            rw [Hrge8.out] at d8
            simp only [hFrg, d8]
            clear d8
            refine .inl ⟨rfl, ?_⟩
            unfold Reg.upon
            have hk := Hrgk.out 9 Lq wq  hh.cls
            have hx := Hrgx.out wq
            have he : Erg 9 (.int .i64 k) wq := by rw [Hrge9.out]
            have HK := Lib.hid (And.intro hk (And.intro he hx))
            clear hk hx he
            go_simp
            exact HK.out
          · intro Lq wq xq hh
            have d8 : Erg 8 (xq 8) wq := hh.val 8 (by kernel_rfl) (by kernel_rfl)
            rw [Hrge8.out] at d8
            have d9 : Erg 9 (xq 9) wq := hh.val 9 (by kernel_rfl) (by kernel_rfl)
            rw [Hrge9.out] at d9
            simp only [hFrg, d8, d9]
            clear d8 d9
            refine .inl ⟨rfl, ?_⟩
            unfold Reg.upon
            have hk := Hrgk.out 10 Lq wq  hh.cls
            have hx := Hrgx.out wq
            have he : Erg 10 (.bool true) wq := by rw [Hrge10.out]
            have HK := Lib.hid (And.intro hk (And.intro he hx))
            clear hk hx he
            go_simp
            exact HK.out
          · intro Lq wq xq hh
            have d8 : Erg 8 (xq 8) wq := hh.val 8 (by kernel_rfl) (by kernel_rfl)
            rw [Hrge8.out] at d8
            have d10 : Erg 10 (xq 10) wq := hh.val 10 (by kernel_rfl) (by kernel_rfl)
            rw [Hrge10.out] at d10
            simp only [hFrg, d8, d10]
            clear d8 d10
            refine .inl ⟨rfl, ?_⟩
            unfold Reg.upon
            have hk := Hrgk.out 11 Lq wq  hh.cls
            have hx := Hrgx.out wq
            have he : Erg 11 (.bool true) wq := by rw [Hrge11.out]
            have HK := Lib.hid (And.intro hk (And.intro he hx))
            clear hk hx he
            go_simp
            exact HK.out
          · intro Lq wq xq hh
            have d11 : Erg 11 (xq 11) wq := hh.val 11 (by kernel_rfl) (by kernel_rfl)
            rw [Hrge11.out] at d11
            simp only [hFrg, d11]
            clear d11
            refine .inl ⟨rfl, ?_⟩
            unfold Reg.upon
            have hc : Crg Lq wq := hh.cls
            rw [HrghC.out] at hc
            rw [exec_load_has rfl rfl hc.1 Try.underlying77 rfl info_cl (clCells_len A HAl.out)]
            exact ⟨Hrgk.out 12 Lq wq  hh.cls, (by rw [Hrge12.out]; try rfl), Hrgx.out _⟩
          · intro Lq wq xq hh
            have d11 : Erg 11 (xq 11) wq := hh.val 11 (by kernel_rfl) (by kernel_rfl)
            rw [Hrge11.out] at d11
            simp only [hFrg, d11]
            clear d11
            refine .inl ⟨rfl, ?_⟩
            unfold Reg.upon
            have hc : Crg Lq wq := hh.cls
            rw [HrghC.out] at hc
            rw [exec_load_has rfl rfl hc.2.1 Try.underlying77 rfl info_cl (clCells_len A HAl.out)]
            exact ⟨Hrgk.out 13 Lq wq  hh.cls, (by rw [Hrge13.out]; try rfl), Hrgx.out _⟩
          · intro Lq wq xq hh
            have d11 : Erg 11 (xq 11) wq := hh.val 11 (by kernel_rfl) (by kernel_rfl)
            rw [Hrge11.out] at d11
            have d12 : Erg 12 (xq 12) wq := hh.val 12 (by kernel_rfl) (by kernel_rfl)
            rw [Hrge12.out] at d12
            have d13 : Erg 13 (xq 13) wq := hh.val 13 (by kernel_rfl) (by kernel_rfl)
            rw [Hrge13.out] at d13
            simp only [hFrg, d11, d12, d13]
            clear d11 d12 d13
            refine .inl ⟨rfl, ?_⟩
            unfold Reg.upon
            have hk := Hrgk.out 14 Lq wq  hh.cls
            have hx := Hrgx.out wq
            have he : Erg 14 (.bool false) wq := by rw [Hrge14.out]
            have HK := Lib.hid (And.intro hk (And.intro he hx))
            clear hk hx he
            go_simp
            exact HK.out
          · intro Lq wq xq hh
            have d8 : Erg 8 (xq 8) wq := hh.val 8 (by kernel_rfl) (by kernel_rfl)
            rw [Hrge8.out] at d8
            have d11 : Erg 11 (xq 11) wq := hh.val 11 (by kernel_rfl) (by kernel_rfl)
            rw [Hrge11.out] at d11
            have d14 : Erg 14 (xq 14) wq := hh.val 14 (by kernel_rfl) (by kernel_rfl)
            rw [Hrge14.out] at d14
            simp only [hFrg, d8, d11, d14]
            clear d8 d11 d14
            refine .inl ⟨rfl, ?_⟩
            unfold Reg.upon
            have hk := Hrgk.out 15 Lq wq  hh.cls
            have hx := Hrgx.out wq
            have he : Erg 15 (.bool false) wq := by rw [Hrge15.out]
            have HK := Lib.hid (And.intro hk (And.intro he hx))
            clear hk hx he
            go_simp
            exact HK.out
          · intro Lq wq xq hh
            have d8 : Erg 8 (xq 8) wq := hh.val 8 (by kernel_rfl) (by kernel_rfl)
            rw [Hrge8.out] at d8
            have d15 : Erg 15 (xq 15) wq := hh.val 15 (by kernel_rfl) (by kernel_rfl)
            rw [Hrge15.out] at d15
            simp only [hFrg, d8, d15]
            clear d8 d15
            refine .inl ⟨rfl, ?_⟩
            unfold Reg.upon
            have hk := Hrgk.out 16 Lq wq  hh.cls
            have hx := Hrgx.out wq
            have he : Erg 16 (.bool false) wq := by rw [Hrge16.out]
            have HK := Lib.hid (And.intro hk (And.intro he hx))
            clear hk hx he
            go_simp
            exact HK.out
          · intro Lq wq xq hh
            have d16 : Erg 16 (xq 16) wq := hh.val 16 (by kernel_rfl) (by kernel_rfl)
            rw [Hrge16.out] at d16
            simp only [hFrg, d16]
            clear d16
            refine .inl ⟨rfl, ?_⟩
            unfold Reg.upon
            have hk := Hrgk.out 17 Lq wq  hh.cls
            have hx := Hrgx.out wq
            have he : Erg 17 (.bool false) wq := by rw [Hrge17.out]
            have HK := Lib.hid (And.intro hk (And.intro he hx))
            clear hk hx he
            go_simp
            exact HK.out
          · intro Lq wq xq hh
            have d17 : Erg 17 (xq 17) wq := hh.val 17 (by kernel_rfl) (by kernel_rfl)
            rw [Hrge17.out] at d17
            simp only [hFrg, d17]
            clear d17
            refine .inl ⟨rfl, ?_⟩
            unfold Reg.upon
            have hc : Crg Lq wq := hh.cls
            rw [HrghC.out] at hc
            go_simp
            refine (clen_any g A _ hc.1).mono ?_
            rintro e w2 ⟨rfl, rfl⟩
            exact ⟨_, rfl, Hrgk.out 18 Lq wq  hh.cls, (by rw [Hrge18.out]; try rfl), Hrgx.out _⟩
          · intro Lq wq xq hh
            have d17 : Erg 17 (xq 17) wq := hh.val 17 (by kernel_rfl) (by kernel_rfl)
            rw [Hrge17.out] at d17
            simp only [hFrg, d17]
            clear d17
            refine .inl ⟨rfl, ?_⟩
            unfold Reg.upon
            have hk := Hrgk.out 19 Lq wq  hh.cls
            have hx := Hrgx.out wq
            have he : Erg 19 (.int .i64 k) wq := by rw [Hrge19.out]
            have HK := Lib.hid (And.intro hk (And.intro he hx))
            clear hk hx he
            go_simp
            exact HK.out
          · intro Lq wq xq hh
            have d17 : Erg 17 (xq 17) wq := hh.val 17 (by kernel_rfl) (by kernel_rfl)
            rw [Hrge17.out] at d17
            have d19 : Erg 19 (xq 19) wq := hh.val 19 (by kernel_rfl) (by kernel_rfl)
            rw [Hrge19.out] at d19
            simp only [hFrg, d17, d19]
            clear d17 d19
            refine .inl ⟨rfl, ?_⟩
            unfold Reg.upon
            have hk := Hrgk.out 20 Lq wq  hh.cls
            have hx := Hrgx.out wq
            have he : Erg 20 (.int .i64 ((k : Int) + 1)) wq := by rw [Hrge20.out]
            have HK := Lib.hid (And.intro hk (And.intro he hx))
            clear hk hx he
            go_simp
            exact HK.out
          · intro Lq wq xq hh
            have d17 : Erg 17 (xq 17) wq := hh.val 17 (by kernel_rfl) (by kernel_rfl)
            rw [Hrge17.out] at d17
            have d20 : Erg 20 (xq 20) wq := hh.val 20 (by kernel_rfl) (by kernel_rfl)
            rw [Hrge20.out] at d20
            simp only [hFrg, d17, d20]
            clear d17 d20
            refine .inl ⟨rfl, ?_⟩
            unfold Reg.upon
            have hc : Crg Lq wq := hh.cls
            rw [HrghC.out] at hc
            go_simp
            rw [HMIN.out]
            exact ⟨Hrgk.out 21 Lq wq  hh.cls, (by rw [Hrge21.out]; try rfl), Hrgx.out _⟩
          · intro Lq wq xq hh
            have d17 : Erg 17 (xq 17) wq := hh.val 17 (by kernel_rfl) (by kernel_rfl)
            rw [Hrge17.out] at d17
            have d18 : Erg 18 (xq 18) wq := hh.val 18 (by kernel_rfl) (by kernel_rfl)
            rw [Hrge18.out] at d18
            have d21 : Erg 21 (xq 21) wq := hh.val 21 (by kernel_rfl) (by kernel_rfl)
            rw [Hrge21.out] at d21
            simp only [hFrg, d17, d18, d21]
            clear d17 d18 d21
            refine .inl ⟨rfl, ?_⟩
            unfold Reg.upon
            have hk := Hrgk.out 22 Lq wq  hh.cls
            have hx := Hrgx.out wq
            have he : Erg 22 (.bool false) wq := by rw [Hrge22.out]
            have HK := Lib.hid (And.intro hk (And.intro he hx))
            clear hk hx he
            go_simp
            exact HK.out
          · intro Lq wq xq hh
            have d17 : Erg 17 (xq 17) wq := hh.val 17 (by kernel_rfl) (by kernel_rfl)
            rw [Hrge17.out] at d17
            have d22 : Erg 22 (xq 22) wq := hh.val 22 (by kernel_rfl) (by kernel_rfl)
            rw [Hrge22.out] at d22
            simp only [hFrg, d17, d22]
            clear d17 d22
            refine .inl ⟨rfl, ?_⟩
            unfold Reg.upon
            have hk := Hrgk.out 23 Lq wq  hh.cls
            have hx := Hrgx.out wq
            have he : Erg 23 (.bool false) wq := by rw [Hrge23.out]
            have HK := Lib.hid (And.intro hk (And.intro he hx))
            clear hk hx he
            go_simp
            exact HK.out
          · intro Lq wq xq hh
            have d23 : Erg 23 (xq 23) wq := hh.val 23 (by kernel_rfl) (by kernel_rfl)
            rw [Hrge23.out] at d23
            simp only [hFrg, d23]
            clear d23
            refine .inl ⟨rfl, ?_⟩
            unfold Reg.upon
            have hk := Hrgk.out 24 Lq wq  hh.cls
            have hx := Hrgx.out wq
            have he : Erg 24 (.bool false) wq := by rw [Hrge24.out]
            have HK := Lib.hid (And.intro hk (And.intro he hx))
            clear hk hx he
            go_simp
            exact HK.out
          · intro Lq wq xq hh
            have d24 : Erg 24 (xq 24) wq := hh.val 24 (by kernel_rfl) (by kernel_rfl)
            rw [Hrge24.out] at d24
            simp only [hFrg, d24]
            clear d24
            refine .inl ⟨rfl, ?_⟩
            unfold Reg.upon
            have hc : Crg Lq wq := hh.cls
            rw [HrghC.out] at hc
            go_simp
            refine (cfull_any g A _ hc.1 true HQ.out).mono ?_
            rintro e w2 ⟨rfl, rfl⟩
            exact ⟨_, rfl, Hrgk.out 25 Lq wq  hh.cls, (by rw [Hrge25.out]; try rfl), Hrgx.out _⟩
          · intro Lq wq xq hh
            have d24 : Erg 24 (xq 24) wq := hh.val 24 (by kernel_rfl) (by kernel_rfl)
            rw [Hrge24.out] at d24
            simp only [hFrg, d24]
            clear d24
            refine .inl ⟨rfl, ?_⟩
            unfold Reg.upon
            have hk := Hrgk.out 26 Lq wq  hh.cls
            have hx := Hrgx.out wq
            have he : Erg 26 (.int .i64 k) wq := by rw [Hrge26.out]
            have HK := Lib.hid (And.intro hk (And.intro he hx))
            clear hk hx he
            go_simp
            exact HK.out
          · intro Lq wq xq hh
            have d24 : Erg 24 (xq 24) wq := hh.val 24 (by kernel_rfl) (by kernel_rfl)
            rw [Hrge24.out] at d24
            have d26 : Erg 26 (xq 26) wq := hh.val 26 (by kernel_rfl) (by kernel_rfl)
            rw [Hrge26.out] at d26
            simp only [hFrg, d24, d26]
            clear d24 d26
            refine .inl ⟨rfl, ?_⟩
            unfold Reg.upon
            have hk := Hrgk.out 27 Lq wq  hh.cls
            have hx := Hrgx.out wq
            have he : Erg 27 (.bool true) wq := by rw [Hrge27.out]
            have HK := Lib.hid (And.intro hk (And.intro he hx))
            clear hk hx he
            go_simp
            exact HK.out
          · intro Lq wq xq hh
            have d24 : Erg 24 (xq 24) wq := hh.val 24 (by kernel_rfl) (by kernel_rfl)
            rw [Hrge24.out] at d24
            have d25 : Erg 25 (xq 25) wq := hh.val 25 (by kernel_rfl) (by kernel_rfl)
            rw [Hrge25.out] at d25
            have d27 : Erg 27 (xq 27) wq := hh.val 27 (by kernel_rfl) (by kernel_rfl)
            rw [Hrge27.out] at d27
            simp only [hFrg, d24, d25, d27]
            clear d24 d25 d27
            refine .inl ⟨rfl, ?_⟩
            unfold Reg.upon
            have hk := Hrgk.out 28 Lq wq  hh.cls
            have hx := Hrgx.out wq
            have he : Erg 28 (.bool false) wq := by rw [Hrge28.out]
            have HK := Lib.hid (And.intro hk (And.intro he hx))
            clear hk hx he
            go_simp
            exact HK.out
          · intro Lq wq xq hh
            have d24 : Erg 24 (xq 24) wq := hh.val 24 (by kernel_rfl) (by kernel_rfl)
            rw [Hrge24.out] at d24
            have d28 : Erg 28 (xq 28) wq := hh.val 28 (by kernel_rfl) (by kernel_rfl)
            rw [Hrge28.out] at d28
            simp only [hFrg, d24, d28]
            clear d24 d28
            refine .inl ⟨rfl, ?_⟩
            unfold Reg.upon
            have hk := Hrgk.out 29 Lq wq  hh.cls
            have hx := Hrgx.out wq
            have he : Erg 29 (.bool false) wq := by rw [Hrge29.out]
            have HK := Lib.hid (And.intro hk (And.intro he hx))
            clear hk hx he
            go_simp
            exact HK.out
        intro xq wrg hcrg hvrg
        rw [HrghC.out] at hcrg
        simp only [hFrg]
        have vrg29 : Erg 29 (xq 29) wrg := hvrg 29 (by decide)
        rw [Hrge29.out] at vrg29
        rw [vrg29]
        clear hvrg hFrg Hrgk Hrgx Hrgst Hrgc HrghC HrghX Hrgb Hrgxb Hrge0 Hrge1 Hrge2 Hrge3 Hrge4 Hrge5 Hrge6 Hrge7 Hrge8 Hrge9 Hrge10 Hrge11 Hrge12 Hrge13 Hrge14 Hrge15 Hrge16 Hrge17 Hrge18 Hrge19 Hrge20 Hrge21 Hrge22 Hrge23 Hrge24 Hrge25 Hrge26 Hrge27 Hrge28 Hrge29
        have h9 : ClAt wrg g (upTo xs (k + 1)) := by rw [HS.out (by omega)]; exact hcrg.1
        have hb9 := hcrg.2.2
        clear hcrg HQ HMIN d1 d2 d3
        go_wp2
        go_roundw
        case rel => exact ⟨k + 1, by omega, by go_num, h9, hb9⟩
        case measure => simp [intOf] <;> omega
    · obtain rfl : k = xs.length := by omega
      rw [upTo_all] at hcl
      have HNA := Lib.hid (show (if (16 : Int) < (xs.length : Int) then 16 else (xs.length : Int)) = (na : Int) by rcases HEA.out.2.2 with ⟨h1, h2⟩ | ⟨h1, h2⟩ <;> split <;> omega)
      have hD : ∃ D, D = xs.take 16 := ⟨_, rfl⟩
      obtain ⟨D, hD⟩ := hD
      have HTN := Lib.hid (show xs.take na = D by rw [hD, HEA.out.2.1])
      have HDl : Go.RowKit.Hid (D.length ≤ 16) := by rw [hD]; exact HLA
      rw [← hD] at hcl
      have HD := Lib.hid hD
      clear hD hul H3 hb2
      go_upto_region 10 with (fail)
      obtain ⟨Erga, hErga⟩ : ∃ EE : Nat → Value → World → Prop, EE = fun jj xx ww => match jj with
          | 0 => xx = .slice ao xs.length ka
          | 1 => xx = .int .i64 xs.length
          | 2 => xx = .int .i64 na
          | 3 => xx = .int .i64 na
          | _ => True := ⟨_, rfl⟩
      have erga0 : ∀ xx ww, Erga 0 xx ww = (xx = .slice ao xs.length ka) := fun xx ww => congrFun (congrFun (congrFun hErga 0) xx) ww
      have erga1 : ∀ xx ww, Erga 1 xx ww = (xx = .int .i64 xs.length) := fun xx ww => congrFun (congrFun (congrFun hErga 1) xx) ww
      have erga2 : ∀ xx ww, Erga 2 xx ww = (xx = .int .i64 na) := fun xx ww => congrFun (congrFun (congrFun hErga 2) xx) ww
      have erga3 : ∀ xx ww, Erga 3 xx ww = (xx = .int .i64 na) := fun xx ww => congrFun (congrFun (congrFun hErga 3) xx) ww
      obtain ⟨Crga, hCrga⟩ : ∃ CC : Array Bool → World → Prop, CC = fun L w' => ClAt w' g D ∧ Below w.heap.size w w' := ⟨_, rfl⟩
      have krga : ∀ i L w,  Crga L w → Crga (L.setIfInBounds i true) w := by
        intro i L w  h
        rw [hCrga] at h ⊢
        exact h
      obtain ⟨Xrga, hXrga⟩ : ∃ XX : World → World → Prop, XX = fun w w1 => Below w.heap.size w w1 := ⟨_, rfl⟩
      have xrga : ∀ w, Xrga w w := fun w => by rw [hXrga]; exact Below.refl _ _
      have strga : ∀ j x w w1, Xrga w w1 → Erga j x w → Erga j x w1 := by
        intro j x w w1 hx h
        rw [hXrga] at hx
        match j with
        | 0 => rw [erga0] at h ⊢; exact h
        | 1 => rw [erga1] at h ⊢; exact h
        | 2 => rw [erga2] at h ⊢; exact h
        | 3 => rw [erga3] at h ⊢; exact h
        | j + 4 => rw [hErga]; trivial
      have crga : Crga (Array.replicate 4 false) wr := by rw [hCrga]; exact ⟨hcl, hbw⟩
      have brga : ∀ L w w1, Crga L w → Below w.heap.size w w1 → Crga L w1 := by
        intro L w w1 h hb
        rw [hCrga] at h ⊢
        exact ⟨Has.below h.1 hb h.1.lt, h.2.trans (hb.mono h.2.size)⟩
      have xbrga : ∀ w w1, Below w.heap.size w w1 → Xrga w w1 := by
        intro w w1 hb
        rw [hXrga]
        exact hb
      have Hrgab := Lib.hid brga
      have Hrgaxb := Lib.hid xbrga
      clear brga xbrga
      clear hErga
      have Hrgak := Lib.hid krga
      have Hrgax := Lib.hid xrga
      have Hrgast := Lib.hid strga
      have Hrgac := Lib.hid crga
      have HrgahC := Lib.hid hCrga
      have HrgahX := Lib.hid hXrga
      have Hrgae0 := Lib.hid erga0
      have Hrgae1 := Lib.hid erga1
      have Hrgae2 := Lib.hid erga2
      have Hrgae3 := Lib.hid erga3
      clear krga xrga strga crga hCrga hXrga erga0 erga1 erga2 erga3
      refine Reg.regionU Erga Crga Xrga Hrgast.out (by kernel_rfl) (by kernel_rfl) Hrgac.out (fun Frga hFrga => ?_)
      simp only [Reg.frame, Reg.dsts, List.map_cons, List.map_nil, Mix.put_lit, Reg.put_none, List.set_cons_succ, List.set_cons_zero, Array.getD, Nat.zero_add, Nat.reduceAdd] at hFrga
      refine ⟨?_, ?_⟩
      · refine ⟨?_, ?_, ?_, ?_, trivial⟩
        · intro Lq wq xq hh
          simp only [hFrga]
          refine .inl ⟨rfl, ?_⟩
          unfold Reg.upon
          have hk := Hrgak.out 0 Lq wq  hh.cls
          have hx := Hrgax.out wq
          have he : Erga 0 (.slice ao xs.length ka) wq := by rw [Hrgae0.out]
          have HK := Lib.hid (And.intro hk (And.intro he hx))
          clear hk hx he
          go_simp
          exact HK.out
        · intro Lq wq xq hh
          have d0 : Erga 0 (xq 0) wq := hh.val 0 (by kernel_rfl) (by kernel_rfl)
          rw [Hrgae0.out] at d0
          simp only [hFrga, d0]
          clear d0
          refine .inl ⟨rfl, ?_⟩
          unfold Reg.upon
          have hk := Hrgak.out 1 Lq wq  hh.cls
          have hx := Hrgax.out wq
          have he : Erga 1 (.int .i64 xs.length) wq := by rw [Hrgae1.out]
          have HK := Lib.hid (And.intro hk (And.intro he hx))
          clear hk hx he
          go_simp
          exact HK.out
        · intro Lq wq xq hh
          have d1 : Erga 1 (xq 1) wq := hh.val 1 (by kernel_rfl) (by kernel_rfl)
          rw [Hrgae1.out] at d1
          simp only [hFrga, d1]
          clear d1
          refine .inl ⟨rfl, ?_⟩
          unfold Reg.upon
          have hc : Crga Lq wq := hh.cls
          rw [HrgahC.out] at hc
          go_simp
          rw [HNA.out]
          exact ⟨Hrgak.out 2 Lq wq  hh.cls, (by rw [Hrgae2.out]; try rfl), Hrgax.out _⟩
        · intro Lq wq xq hh
          have d2 : Erga 2 (xq 2) wq := hh.val 2 (by kernel_rfl) (by kernel_rfl)
          rw [Hrgae2.out] at d2
          simp only [hFrga, d2]
          clear d2
          refine .inl ⟨rfl, ?_⟩
          unfold Reg.upon
          have hk := Hrgak.out 3 Lq wq  hh.cls
          have hx := Hrgax.out wq
          have he : Erga 3 (.int .i64 na) wq := by rw [Hrgae3.out]
          have HK := Lib.hid (And.intro hk (And.intro he hx))
          clear hk hx he
          go_simp
          exact HK.out
      intro xq wrga hcrga hvrga
      rw [HrgahC.out] at hcrga
      simp only [hFrga]
      have vrga3 : Erga 3 (xq 3) wrga := hvrga 3 (by decide)
      rw [Hrgae3.out] at vrga3
      rw [vrga3]
      clear hvrga hFrga Hrgak Hrgax Hrgast Hrgac HrgahC HrgahX Hrgab Hrgaxb Hrgae0 Hrgae1 Hrgae2 Hrgae3
      obtain ⟨h3, hb3⟩ := hcrga
      clear hcl hbw
      go_wp2_with fail
      refine (cof_any _ xs _ (HA.out.below hb3) (by omega)).mono ?_
      rintro e w4 ⟨rfl, b4⟩
      rw [← HD.out]
      have h4 := Has.below h3 b4 h3.lt
      have hb4 := hb3.trans (b4.mono hb3.size)
      clear h3 hb3 b4
      go_wp2_with (refine wpList_store_has rfl 77 (.tmp 7) (.tmp 60) rfl w4.heap.size rfl 77 (clCells []) (clCells D) 17 rfl (Has.new w4 (clCells []) _) info_cl rfl (clCells_len D HDl.out) (cl_cells_one D) ?_; intro w5 h5 b5)
      have hlt4 := h4.lt
      obtain ⟨G, hG⟩ : ∃ G, G = w4.heap.size := ⟨_, rfl⟩
      have h5g : ClAt w5 g D := (Has.alloc h4 _).but b5 (by simp; omega) (by omega)
      have hb5 : Below w.heap.size w w5 := (hb4.alloc hb4.size _).trans (b5.below (by have := hb4.size; simp; omega) hb4.size)
      have hGb : w.heap.size ≤ G := by have := hb4.size; omega
      rw [← hG] at h5 ⊢
      clear hG b5 hlt4 h4 hb4
      go_wp2_with fail
      refine (ctext_any G D _ h5 HDl.out).mono ?_
      rintro e w6 ⟨v8, rfl, ho, b6⟩
      obtain ⟨B8, hB8⟩ : ∃ B, B = w5.heap.size := ⟨_, rfl⟩
      have hGB : G < B8 := by rw [hB8]; exact h5.lt
      have h6g := Has.below h5g b6 h5g.lt
      have h6 := Has.below h5 b6 h5.lt
      have hb6 := hb5.trans (b6.mono hb5.size)
      rw [← hB8] at ho
      clear b6 hB8 h5g h5 hb5
      have hh8 := held_of_owns ho
      have HO := Lib.hid ho
      clear ho
      have hneq := fun w => cl_neq D D HDl.out HDl.out w
      rw [show clEq D D = true by simp [clEq]] at hneq
      have hsame : ∀ w', Held .i32 w' v8 D → Below w.heap.size w w' → Calls Try.prog 18 #[v8, .slice ao na ka] w' (Gives w' (.bool true)) := fun w' h hb => by
        have h2 := (take_held HA.out na HEA.out.1).below hb
        rw [HTN.out] at h2
        have := same_any _ _ D D w' h h2 (by have := HDl.out; omega)
        rwa [sameB_self] at this
      have HSM := Lib.hid hsame
      clear hsame
      have n1 : (na : Int) ≤ (ka : Int) := by have := HEA.out.1; omega
      go_upto_region 13 with (fail)
      obtain ⟨Ergb, hErgb⟩ : ∃ EE : Nat → Value → World → Prop, EE = fun jj xx ww => match jj with
          | 0 => xx = .agg (clCells D).toArray
          | 1 => xx = .agg (clCells D).toArray
          | 2 => xx = .bool false
          | 3 => xx = .bool false
          | 4 => xx = v8
          | 5 => xx = .slice ao xs.length ka
          | 6 => xx = .int .i64 na
          | 7 => xx = .slice ao na ka
          | 8 => xx = .bool true
          | 9 => xx = .bool false
          | 10 => xx = .bool false
          | _ => True := ⟨_, rfl⟩
      have ergb0 : ∀ xx ww, Ergb 0 xx ww = (xx = .agg (clCells D).toArray) := fun xx ww => congrFun (congrFun (congrFun hErgb 0) xx) ww
      have ergb1 : ∀ xx ww, Ergb 1 xx ww = (xx = .agg (clCells D).toArray) := fun xx ww => congrFun (congrFun (congrFun hErgb 1) xx) ww
      have ergb2 : ∀ xx ww, Ergb 2 xx ww = (xx = .bool false) := fun xx ww => congrFun (congrFun (congrFun hErgb 2) xx) ww
      have ergb3 : ∀ xx ww, Ergb 3 xx ww = (xx = .bool false) := fun xx ww => congrFun (congrFun (congrFun hErgb 3) xx) ww
      have ergb4 : ∀ xx ww, Ergb 4 xx ww = (xx = v8) := fun xx ww => congrFun (congrFun (congrFun hErgb 4) xx) ww
      have ergb5 : ∀ xx ww, Ergb 5 xx ww = (xx = .slice ao xs.length ka) := fun xx ww => congrFun (congrFun (congrFun hErgb 5) xx) ww
      have ergb6 : ∀ xx ww, Ergb 6 xx ww = (xx = .int .i64 na) := fun xx ww => congrFun (congrFun (congrFun hErgb 6) xx) ww
      have ergb7 : ∀ xx ww, Ergb 7 xx ww = (xx = .slice ao na ka) := fun xx ww => congrFun (congrFun (congrFun hErgb 7) xx) ww
      have ergb8 : ∀ xx ww, Ergb 8 xx ww = (xx = .bool true) := fun xx ww => congrFun (congrFun (congrFun hErgb 8) xx) ww
      have ergb9 : ∀ xx ww, Ergb 9 xx ww = (xx = .bool false) := fun xx ww => congrFun (congrFun (congrFun hErgb 9) xx) ww
      have ergb10 : ∀ xx ww, Ergb 10 xx ww = (xx = .bool false) := fun xx ww => congrFun (congrFun (congrFun hErgb 10) xx) ww
      obtain ⟨Crgb, hCrgb⟩ : ∃ CC : Array Bool → World → Prop, CC = fun L w' => (ClAt w' g D ∧ ClAt w' G D) ∧ w'.ownsRow B8 21 1 v8 D.length (D.map (Value.int .i32)) ∧ Below w.heap.size w w' := ⟨_, rfl⟩
      have krgb : ∀ i L w,  Crgb L w → Crgb (L.setIfInBounds i true) w := by
        intro i L w  h
        rw [hCrgb] at h ⊢
        exact h
      obtain ⟨Xrgb, hXrgb⟩ : ∃ XX : World → World → Prop, XX = fun w w1 => Below w.heap.size w w1 := ⟨_, rfl⟩
      have xrgb : ∀ w, Xrgb w w := fun w => by rw [hXrgb]; exact Below.refl _ _
      have strgb : ∀ j x w w1, Xrgb w w1 → Ergb j x w → Ergb j x w1 := by
        intro j x w w1 hx h
        rw [hXrgb] at hx
        match j with
        | 0 => rw [ergb0] at h ⊢; exact h
        | 1 => rw [ergb1] at h ⊢; exact h
        | 2 => rw [ergb2] at h ⊢; exact h
        | 3 => rw [ergb3] at h ⊢; exact h
        | 4 => rw [ergb4] at h ⊢; exact h
        | 5 => rw [ergb5] at h ⊢; exact h
        | 6 => rw [ergb6] at h ⊢; exact h
        | 7 => rw [ergb7] at h ⊢; exact h
        | 8 => rw [ergb8] at h ⊢; exact h
        | 9 => rw [ergb9] at h ⊢; exact h
        | 10 => rw [ergb10] at h ⊢; exact h
        | j + 11 => rw [hErgb]; trivial
      have crgb : Crgb (Array.replicate 11 false) w6 := by rw [hCrgb]; exact ⟨⟨h6g, h6⟩, HO.out, hb6⟩
      have brgb : ∀ L w w1, Crgb L w → Below w.heap.size w w1 → Crgb L w1 := by
        intro L w w1 h hb
        rw [hCrgb] at h ⊢
        exact ⟨⟨Has.below h.1.1 hb h.1.1.lt, Has.below h.1.2 hb h.1.2.lt⟩, ownsRow_below h.2.1 hb, h.2.2.trans (hb.mono h.2.2.size)⟩
      have xbrgb : ∀ w w1, Below w.heap.size w w1 → Xrgb w w1 := by
        intro w w1 hb
        rw [hXrgb]
        exact hb
      have Hrgbb := Lib.hid brgb
      have Hrgbxb := Lib.hid xbrgb
      clear brgb xbrgb
      clear hErgb
      have Hrgbk := Lib.hid krgb
      have Hrgbx := Lib.hid xrgb
      have Hrgbst := Lib.hid strgb
      have Hrgbc := Lib.hid crgb
      have HrgbhC := Lib.hid hCrgb
      have HrgbhX := Lib.hid hXrgb
      have Hrgbe0 := Lib.hid ergb0
      have Hrgbe1 := Lib.hid ergb1
      have Hrgbe2 := Lib.hid ergb2
      have Hrgbe3 := Lib.hid ergb3
      have Hrgbe4 := Lib.hid ergb4
      have Hrgbe5 := Lib.hid ergb5
      have Hrgbe6 := Lib.hid ergb6
      have Hrgbe7 := Lib.hid ergb7
      have Hrgbe8 := Lib.hid ergb8
      have Hrgbe9 := Lib.hid ergb9
      have Hrgbe10 := Lib.hid ergb10
      clear krgb xrgb strgb crgb hCrgb hXrgb ergb0 ergb1 ergb2 ergb3 ergb4 ergb5 ergb6 ergb7 ergb8 ergb9 ergb10
      refine Reg.regionU Ergb Crgb Xrgb Hrgbst.out (by kernel_rfl) (by kernel_rfl) Hrgbc.out (fun Frgb hFrgb => ?_)
      simp only [Reg.frame, Reg.dsts, List.map_cons, List.map_nil, Mix.put_lit, Reg.put_none, List.set_cons_succ, List.set_cons_zero, Array.getD, Nat.zero_add, Nat.reduceAdd] at hFrgb
      refine ⟨?_, ?_⟩
      · refine ⟨?_, ?_, ?_, ?_, ?_, ?_, ?_, ?_, ?_, ?_, ?_, trivial⟩
        · intro Lq wq xq hh
          simp only [hFrgb]
          refine .inl ⟨rfl, ?_⟩
          unfold Reg.upon
          have hc : Crgb Lq wq := hh.cls
          rw [HrgbhC.out] at hc
          rw [exec_load_has rfl rfl hc.1.2 Try.underlying77 rfl info_cl (clCells_len D HDl.out)]
          exact ⟨Hrgbk.out 0 Lq wq  hh.cls, (by rw [Hrgbe0.out]; try rfl), Hrgbx.out _⟩
        · intro Lq wq xq hh
          simp only [hFrgb]
          refine .inl ⟨rfl, ?_⟩
          unfold Reg.upon
          have hc : Crgb Lq wq := hh.cls
          rw [HrgbhC.out] at hc
          rw [exec_load_has rfl rfl hc.1.1 Try.underlying77 rfl info_cl (clCells_len D HDl.out)]
          exact ⟨Hrgbk.out 1 Lq wq  hh.cls, (by rw [Hrgbe1.out]; try rfl), Hrgbx.out _⟩
        · intro Lq wq xq hh
          have d0 : Ergb 0 (xq 0) wq := hh.val 0 (by kernel_rfl) (by kernel_rfl)
          rw [Hrgbe0.out] at d0
          have d1 : Ergb 1 (xq 1) wq := hh.val 1 (by kernel_rfl) (by kernel_rfl)
          rw [Hrgbe1.out] at d1
          simp only [hFrgb, d0, d1]
          clear d0 d1
          refine .inl ⟨rfl, ?_⟩
          unfold Reg.upon
          have hk := Hrgbk.out 2 Lq wq  hh.cls
          have hx := Hrgbx.out wq
          have he : Ergb 2 (.bool false) wq := by rw [Hrgbe2.out]
          have HK := Lib.hid (And.intro hk (And.intro he hx))
          clear hk hx he
          go_simp
          exact HK.out
        · intro Lq wq xq hh
          have d2 : Ergb 2 (xq 2) wq := hh.val 2 (by kernel_rfl) (by kernel_rfl)
          rw [Hrgbe2.out] at d2
          simp only [hFrgb, d2]
          clear d2
          refine .inl ⟨rfl, ?_⟩
          unfold Reg.upon
          have hk := Hrgbk.out 3 Lq wq  hh.cls
          have hx := Hrgbx.out wq
          have he : Ergb 3 (.bool false) wq := by rw [Hrgbe3.out]
          have HK := Lib.hid (And.intro hk (And.intro he hx))
          clear hk hx he
          go_simp
          exact HK.out
        · intro Lq wq xq hh
          have d3 : Ergb 3 (xq 3) wq := hh.val 3 (by kernel_rfl) (by kernel_rfl)
          rw [Hrgbe3.out] at d3
          simp only [hFrgb, d3]
          clear d3
          refine .inl ⟨rfl, ?_⟩
          unfold Reg.upon
          have hk := Hrgbk.out 4 Lq wq  hh.cls
          have hx := Hrgbx.out wq
          have he : Ergb 4 (v8) wq := by rw [Hrgbe4.out]
          have HK := Lib.hid (And.intro hk (And.intro he hx))
          clear hk hx he
          go_simp
          exact HK.out
        · intro Lq wq xq hh
          have d3 : Ergb 3 (xq 3) wq := hh.val 3 (by kernel_rfl) (by kernel_rfl)
          rw [Hrgbe3.out] at d3
          simp only [hFrgb, d3]
          clear d3
          refine .inl ⟨rfl, ?_⟩
          unfold Reg.upon
          have hk := Hrgbk.out 5 Lq wq  hh.cls
          have hx := Hrgbx.out wq
          have he : Ergb 5 (.slice ao xs.length ka) wq := by rw [Hrgbe5.out]
          have HK := Lib.hid (And.intro hk (And.intro he hx))
          clear hk hx he
          go_simp
          exact HK.out
        · intro Lq wq xq hh
          have d3 : Ergb 3 (xq 3) wq := hh.val 3 (by kernel_rfl) (by kernel_rfl)
          rw [Hrgbe3.out] at d3
          simp only [hFrgb, d3]
          clear d3
          refine .inl ⟨rfl, ?_⟩
          unfold Reg.upon
          have hk := Hrgbk.out 6 Lq wq  hh.cls
          have hx := Hrgbx.out wq
          have he : Ergb 6 (.int .i64 na) wq := by rw [Hrgbe6.out]
          have HK := Lib.hid (And.intro hk (And.intro he hx))
          clear hk hx he
          go_simp
          exact HK.out
        · intro Lq wq xq hh
          have d3 : Ergb 3 (xq 3) wq := hh.val 3 (by kernel_rfl) (by kernel_rfl)
          rw [Hrgbe3.out] at d3
          have d5 : Ergb 5 (xq 5) wq := hh.val 5 (by kernel_rfl) (by kernel_rfl)
          rw [Hrgbe5.out] at d5
          have d6 : Ergb 6 (xq 6) wq := hh.val 6 (by kernel_rfl) (by kernel_rfl)
          rw [Hrgbe6.out] at d6
          simp only [hFrgb, d3, d5, d6]
          clear d3 d5 d6
          refine .inl ⟨rfl, ?_⟩
          unfold Reg.upon
          have hk := Hrgbk.out 7 Lq wq  hh.cls
          have hx := Hrgbx.out wq
          have he : Ergb 7 (.slice ao na ka) wq := by rw [Hrgbe7.out]
          have HK := Lib.hid (And.intro hk (And.intro he hx))
          clear hk hx he
          go_simp
          exact HK.out
        · intro Lq wq xq hh
          have d3 : Ergb 3 (xq 3) wq := hh.val 3 (by kernel_rfl) (by kernel_rfl)
          rw [Hrgbe3.out] at d3
          have d4 : Ergb 4 (xq 4) wq := hh.val 4 (by kernel_rfl) (by kernel_rfl)
          rw [Hrgbe4.out] at d4
          have d7 : Ergb 7 (xq 7) wq := hh.val 7 (by kernel_rfl) (by kernel_rfl)
          rw [Hrgbe7.out] at d7
          simp only [hFrgb, d3, d4, d7]
          clear d3 d4 d7
          refine .inl ⟨rfl, ?_⟩
          unfold Reg.upon
          have hc : Crgb Lq wq := hh.cls
          rw [HrgbhC.out] at hc
          go_simp
          refine (HSM.out _ (held_of_owns hc.2.1) hc.2.2).mono ?_
          rintro e w2 ⟨rfl, hb⟩
          exact ⟨_, rfl, Hrgbk.out 8 Lq w2  (Hrgbb.out Lq wq w2 hh.cls hb), (by rw [Hrgbe8.out]; try rfl), Hrgbxb.out wq w2 hb⟩
        · intro Lq wq xq hh
          have d3 : Ergb 3 (xq 3) wq := hh.val 3 (by kernel_rfl) (by kernel_rfl)
          rw [Hrgbe3.out] at d3
          have d8 : Ergb 8 (xq 8) wq := hh.val 8 (by kernel_rfl) (by kernel_rfl)
          rw [Hrgbe8.out] at d8
          simp only [hFrgb, d3, d8]
          clear d3 d8
          refine .inl ⟨rfl, ?_⟩
          unfold Reg.upon
          have hk := Hrgbk.out 9 Lq wq  hh.cls
          have hx := Hrgbx.out wq
          have he : Ergb 9 (.bool false) wq := by rw [Hrgbe9.out]
          have HK := Lib.hid (And.intro hk (And.intro he hx))
          clear hk hx he
          go_simp
          exact HK.out
        · intro Lq wq xq hh
          have d3 : Ergb 3 (xq 3) wq := hh.val 3 (by kernel_rfl) (by kernel_rfl)
          rw [Hrgbe3.out] at d3
          have d9 : Ergb 9 (xq 9) wq := hh.val 9 (by kernel_rfl) (by kernel_rfl)
          rw [Hrgbe9.out] at d9
          simp only [hFrgb, d3, d9]
          clear d3 d9
          refine .inl ⟨rfl, ?_⟩
          unfold Reg.upon
          have hk := Hrgbk.out 10 Lq wq  hh.cls
          have hx := Hrgbx.out wq
          have he : Ergb 10 (.bool false) wq := by rw [Hrgbe10.out]
          have HK := Lib.hid (And.intro hk (And.intro he hx))
          clear hk hx he
          go_simp
          exact HK.out
      intro xq wrgb hcrgb hvrgb
      rw [HrgbhC.out] at hcrgb
      simp only [hFrgb]
      have vrgb10 : Ergb 10 (xq 10) wrgb := hvrgb 10 (by decide)
      rw [Hrgbe10.out] at vrgb10
      rw [vrgb10]
      clear hvrgb hFrgb Hrgbk Hrgbx Hrgbst Hrgbc HrgbhC HrgbhX Hrgbb Hrgbxb Hrgbe0 Hrgbe1 Hrgbe2 Hrgbe3 Hrgbe4 Hrgbe5 Hrgbe6 Hrgbe7 Hrgbe8 Hrgbe9 Hrgbe10
      obtain ⟨⟨_, h7⟩, ho7, hb7⟩ := hcrgb
      obtain ⟨vo, cp, rfl, _⟩ := hh8
      have HO7 := Lib.hid ho7
      clear ho7 HO h6g h6 hb6
      go_wp2
      go_loopw [9] (fun i wr => ∃ (k : Nat) (ys : List Value), k ≤ D.length ∧ i = .int .i64 k ∧ ys.length = D.length ∧ Go.RowKit.Hid (wr.ownsRow B8 21 1 (.slice vo D.length cp) D.length ys) ∧ ClAt wr G D ∧ Below w.heap.size w wr) (fun i _ => D.length - (intOf i).toNat)
      case atStart => exact ⟨0, D.map (Value.int .i32), Nat.zero_le _, rfl, by simp, HO7, h7, hb7⟩
      case round =>
        obtain ⟨k, ys, hk, rfl, hys, HOW, hG2, hbw⟩ := hrel
        clear h7 hb7 HO7
        by_cases hkl : k < D.length
        · have hform : ∃ h, vo = some ⟨h, 0, none⟩ ∧ B8 ≤ h := by
            rcases HOW.out.2 with ⟨_, hn⟩ | ⟨h, cap, cur, e, hb, _⟩
            · omega
            · cases e; exact ⟨h, rfl, hb⟩
          obtain ⟨h, rfl, hBh⟩ := hform
          obtain ⟨y, hcell⟩ : ∃ y, wr.cell? ⟨h, k, none⟩ = some y := ⟨ys[k]'(by omega), by
            rw [HOW.out.cellAt k (by omega)]; exact List.getElem?_eq_getElem _⟩
          have hfr := HOW.out.frozenAt k
          have hst := HOW.out.stored k (.int .i32 (-1))
          have h2 : ClAt (wr.setCell ⟨h, k, none⟩ (.int .i32 (-1))) G D := Has.setOther hG2 _ _ (by show G ≠ h; omega)
          have hb2 : Below w.heap.size w (wr.setCell ⟨h, k, none⟩ (.int .i32 (-1))) := hbw.setCell (p := ⟨h, k, none⟩) (by show w.heap.size ≤ h; omega) _
          have hys2 : (ys.set k (.int .i32 (-1))).length = D.length := by simp [hys]
          have HST := Lib.hid hst.1
          have H2 := Lib.hid h2
          have HB2 := Lib.hid hb2
          have HYS := Lib.hid hys2
          have k0 : (0 : Int) ≤ (k : Int) := by omega
          have k1 : (k : Int) < (D.length : Int) := by omega
          have HKL := Lib.hid hkl
          have hd16 := HDl.out
          clear hst h2 hb2 hys2 hG2 hbw HOW hys hkl
          go_wp2
          go_roundw
          case rel => exact ⟨k + 1, _, by have := HKL.out; omega, by go_num, HYS.out, HST, H2.out, HB2.out⟩
          case measure => have := HKL.out; simp [intOf] <;> omega
        · go_wp2_with fail
          obtain ⟨Ergc, hErgc⟩ : ∃ EE : Nat → Value → World → Prop, EE = fun jj xx ww => match jj with
              | 0 => (fun x w => Held .i32 w x D) xx ww
              | 1 => xx = .slice ao xs.length ka
              | 2 => xx = .int .i64 na
              | 3 => xx = .slice ao na ka
              | 4 => xx = .bool true
              | 5 => xx = .bool true
              | 6 => xx = .pointer none
              | 7 => xx = .bool false
              | 8 => xx = .bool true
              | 9 => xx = .bool true
              | 10 => xx = .bool true
              | 11 => xx = .pointer none
              | 12 => xx = .int .i64 0
              | 13 => xx = .bool true
              | 14 => xx = .bool true
              | 15 => xx = .bool true
              | 16 => xx = .pointer none
              | 17 => xx = .slice none 0 0
              | 18 => xx = .int .i64 0
              | 19 => xx = .bool true
              | 20 => xx = .bool true
              | 21 => xx = .bool true
              | 22 => xx = .pointer none
              | 23 => xx = .bool false
              | 24 => xx = .bool true
              | 25 => xx = .bool true
              | 26 => xx = .bool true
              | _ => True := ⟨_, rfl⟩
          have ergc0 : ∀ xx ww, Ergc 0 xx ww = ((fun x w => Held .i32 w x D) xx ww) := fun xx ww => congrFun (congrFun (congrFun hErgc 0) xx) ww
          have ergc1 : ∀ xx ww, Ergc 1 xx ww = (xx = .slice ao xs.length ka) := fun xx ww => congrFun (congrFun (congrFun hErgc 1) xx) ww
          have ergc2 : ∀ xx ww, Ergc 2 xx ww = (xx = .int .i64 na) := fun xx ww => congrFun (congrFun (congrFun hErgc 2) xx) ww
          have ergc3 : ∀ xx ww, Ergc 3 xx ww = (xx = .slice ao na ka) := fun xx ww => congrFun (congrFun (congrFun hErgc 3) xx) ww
          have ergc4 : ∀ xx ww, Ergc 4 xx ww = (xx = .bool true) := fun xx ww => congrFun (congrFun (congrFun hErgc 4) xx) ww
          have ergc5 : ∀ xx ww, Ergc 5 xx ww = (xx = .bool true) := fun xx ww => congrFun (congrFun (congrFun hErgc 5) xx) ww
          have ergc6 : ∀ xx ww, Ergc 6 xx ww = (xx = .pointer none) := fun xx ww => congrFun (congrFun (congrFun hErgc 6) xx) ww
          have ergc7 : ∀ xx ww, Ergc 7 xx ww = (xx = .bool false) := fun xx ww => congrFun (congrFun (congrFun hErgc 7) xx) ww
          have ergc8 : ∀ xx ww, Ergc 8 xx ww = (xx = .bool true) := fun xx ww => congrFun (congrFun (congrFun hErgc 8) xx) ww
          have ergc9 : ∀ xx ww, Ergc 9 xx ww = (xx = .bool true) := fun xx ww => congrFun (congrFun (congrFun hErgc 9) xx) ww
          have ergc10 : ∀ xx ww, Ergc 10 xx ww = (xx = .bool true) := fun xx ww => congrFun (congrFun (congrFun hErgc 10) xx) ww
          have ergc11 : ∀ xx ww, Ergc 11 xx ww = (xx = .pointer none) := fun xx ww => congrFun (congrFun (congrFun hErgc 11) xx) ww
          have ergc12 : ∀ xx ww, Ergc 12 xx ww = (xx = .int .i64 0) := fun xx ww => congrFun (congrFun (congrFun hErgc 12) xx) ww
          have ergc13 : ∀ xx ww, Ergc 13 xx ww = (xx = .bool true) := fun xx ww => congrFun (congrFun (congrFun hErgc 13) xx) ww
          have ergc14 : ∀ xx ww, Ergc 14 xx ww = (xx = .bool true) := fun xx ww => congrFun (congrFun (congrFun hErgc 14) xx) ww
          have ergc15 : ∀ xx ww, Ergc 15 xx ww = (xx = .bool true) := fun xx ww => congrFun (congrFun (congrFun hErgc 15) xx) ww
          have ergc16 : ∀ xx ww, Ergc 16 xx ww = (xx = .pointer none) := fun xx ww => congrFun (congrFun (congrFun hErgc 16) xx) ww
          have ergc17 : ∀ xx ww, Ergc 17 xx ww = (xx = .slice none 0 0) := fun xx ww => congrFun (congrFun (congrFun hErgc 17) xx) ww
          have ergc18 : ∀ xx ww, Ergc 18 xx ww = (xx = .int .i64 0) := fun xx ww => congrFun (congrFun (congrFun hErgc 18) xx) ww
          have ergc19 : ∀ xx ww, Ergc 19 xx ww = (xx = .bool true) := fun xx ww => congrFun (congrFun (congrFun hErgc 19) xx) ww
          have ergc20 : ∀ xx ww, Ergc 20 xx ww = (xx = .bool true) := fun xx ww => congrFun (congrFun (congrFun hErgc 20) xx) ww
          have ergc21 : ∀ xx ww, Ergc 21 xx ww = (xx = .bool true) := fun xx ww => congrFun (congrFun (congrFun hErgc 21) xx) ww
          have ergc22 : ∀ xx ww, Ergc 22 xx ww = (xx = .pointer none) := fun xx ww => congrFun (congrFun (congrFun hErgc 22) xx) ww
          have ergc23 : ∀ xx ww, Ergc 23 xx ww = (xx = .bool false) := fun xx ww => congrFun (congrFun (congrFun hErgc 23) xx) ww
          have ergc24 : ∀ xx ww, Ergc 24 xx ww = (xx = .bool true) := fun xx ww => congrFun (congrFun (congrFun hErgc 24) xx) ww
          have ergc25 : ∀ xx ww, Ergc 25 xx ww = (xx = .bool true) := fun xx ww => congrFun (congrFun (congrFun hErgc 25) xx) ww
          have ergc26 : ∀ xx ww, Ergc 26 xx ww = (xx = .bool true) := fun xx ww => congrFun (congrFun (congrFun hErgc 26) xx) ww
          obtain ⟨Crgc, hCrgc⟩ : ∃ CC : Array Bool → World → Prop, CC = fun L w' => ClAt w' G D ∧ Below w.heap.size w w' := ⟨_, rfl⟩
          have krgc : ∀ i L w,  Crgc L w → Crgc (L.setIfInBounds i true) w := by
            intro i L w  h
            rw [hCrgc] at h ⊢
            exact h
          obtain ⟨Xrgc, hXrgc⟩ : ∃ XX : World → World → Prop, XX = fun w w1 => Below w.heap.size w w1 := ⟨_, rfl⟩
          have xrgc : ∀ w, Xrgc w w := fun w => by rw [hXrgc]; exact Below.refl _ _
          have strgc : ∀ j x w w1, Xrgc w w1 → Ergc j x w → Ergc j x w1 := by
            intro j x w w1 hx h
            rw [hXrgc] at hx
            match j with
            | 0 => rw [ergc0] at h ⊢; (exact Held.below h hx)
            | 1 => rw [ergc1] at h ⊢; exact h
            | 2 => rw [ergc2] at h ⊢; exact h
            | 3 => rw [ergc3] at h ⊢; exact h
            | 4 => rw [ergc4] at h ⊢; exact h
            | 5 => rw [ergc5] at h ⊢; exact h
            | 6 => rw [ergc6] at h ⊢; exact h
            | 7 => rw [ergc7] at h ⊢; exact h
            | 8 => rw [ergc8] at h ⊢; exact h
            | 9 => rw [ergc9] at h ⊢; exact h
            | 10 => rw [ergc10] at h ⊢; exact h
            | 11 => rw [ergc11] at h ⊢; exact h
            | 12 => rw [ergc12] at h ⊢; exact h
            | 13 => rw [ergc13] at h ⊢; exact h
            | 14 => rw [ergc14] at h ⊢; exact h
            | 15 => rw [ergc15] at h ⊢; exact h
            | 16 => rw [ergc16] at h ⊢; exact h
            | 17 => rw [ergc17] at h ⊢; exact h
            | 18 => rw [ergc18] at h ⊢; exact h
            | 19 => rw [ergc19] at h ⊢; exact h
            | 20 => rw [ergc20] at h ⊢; exact h
            | 21 => rw [ergc21] at h ⊢; exact h
            | 22 => rw [ergc22] at h ⊢; exact h
            | 23 => rw [ergc23] at h ⊢; exact h
            | 24 => rw [ergc24] at h ⊢; exact h
            | 25 => rw [ergc25] at h ⊢; exact h
            | 26 => rw [ergc26] at h ⊢; exact h
            | j + 27 => rw [hErgc]; trivial
          have crgc : Crgc (Array.replicate 27 false) wr.drew := by rw [hCrgc]; exact ⟨hG2, hbw.drew⟩
          have brgc : ∀ L w w1, Crgc L w → Below w.heap.size w w1 → Crgc L w1 := by
            intro L w w1 h hb
            rw [hCrgc] at h ⊢
            exact ⟨Has.below h.1 hb h.1.lt, h.2.trans (hb.mono h.2.size)⟩
          have xbrgc : ∀ w w1, Below w.heap.size w w1 → Xrgc w w1 := by
            intro w w1 hb
            rw [hXrgc]
            exact hb
          have Hrgcb := Lib.hid brgc
          have Hrgcxb := Lib.hid xbrgc
          clear brgc xbrgc
          clear hErgc
          have Hrgck := Lib.hid krgc
          have Hrgcx := Lib.hid xrgc
          have Hrgcst := Lib.hid strgc
          have Hrgcc := Lib.hid crgc
          have HrgchC := Lib.hid hCrgc
          have HrgchX := Lib.hid hXrgc
          have Hrgce0 := Lib.hid ergc0
          have Hrgce1 := Lib.hid ergc1
          have Hrgce2 := Lib.hid ergc2
          have Hrgce3 := Lib.hid ergc3
          have Hrgce4 := Lib.hid ergc4
          have Hrgce5 := Lib.hid ergc5
          have Hrgce6 := Lib.hid ergc6
          have Hrgce7 := Lib.hid ergc7
          have Hrgce8 := Lib.hid ergc8
          have Hrgce9 := Lib.hid ergc9
          have Hrgce10 := Lib.hid ergc10
          have Hrgce11 := Lib.hid ergc11
          have Hrgce12 := Lib.hid ergc12
          have Hrgce13 := Lib.hid ergc13
          have Hrgce14 := Lib.hid ergc14
          have Hrgce15 := Lib.hid ergc15
          have Hrgce16 := Lib.hid ergc16
          have Hrgce17 := Lib.hid ergc17
          have Hrgce18 := Lib.hid ergc18
          have Hrgce19 := Lib.hid ergc19
          have Hrgce20 := Lib.hid ergc20
          have Hrgce21 := Lib.hid ergc21
          have Hrgce22 := Lib.hid ergc22
          have Hrgce23 := Lib.hid ergc23
          have Hrgce24 := Lib.hid ergc24
          have Hrgce25 := Lib.hid ergc25
          have Hrgce26 := Lib.hid ergc26
          clear krgc xrgc strgc crgc hCrgc hXrgc ergc0 ergc1 ergc2 ergc3 ergc4 ergc5 ergc6 ergc7 ergc8 ergc9 ergc10 ergc11 ergc12 ergc13 ergc14 ergc15 ergc16 ergc17 ergc18 ergc19 ergc20 ergc21 ergc22 ergc23 ergc24 ergc25 ergc26
          go_wp2_with fail
          refine Reg.regionF Ergc Crgc Xrgc Hrgcst.out (by kernel_rfl) (by kernel_rfl) (by kernel_rfl) Hrgcc.out (fun Frgc hFrgc => ?_)
          simp only [Reg.frame, Reg.dsts, List.map_cons, List.map_nil, Mix.put_lit, Reg.put_none, List.set_cons_succ, List.set_cons_zero, Array.getD, Nat.zero_add, Nat.reduceAdd] at hFrgc
          refine ⟨?_, ?_⟩
          · refine ⟨?_, ?_, ?_, ?_, ?_, ?_, ?_, ?_, ?_, ?_, ?_, ?_, ?_, ?_, ?_, ?_, ?_, ?_, ?_, ?_, ?_, ?_, ?_, ?_, ?_, ?_, ?_, trivial⟩
            · intro Lq wq xq hh
              simp only [hFrgc]
              refine .inl ⟨rfl, ?_⟩
              unfold Reg.upon
              have hc : Crgc Lq wq := hh.cls
              rw [HrgchC.out] at hc
              go_simp
              refine (ctext_any G D _ hc.1 HDl.out).mono ?_
              rintro e w2 ⟨v2, rfl, h1, hb⟩
              exact ⟨_, rfl, Hrgck.out 0 Lq w2 (Hrgcb.out Lq wq w2 hh.cls hb), (by rw [Hrgce0.out]; exact held_of_owns h1), Hrgcxb.out wq w2 hb⟩
            · intro Lq wq xq hh
              simp only [hFrgc]
              refine .inl ⟨rfl, ?_⟩
              unfold Reg.upon
              have hk := Hrgck.out 1 Lq wq  hh.cls
              have hx := Hrgcx.out wq
              have he : Ergc 1 (.slice ao xs.length ka) wq := by rw [Hrgce1.out]
              have HK := Lib.hid (And.intro hk (And.intro he hx))
              clear hk hx he
              go_simp
              exact HK.out
            · intro Lq wq xq hh
              simp only [hFrgc]
              refine .inl ⟨rfl, ?_⟩
              unfold Reg.upon
              have hk := Hrgck.out 2 Lq wq  hh.cls
              have hx := Hrgcx.out wq
              have he : Ergc 2 (.int .i64 na) wq := by rw [Hrgce2.out]
              have HK := Lib.hid (And.intro hk (And.intro he hx))
              clear hk hx he
              go_simp
              exact HK.out
            · intro Lq wq xq hh
              have d1 : Ergc 1 (xq 1) wq := hh.val 1 (by kernel_rfl) (by kernel_rfl)
              rw [Hrgce1.out] at d1
              have d2 : Ergc 2 (xq 2) wq := hh.val 2 (by kernel_rfl) (by kernel_rfl)
              rw [Hrgce2.out] at d2
              simp only [hFrgc, d1, d2]
              clear d1 d2
              refine .inl ⟨rfl, ?_⟩
              unfold Reg.upon
              have hk := Hrgck.out 3 Lq wq  hh.cls
              have hx := Hrgcx.out wq
              have he : Ergc 3 (.slice ao na ka) wq := by rw [Hrgce3.out]
              have HK := Lib.hid (And.intro hk (And.intro he hx))
              clear hk hx he
              go_simp
              exact HK.out
            · intro Lq wq xq hh
              have d0 : Ergc 0 (xq 0) wq := hh.val 0 (by kernel_rfl) (by kernel_rfl)
              rw [Hrgce0.out] at d0
              have d3 : Ergc 3 (xq 3) wq := hh.val 3 (by kernel_rfl) (by kernel_rfl)
              rw [Hrgce3.out] at d3
              simp only [hFrgc, d3]
              clear d3
              refine .inl ⟨rfl, ?_⟩
              unfold Reg.upon
              have hc : Crgc Lq wq := hh.cls
              rw [HrgchC.out] at hc
              have h2 := (take_held HA.out na HEA.out.1).below hc.2
              rw [HTN.out] at h2
              have hsm := same_any _ _ D D _ d0 h2 (by have := HDl.out; omega)
              rw [sameB_self] at hsm
              go_simp
              refine (hsm).mono ?_
              rintro e w2 ⟨rfl, hb⟩
              exact ⟨_, rfl, Hrgck.out 4 Lq w2  (Hrgcb.out Lq wq w2 hh.cls hb), (by rw [Hrgce4.out]; try rfl), Hrgcxb.out wq w2 hb⟩
            · intro Lq wq xq hh
              have d4 : Ergc 4 (xq 4) wq := hh.val 4 (by kernel_rfl) (by kernel_rfl)
              rw [Hrgce4.out] at d4
              simp only [hFrgc, d4]
              clear d4
              refine .inl ⟨rfl, ?_⟩
              unfold Reg.upon
              have hk := Hrgck.out 5 Lq wq  hh.cls
              have hx := Hrgcx.out wq
              have he : Ergc 5 (.bool true) wq := by rw [Hrgce5.out]
              have HK := Lib.hid (And.intro hk (And.intro he hx))
              clear hk hx he
              go_simp
              exact HK.out
            · intro Lq wq xq hh
              have d5 : Ergc 5 (xq 5) wq := hh.val 5 (by kernel_rfl) (by kernel_rfl)
              rw [Hrgce5.out] at d5
              simp only [hFrgc, d5]
              clear d5
              refine .inl ⟨rfl, ?_⟩
              unfold Reg.upon
              have hk := Hrgck.out 6 Lq wq  hh.cls
              have hx := Hrgcx.out wq
              have he : Ergc 6 (.pointer none) wq := by rw [Hrgce6.out]
              have HK := Lib.hid (And.intro hk (And.intro he hx))
              clear hk hx he
              go_simp
              exact HK.out
            · intro Lq wq xq hh
              have d5 : Ergc 5 (xq 5) wq := hh.val 5 (by kernel_rfl) (by kernel_rfl)
              rw [Hrgce5.out] at d5
              have d6 : Ergc 6 (xq 6) wq := hh.val 6 (by kernel_rfl) (by kernel_rfl)
              rw [Hrgce6.out] at d6
              simp only [hFrgc, d5, d6]
              clear d5 d6
              refine .inl ⟨rfl, ?_⟩
              unfold Reg.upon
              have hc : Crgc Lq wq := hh.cls
              rw [HrgchC.out] at hc
              go_simp
              refine (cadd_nil 5 _).mono ?_
              rintro e w2 ⟨rfl, rfl⟩
              exact ⟨_, rfl, Hrgck.out 7 Lq wq  hh.cls, (by rw [Hrgce7.out]; try rfl), Hrgcx.out _⟩
            · intro Lq wq xq hh
              have d5 : Ergc 5 (xq 5) wq := hh.val 5 (by kernel_rfl) (by kernel_rfl)
              rw [Hrgce5.out] at d5
              have d7 : Ergc 7 (xq 7) wq := hh.val 7 (by kernel_rfl) (by kernel_rfl)
              rw [Hrgce7.out] at d7
              simp only [hFrgc, d5, d7]
              clear d5 d7
              refine .inl ⟨rfl, ?_⟩
              unfold Reg.upon
              have hk := Hrgck.out 8 Lq wq  hh.cls
              have hx := Hrgcx.out wq
              have he : Ergc 8 (.bool true) wq := by rw [Hrgce8.out]
              have HK := Lib.hid (And.intro hk (And.intro he hx))
              clear hk hx he
              go_simp
              exact HK.out
            · intro Lq wq xq hh
              have d5 : Ergc 5 (xq 5) wq := hh.val 5 (by kernel_rfl) (by kernel_rfl)
              rw [Hrgce5.out] at d5
              have d8 : Ergc 8 (xq 8) wq := hh.val 8 (by kernel_rfl) (by kernel_rfl)
              rw [Hrgce8.out] at d8
              simp only [hFrgc, d5, d8]
              clear d5 d8
              refine .inl ⟨rfl, ?_⟩
              unfold Reg.upon
              have hk := Hrgck.out 9 Lq wq  hh.cls
              have hx := Hrgcx.out wq
              have he : Ergc 9 (.bool true) wq := by rw [Hrgce9.out]
              have HK := Lib.hid (And.intro hk (And.intro he hx))
              clear hk hx he
              go_simp
              exact HK.out
            · intro Lq wq xq hh
              have d9 : Ergc 9 (xq 9) wq := hh.val 9 (by kernel_rfl) (by kernel_rfl)
              rw [Hrgce9.out] at d9
              simp only [hFrgc, d9]
              clear d9
              refine .inl ⟨rfl, ?_⟩
              unfold Reg.upon
              have hk := Hrgck.out 10 Lq wq  hh.cls
              have hx := Hrgcx.out wq
              have he : Ergc 10 (.bool true) wq := by rw [Hrgce10.out]
              have HK := Lib.hid (And.intro hk (And.intro he hx))
              clear hk hx he
              go_simp
              exact HK.out
            · intro Lq wq xq hh
              have d10 : Ergc 10 (xq 10) wq := hh.val 10 (by kernel_rfl) (by kernel_rfl)
              rw [Hrgce10.out] at d10
              simp only [hFrgc, d10]
              clear d10
              refine .inl ⟨rfl, ?_⟩
              unfold Reg.upon
              have hk := Hrgck.out 11 Lq wq  hh.cls
              have hx := Hrgcx.out wq
              have he : Ergc 11 (.pointer none) wq := by rw [Hrgce11.out]
              have HK := Lib.hid (And.intro hk (And.intro he hx))
              clear hk hx he
              go_simp
              exact HK.out
            · intro Lq wq xq hh
              have d10 : Ergc 10 (xq 10) wq := hh.val 10 (by kernel_rfl) (by kernel_rfl)
              rw [Hrgce10.out] at d10
              have d11 : Ergc 11 (xq 11) wq := hh.val 11 (by kernel_rfl) (by kernel_rfl)
              rw [Hrgce11.out] at d11
              simp only [hFrgc, d10, d11]
              clear d10 d11
              refine .inl ⟨rfl, ?_⟩
              unfold Reg.upon
              have hc : Crgc Lq wq := hh.cls
              rw [HrgchC.out] at hc
              go_simp
              refine (clen_nil _).mono ?_
              rintro e w2 ⟨rfl, rfl⟩
              exact ⟨_, rfl, Hrgck.out 12 Lq wq  hh.cls, (by rw [Hrgce12.out]; try rfl), Hrgcx.out _⟩
            · intro Lq wq xq hh
              have d10 : Ergc 10 (xq 10) wq := hh.val 10 (by kernel_rfl) (by kernel_rfl)
              rw [Hrgce10.out] at d10
              have d12 : Ergc 12 (xq 12) wq := hh.val 12 (by kernel_rfl) (by kernel_rfl)
              rw [Hrgce12.out] at d12
              simp only [hFrgc, d10, d12]
              clear d10 d12
              refine .inl ⟨rfl, ?_⟩
              unfold Reg.upon
              have hk := Hrgck.out 13 Lq wq  hh.cls
              have hx := Hrgcx.out wq
              have he : Ergc 13 (.bool true) wq := by rw [Hrgce13.out]
              have HK := Lib.hid (And.intro hk (And.intro he hx))
              clear hk hx he
              go_simp
              exact HK.out
            · intro Lq wq xq hh
              have d10 : Ergc 10 (xq 10) wq := hh.val 10 (by kernel_rfl) (by kernel_rfl)
              rw [Hrgce10.out] at d10
              have d13 : Ergc 13 (xq 13) wq := hh.val 13 (by kernel_rfl) (by kernel_rfl)
              rw [Hrgce13.out] at d13
              simp only [hFrgc, d10, d13]
              clear d10 d13
              refine .inl ⟨rfl, ?_⟩
              unfold Reg.upon
              have hk := Hrgck.out 14 Lq wq  hh.cls
              have hx := Hrgcx.out wq
              have he : Ergc 14 (.bool true) wq := by rw [Hrgce14.out]
              have HK := Lib.hid (And.intro hk (And.intro he hx))
              clear hk hx he
              go_simp
              exact HK.out
            · intro Lq wq xq hh
              have d14 : Ergc 14 (xq 14) wq := hh.val 14 (by kernel_rfl) (by kernel_rfl)
              rw [Hrgce14.out] at d14
              simp only [hFrgc, d14]
              clear d14
              refine .inl ⟨rfl, ?_⟩
              unfold Reg.upon
              have hk := Hrgck.out 15 Lq wq  hh.cls
              have hx := Hrgcx.out wq
              have he : Ergc 15 (.bool true) wq := by rw [Hrgce15.out]
              have HK := Lib.hid (And.intro hk (And.intro he hx))
              clear hk hx he
              go_simp
              exact HK.out
            · intro Lq wq xq hh
              have d15 : Ergc 15 (xq 15) wq := hh.val 15 (by kernel_rfl) (by kernel_rfl)
              rw [Hrgce15.out] at d15
              simp only [hFrgc, d15]
              clear d15
              refine .inl ⟨rfl, ?_⟩
              unfold Reg.upon
              have hk := Hrgck.out 16 Lq wq  hh.cls
              have hx := Hrgcx.out wq
              have he : Ergc 16 (.pointer none) wq := by rw [Hrgce16.out]
              have HK := Lib.hid (And.intro hk (And.intro he hx))
              clear hk hx he
              go_simp
              exact HK.out
            · intro Lq wq xq hh
              have d15 : Ergc 15 (xq 15) wq := hh.val 15 (by kernel_rfl) (by kernel_rfl)
              rw [Hrgce15.out] at d15
              have d16 : Ergc 16 (xq 16) wq := hh.val 16 (by kernel_rfl) (by kernel_rfl)
              rw [Hrgce16.out] at d16
              simp only [hFrgc, d15, d16]
              clear d15 d16
              refine .inl ⟨rfl, ?_⟩
              unfold Reg.upon
              have hc : Crgc Lq wq := hh.cls
              rw [HrgchC.out] at hc
              go_simp
              refine (ctext_nil _).mono ?_
              rintro e w2 ⟨rfl, rfl⟩
              exact ⟨_, rfl, Hrgck.out 17 Lq wq  hh.cls, (by rw [Hrgce17.out]; try rfl), Hrgcx.out _⟩
            · intro Lq wq xq hh
              have d15 : Ergc 15 (xq 15) wq := hh.val 15 (by kernel_rfl) (by kernel_rfl)
              rw [Hrgce15.out] at d15
              have d17 : Ergc 17 (xq 17) wq := hh.val 17 (by kernel_rfl) (by kernel_rfl)
              rw [Hrgce17.out] at d17
              simp only [hFrgc, d15, d17]
              clear d15 d17
              refine .inl ⟨rfl, ?_⟩
              unfold Reg.upon
              have hk := Hrgck.out 18 Lq wq  hh.cls
              have hx := Hrgcx.out wq
              have he : Ergc 18 (.int .i64 0) wq := by rw [Hrgce18.out]
              have HK := Lib.hid (And.intro hk (And.intro he hx))
              clear hk hx he
              go_simp
              exact HK.out
            · intro Lq wq xq hh
              have d15 : Ergc 15 (xq 15) wq := hh.val 15 (by kernel_rfl) (by kernel_rfl)
              rw [Hrgce15.out] at d15
              have d18 : Ergc 18 (xq 18) wq := hh.val 18 (by kernel_rfl) (by kernel_rfl)
              rw [Hrgce18.out] at d18
              simp only [hFrgc, d15, d18]
              clear d15 d18
              refine .inl ⟨rfl, ?_⟩
              unfold Reg.upon
              have hk := Hrgck.out 19 Lq wq  hh.cls
              have hx := Hrgcx.out wq
              have he : Ergc 19 (.bool true) wq := by rw [Hrgce19.out]
              have HK := Lib.hid (And.intro hk (And.intro he hx))
              clear hk hx he
              go_simp
              exact HK.out
            · intro Lq wq xq hh
              have d15 : Ergc 15 (xq 15) wq := hh.val 15 (by kernel_rfl) (by kernel_rfl)
              rw [Hrgce15.out] at d15
              have d19 : Ergc 19 (xq 19) wq := hh.val 19 (by kernel_rfl) (by kernel_rfl)
              rw [Hrgce19.out] at d19
              simp only [hFrgc, d15, d19]
              clear d15 d19
              refine .inl ⟨rfl, ?_⟩
              unfold Reg.upon
              have hk := Hrgck.out 20 Lq wq  hh.cls
              have hx := Hrgcx.out wq
              have he : Ergc 20 (.bool true) wq := by rw [Hrgce20.out]
              have HK := Lib.hid (And.intro hk (And.intro he hx))
              clear hk hx he
              go_simp
              exact HK.out
            · intro Lq wq xq hh
              have d20 : Ergc 20 (xq 20) wq := hh.val 20 (by kernel_rfl) (by kernel_rfl)
              rw [Hrgce20.out] at d20
              simp only [hFrgc, d20]
              clear d20
              refine .inl ⟨rfl, ?_⟩
              unfold Reg.upon
              have hk := Hrgck.out 21 Lq wq  hh.cls
              have hx := Hrgcx.out wq
              have he : Ergc 21 (.bool true) wq := by rw [Hrgce21.out]
              have HK := Lib.hid (And.intro hk (And.intro he hx))
              clear hk hx he
              go_simp
              exact HK.out
            · intro Lq wq xq hh
              have d21 : Ergc 21 (xq 21) wq := hh.val 21 (by kernel_rfl) (by kernel_rfl)
              rw [Hrgce21.out] at d21
              simp only [hFrgc, d21]
              clear d21
              refine .inl ⟨rfl, ?_⟩
              unfold Reg.upon
              have hk := Hrgck.out 22 Lq wq  hh.cls
              have hx := Hrgcx.out wq
              have he : Ergc 22 (.pointer none) wq := by rw [Hrgce22.out]
              have HK := Lib.hid (And.intro hk (And.intro he hx))
              clear hk hx he
              go_simp
              exact HK.out
            · intro Lq wq xq hh
              have d21 : Ergc 21 (xq 21) wq := hh.val 21 (by kernel_rfl) (by kernel_rfl)
              rw [Hrgce21.out] at d21
              have d22 : Ergc 22 (xq 22) wq := hh.val 22 (by kernel_rfl) (by kernel_rfl)
              rw [Hrgce22.out] at d22
              simp only [hFrgc, d21, d22]
              clear d21 d22
              refine .inl ⟨rfl, ?_⟩
              unfold Reg.upon
              have hc : Crgc Lq wq := hh.cls
              rw [HrgchC.out] at hc
              go_simp
              refine (cfull_nil _).mono ?_
              rintro e w2 ⟨rfl, rfl⟩
              exact ⟨_, rfl, Hrgck.out 23 Lq wq  hh.cls, (by rw [Hrgce23.out]; try rfl), Hrgcx.out _⟩
            · intro Lq wq xq hh
              have d21 : Ergc 21 (xq 21) wq := hh.val 21 (by kernel_rfl) (by kernel_rfl)
              rw [Hrgce21.out] at d21
              have d23 : Ergc 23 (xq 23) wq := hh.val 23 (by kernel_rfl) (by kernel_rfl)
              rw [Hrgce23.out] at d23
              simp only [hFrgc, d21, d23]
              clear d21 d23
              refine .inl ⟨rfl, ?_⟩
              unfold Reg.upon
              have hk := Hrgck.out 24 Lq wq  hh.cls
              have hx := Hrgcx.out wq
              have he : Ergc 24 (.bool true) wq := by rw [Hrgce24.out]
              have HK := Lib.hid (And.intro hk (And.intro he hx))
              clear hk hx he
              go_simp
              exact HK.out
            · intro Lq wq xq hh
              have d21 : Ergc 21 (xq 21) wq := hh.val 21 (by kernel_rfl) (by kernel_rfl)
              rw [Hrgce21.out] at d21
              have d24 : Ergc 24 (xq 24) wq := hh.val 24 (by kernel_rfl) (by kernel_rfl)
              rw [Hrgce24.out] at d24
              simp only [hFrgc, d21, d24]
              clear d21 d24
              refine .inl ⟨rfl, ?_⟩
              unfold Reg.upon
              have hk := Hrgck.out 25 Lq wq  hh.cls
              have hx := Hrgcx.out wq
              have he : Ergc 25 (.bool true) wq := by rw [Hrgce25.out]
              have HK := Lib.hid (And.intro hk (And.intro he hx))
              clear hk hx he
              go_simp
              exact HK.out
            · intro Lq wq xq hh
              have d25 : Ergc 25 (xq 25) wq := hh.val 25 (by kernel_rfl) (by kernel_rfl)
              rw [Hrgce25.out] at d25
              simp only [hFrgc, d25]
              clear d25
              refine .inl ⟨rfl, ?_⟩
              unfold Reg.upon
              have hk := Hrgck.out 26 Lq wq  hh.cls
              have hx := Hrgcx.out wq
              have he : Ergc 26 (.bool true) wq := by rw [Hrgce26.out]
              have HK := Lib.hid (And.intro hk (And.intro he hx))
              clear hk hx he
              go_simp
              exact HK.out
          intro xq wrgc hcrgc hvrgc
          rw [HrgchC.out] at hcrgc
          simp only [hFrgc]
          have vrgc26 : Ergc 26 (xq 26) wrgc := hvrgc 26 (by decide)
          rw [Hrgce26.out] at vrgc26
          rw [vrgc26]
          clear hvrgc hFrgc Hrgck Hrgcx Hrgcst Hrgcc HrgchC HrgchX Hrgcb Hrgcxb Hrgce0 Hrgce1 Hrgce2 Hrgce3 Hrgce4 Hrgce5 Hrgce6 Hrgce7 Hrgce8 Hrgce9 Hrgce10 Hrgce11 Hrgce12 Hrgce13 Hrgce14 Hrgce15 Hrgce16 Hrgce17 Hrgce18 Hrgce19 Hrgce20 Hrgce21 Hrgce22 Hrgce23 Hrgce24 Hrgce25 Hrgce26
          have hb := hcrgc.2
          clear hcrgc
          go_wp2
          go_ret
          exact ⟨(ret_eq (by first | rfl | (simp <;> omega))), hb⟩
theorem na_of (a : List Int) : ∃ na, na ≤ a.length ∧ a.take 16 = a.take na ∧ ((16 ≤ a.length ∧ na = 16) ∨ (a.length < 16 ∧ na = a.length)) := by
  rcases Nat.lt_or_ge a.length 16 with h | h
  · exact ⟨a.length, Nat.le_refl _, by rw [List.take_of_length_le (by omega), List.take_of_length_le (Nat.le_refl _)], .inr ⟨h, rfl⟩⟩
  · exact ⟨16, h, rfl, .inl ⟨h, rfl⟩⟩
set_option maxRecDepth 100000 in
theorem walk {H : Type} {enc : TypeId × Value → H} (W : World) {base : Nat} (v : Value) {d : DataW H} {p : List MemPlace} (hv : Value.okWide Try.prog W .any base 29 v) (h : DataW.Trod enc Try.prog W 0 (fun _ => true) true 29 v d p) : Calls Try.prog 13 #[v] W (Yes W) := by
  obtain ⟨a, ha, ca, _⟩ := heldc_arg Try.underlying29 Try.underlying21 (by kernel_rfl) hv h
  obtain ⟨na, ea⟩ := na_of a
  rcases Nat.lt_or_ge 1000 a.length with hl | hla
  · obtain ⟨ao, ka, rfl, _⟩ := id ha.view
    clear hv h ha ca ea
    go_enter Try.func13, Try.ntmps13
    go_wp2_with fail
    refine (works20_any _).mono ?_
    rintro e w1 ⟨rfl, b1⟩
    go_wp2_with fail
    refine (works20_any _).mono ?_
    rintro e w2 ⟨rfl, b2⟩
    go_wp2
    go_ret
    exact ⟨(ret_eq (by first | rfl | (simp <;> omega))), b1.trans (b2.mono b1.size)⟩
  exact walkN W v a ha ca hla na ea

set_option maxRecDepth 100000 in
theorem lifted (os : Os) (started : os.Started) (H : Type) (enc : TypeId × Value → H) :
    ReturnsInHanded {} Try.checked os 13 .any (Rows.clusterKeepsSpec.pre6 enc Try.prog Try.f13 Rows.clusterKeepsRow.domain false) (Rows.clusterKeepsSpec.post enc Try.prog Try.f13 false true false false) := by
  refine law_frame_plain (C := Try.checked) (tb := 4) (by kernel_rfl) started (by kernel_rfl) Try.func13 (by kernel_rfl) (by kernel_rfl) Try.underlying4 rfl
    (by rw [Try.params13]; intro t ht; simp at ht; subst ht <;> exact ⟨by kernel_rfl, of_decide_eq_true (by kernel_rfl)⟩)
    (by rw [Try.params13]; intro ds hd; match ds, hd with | [_], _ => rfl)
    (ChangeSpec.witness6 (enc := enc) (C := Try.checked) false ⟨#[], #[.slice none 0 0], []⟩ 8 (by kernel_rfl) (by kernel_rfl) (by kernel_rfl) (by kernel_rfl)) ?_
  intro W base args ds before hval hA
  rw [Try.params13] at hA hval
  obtain ⟨v0, vs0, d0, ds0, p0, q0, hargs, rfl, rfl, h0, r0⟩ := trodAll_cons hA
  obtain ⟨rfl, rfl, rfl⟩ := trodAll_nil r0
  obtain rfl : args = #[v0] := by cases args; simp_all

  exact walk W v0 (hval 0 29 v0 rfl rfl) h0

theorem proved : Rows.ClusterKeepsSaid :=
  OpenClaim.holds_of_wide 13 Try.f13 rfl rfl rfl rfl rfl rfl rfl ⟨rfl, rfl, rfl, rfl, rfl⟩ rfl rfl rfl rfl rfl (by kernel_rfl) Try.func13 (by kernel_rfl)
    (of_decide_eq_true (by kernel_rfl)) (by unfold Func.isWrapper; first | (rw [if_pos (by decide +kernel)]; kernel_rfl) | (rw [if_neg (by decide +kernel)]; exact ⟨rfl, rfl⟩))
    (fun os started H enc _ => lifted os started H enc)
#print axioms proved

end Go.Proofs.Ytmfoldohmbaikaa.lawClusterKeeps
