/- WidenGrows, the walk of its law. -/
import Derived.Test.YtoeggiplcaegoaaGreatDoorMg11
import Derived.Test.YtoeggiplcaegoaaGreatDoorMg1
import Derived.Test.YtoeggiplcaegoaaGreatDoorMg7
import Derived.Test.YtoeggiplcaegoaaGreatDoorMg10
import Derived.Test.YtoeggiplcaegoaaGreatDoorRows
import Derived.Test.YtoeggiplcaegoaaGreatDoorCards
import Derived.Test.YtoeggiplcaegoaaGreatDoorTie
import Derived.ProofKit
import Derived.Lib.MinMax
namespace Go.Proofs.YtoeggiplcaegoaaGreatDoor.lawWidenGrows
open Go.ChangeShapes Go.WideShapes Go.ChangeAt Go.RowKit
def lenN : Value → Nat
  | .slice _ n _ => n
  | _ => 0
set_option maxRecDepth 100000 in
set_option maxHeartbeats 20000000 in
theorem walkH (W : World) (va vl vx : Value) (Ls : List Ln) (P Q : Int) (S au : Bool) (xs : List Int) (L0 : List Pr) (Z : Zone) (ha : HeldE lineE Z W va Ls) (hl : Held .i32 W vl xs) (hp : ∀ x ∈ xs, (Lit.int .i32 x).wf = true) (hx : HeldP W vx L0) (ka : CapW vl) (kb : CapW vx) : Calls Tryz.prog 3 #[.agg #[va, .int .i64 P, .int .i64 Q, .bool S, .bool au], vl, vx] W (Yes W) := by
  have HRR := Lib.hid (show ∀ i, i < xs.length → -2147483648 ≤ xs.getD i 0 ∧ xs.getD i 0 ≤ 2147483647 from fun i hi => bounds_i32 (hp _ (by simp [List.getD, List.getElem?_eq_getElem hi])))
  have hla := ha.max
  have ha := ha.lower
  obtain ⟨ao, ca, rfl⟩ := ha.len
  obtain ⟨lo, lc, rfl, hc⟩ := id hl.view
  obtain ⟨xo, xc, rfl, _⟩ := id hx
  have hca : xs.length ≤ lc := ka _ _ _ rfl
  obtain ⟨n, hn⟩ : ∃ n, n = Ls.length := ⟨_, rfl⟩
  obtain ⟨m, hm⟩ : ∃ m, m = xs.length := ⟨_, rfl⟩
  have HN := Lib.hid hn
  have HMM := Lib.hid hm
  have HCAP := Lib.hid hca
  have HCB := Lib.hid kb
  have HV0 := Lib.hid hx
  have HLL := Lib.hid hl
  have HC := Lib.hid hc
  rw [← hn] at ha hla ⊢
  rw [← hm] at ⊢
  have HA := Lib.hid ha
  have HWR := Lib.hid (show ∀ w', Below W.heap.size W w' → Calls Tryz.prog 11 #[.slice ao n ca] w' (WrongTold w' Ls) from fun w' h => rlwrong_any _ _ Ls w' (HA.out.below h))
  have hb0 := (Below.refl W.heap.size W).alloc (Nat.le_refl _) (.cells [Value.slice ao n ca, .int .i64 P, .int .i64 Q, .bool S, .bool au].toArray 26)
  have hn0 := Has.new W [Value.slice ao n ca, .int .i64 P, .int .i64 Q, .bool S, .bool au] 26
  obtain ⟨W0, hW0⟩ : ∃ W0, W0 = W.alloc (.cells [Value.slice ao n ca, .int .i64 P, .int .i64 Q, .bool S, .bool au].toArray 26) := ⟨_, rfl⟩
  rw [← hW0] at hb0 hn0
  have hW0' : W0 = W.alloc (.cells #[Value.slice ao n ca, .int .i64 P, .int .i64 Q, .bool S, .bool au] 26) := hW0
  obtain ⟨gx, hgx⟩ : ∃ gx, gx = W.heap.size := ⟨_, rfl⟩
  have HGX := Lib.hid hgx
  rw [← hgx] at hn0
  have HB0 := Lib.hid hb0
  have HX0 := Lib.hid hn0
  clear ha hl hx hc hca hp ka kb hn hm hb0 hn0 hW0 hgx
  go_enter Tryz.func3, Tryz.ntmps3
  go_upto_region 1 with (fail)
  rw [← hW0', ← HGX.out]
  clear hW0'
  have x0 := HX0.out.cell 0 _ rfl
  go_wp2_with fail
  refine (HWR.out W0 HB0.out).mono ?_
  rintro e w0 hq
  obtain ⟨at_, acc, rfl, hat, b0⟩ := hq.say
  clear hq
  have HA0 := Lib.hid hat
  have B2 := Lib.hid (HB0.out.trans (b0.mono HB0.out.size))
  have HX1 := Lib.hid (HX0.out.below b0 HX0.out.lt)
  clear b0 hat x0 HX0
  go_wp2_with fail
  refine (works35_any _).mono ?_
  rintro e w2 ⟨rfl, b2⟩
  have B3 := Lib.hid (B2.out.trans (b2.mono B2.out.size))
  have HX2 := Lib.hid (HX1.out.below b2 HX1.out.lt)
  have d1 := HX2.out.cell 0 _ rfl
  clear b2 HX1 B2
  by_cases h1 : 20 < n
  · have hd : decide ((20 : Int) < n) = true := by rw [decide_eq_true_eq]; omega
    have hdn : decide (20 < n) = true := by rw [decide_eq_true_eq]; omega
    go_wp2_with fail
    refine (works35_any _).mono ?_
    rintro e w3 ⟨rfl, b3⟩
    have BB := B3.out.trans (b3.mono B3.out.size)
    go_wp2
    go_ret
    exact ⟨(ret_eq (by first | rfl | (simp <;> omega))), BB⟩

  have hd20 : decide ((20 : Int) < n) = false := by rw [decide_eq_false_iff_not]; omega
  have hd20n : decide (20 < n) = false := by rw [decide_eq_false_iff_not]; omega
  by_cases h0 : n = 0
  · have hz : ((n : Int) == 0) = true := by rw [beq_iff_eq]; omega
    clear h0 h1
    go_wp2_with fail
    refine (works35_any _).mono ?_
    rintro e w3 ⟨rfl, b3⟩
    have BB := B3.out.trans (b3.mono B3.out.size)
    go_wp2
    go_ret
    exact ⟨(ret_eq (by first | rfl | (simp <;> omega))), BB⟩

  have hz : ((n : Int) == 0) = false := by rw [beq_eq_false_iff_ne]; omega
  by_cases hall : AllGood Ls
  rotate_left
  · have hge : decide ((0 : Int) ≤ at_) = true := by rw [decide_eq_true_eq]; rcases HA0.out with h | h; exact absurd h.1 hall; exact h.1
    go_wp2_with fail
    refine (works35_any _).mono ?_
    rintro e w3 ⟨rfl, b3⟩
    have BB := B3.out.trans (b3.mono B3.out.size)
    go_wp2
    go_ret
    exact ⟨(ret_eq (by first | rfl | (simp <;> omega))), BB⟩

  obtain rfl : at_ = -1 := by rcases HA0.out with h | h; exact h.2; exact absurd hall h.2
  by_cases h6 : 40 < m
  · have hd : decide ((40 : Int) < m) = true := by rw [decide_eq_true_eq]; omega
    have hdn : decide (40 < m) = true := by rw [decide_eq_true_eq]; omega
    go_wp2_with fail
    refine (works35_any _).mono ?_
    rintro e w3 ⟨rfl, b3⟩
    have BB := B3.out.trans (b3.mono B3.out.size)
    go_wp2
    go_ret
    exact ⟨(ret_eq (by first | rfl | (simp <;> omega))), BB⟩

  have hd40 : decide ((40 : Int) < m) = false := by rw [decide_eq_false_iff_not]; omega
  have hd40n : decide (40 < m) = false := by rw [decide_eq_false_iff_not]; omega
  by_cases h7 : m = 0
  · have hzm : ((m : Int) == 0) = true := by rw [beq_iff_eq]; omega
    clear h7 h6
    go_wp2_with fail
    refine (works35_any _).mono ?_
    rintro e w3 ⟨rfl, b3⟩
    have BB := B3.out.trans (b3.mono B3.out.size)
    go_wp2
    go_ret
    exact ⟨(ret_eq (by first | rfl | (simp <;> omega))), BB⟩

  have hzm : ((m : Int) == 0) = false := by rw [beq_eq_false_iff_ne]; omega
  have HM40 := Lib.hid (show 0 < m ∧ m ≤ 40 from by omega)
  have HN20 := Lib.hid (show 0 < n ∧ n ≤ 20 from by omega)
  have HALL := Lib.hid hall
  clear hall HA0 HWR h1 h0 h6 h7
  go_wp2
  go_loopw [2] (fun v wr => ∃ L : List Pr, HeldP wr v L ∧ CapW v ∧ Below w2.heap.size w2 wr) (fun v _ => m - lenN v)
  case atStart => exact ⟨L0, HV0.out.below B3.out, HCB.out, Below.refl _ _⟩
  case round =>
    obtain ⟨L, hL, hcp, hbw⟩ := hrel
    obtain ⟨po, pc, rfl, _⟩ := id hL
    have hpc : L.length ≤ pc := hcp _ _ _ rfl
    clear hcp d1
    have HL := Lib.hid hL
    clear hL
    by_cases hlt : L.length < m
    · have hltx : L.length < xs.length := by rw [← HMM.out]; exact hlt
      have hl40 : L.length < 40 := by have := HM40.out; omega
      obtain ⟨b, off, rfl, hb, hcx⟩ := HC.out L.length hltx
      have hcx := ((B3.out.trans (hbw.mono B3.out.size)).cell (p := ⟨b, off + L.length, none⟩) hb).trans hcx
      obtain ⟨r0, r1⟩ := HRR.out L.length hltx
      obtain ⟨r, hr⟩ : ∃ r, r = xs.getD L.length 0 := ⟨_, rfl⟩
      rw [← hr] at hcx r0 r1
      have hb0 : b < wr.heap.size := Nat.lt_of_lt_of_le hb (Nat.le_trans B3.out.size hbw.size)
      have HQ := Lib.hid (show ∀ w, Calls Tryz.prog 13 #[.int .i32 r] w (Gives w (.agg #[.int .i64 (knownPr r).br, .bool (knownPr r).pc, .int .i64 (knownPr r).cv, .int .i64 (knownPr r).ea])) from fun w => rucdof_any r w r0 r1)
      obtain ⟨q, hq⟩ : ∃ q, q = knownPr r := ⟨_, rfl⟩
      rw [← hq] at HQ
      have HX := Lib.hid hcx
      clear hq hr r0 r1 hcx hltx
      obtain ⟨Erg, hErg⟩ : ∃ EE : Nat → Value → World → Prop, EE = fun jj xx ww => match jj with
          | 0 => (fun x w => ∃ g, x = .slice (some ⟨g, 0, none⟩) 0 0 ∧ w.ownsRow wr.heap.size 33 4 (.slice (some ⟨g, 0, none⟩) 0 0) 0 []) xx ww
          | 1 => xx = .slice po L.length pc
          | 2 => (fun x w => w.ownsRow wr.heap.size 33 4 x L.length (prsCells L)) xx ww
          | 3 => xx = .slice (some ⟨b, off, none⟩) m lc
          | 4 => xx = .slice po L.length pc
          | 5 => xx = .int .i64 L.length
          | 6 => xx = .pointer (some ⟨b, off + L.length, none⟩)
          | 7 => xx = .int .i32 r
          | 8 => xx = .agg #[.int .i64 q.br, .bool q.pc, .int .i64 q.cv, .int .i64 q.ea]
          | 9 => (fun x w => ∃ g, x = .slice (some ⟨g, 0, none⟩) 1 1 ∧ w.ownsRow wr.heap.size 33 4 (.slice (some ⟨g, 0, none⟩) 1 1) 1 (prsCells [q])) xx ww
          | 10 => (fun x w => w.ownsRow wr.heap.size 33 4 x (L.length + 1) (prsCells L ++ prsCells [q])) xx ww
          | 11 => (fun x w => w.ownsRow wr.heap.size 33 4 x (L.length + 1) (prsCells L ++ prsCells [q])) xx ww
          | _ => True := ⟨_, rfl⟩
      have erg0 : ∀ xx ww, Erg 0 xx ww = ((fun x w => ∃ g, x = .slice (some ⟨g, 0, none⟩) 0 0 ∧ w.ownsRow wr.heap.size 33 4 (.slice (some ⟨g, 0, none⟩) 0 0) 0 []) xx ww) := fun xx ww => congrFun (congrFun (congrFun hErg 0) xx) ww
      have erg1 : ∀ xx ww, Erg 1 xx ww = (xx = .slice po L.length pc) := fun xx ww => congrFun (congrFun (congrFun hErg 1) xx) ww
      have erg2 : ∀ xx ww, Erg 2 xx ww = ((fun x w => w.ownsRow wr.heap.size 33 4 x L.length (prsCells L)) xx ww) := fun xx ww => congrFun (congrFun (congrFun hErg 2) xx) ww
      have erg3 : ∀ xx ww, Erg 3 xx ww = (xx = .slice (some ⟨b, off, none⟩) m lc) := fun xx ww => congrFun (congrFun (congrFun hErg 3) xx) ww
      have erg4 : ∀ xx ww, Erg 4 xx ww = (xx = .slice po L.length pc) := fun xx ww => congrFun (congrFun (congrFun hErg 4) xx) ww
      have erg5 : ∀ xx ww, Erg 5 xx ww = (xx = .int .i64 L.length) := fun xx ww => congrFun (congrFun (congrFun hErg 5) xx) ww
      have erg6 : ∀ xx ww, Erg 6 xx ww = (xx = .pointer (some ⟨b, off + L.length, none⟩)) := fun xx ww => congrFun (congrFun (congrFun hErg 6) xx) ww
      have erg7 : ∀ xx ww, Erg 7 xx ww = (xx = .int .i32 r) := fun xx ww => congrFun (congrFun (congrFun hErg 7) xx) ww
      have erg8 : ∀ xx ww, Erg 8 xx ww = (xx = .agg #[.int .i64 q.br, .bool q.pc, .int .i64 q.cv, .int .i64 q.ea]) := fun xx ww => congrFun (congrFun (congrFun hErg 8) xx) ww
      have erg9 : ∀ xx ww, Erg 9 xx ww = ((fun x w => ∃ g, x = .slice (some ⟨g, 0, none⟩) 1 1 ∧ w.ownsRow wr.heap.size 33 4 (.slice (some ⟨g, 0, none⟩) 1 1) 1 (prsCells [q])) xx ww) := fun xx ww => congrFun (congrFun (congrFun hErg 9) xx) ww
      have erg10 : ∀ xx ww, Erg 10 xx ww = ((fun x w => w.ownsRow wr.heap.size 33 4 x (L.length + 1) (prsCells L ++ prsCells [q])) xx ww) := fun xx ww => congrFun (congrFun (congrFun hErg 10) xx) ww
      have erg11 : ∀ xx ww, Erg 11 xx ww = ((fun x w => w.ownsRow wr.heap.size 33 4 x (L.length + 1) (prsCells L ++ prsCells [q])) xx ww) := fun xx ww => congrFun (congrFun (congrFun hErg 11) xx) ww
      obtain ⟨Crg, hCrg⟩ : ∃ CC : Array Bool → World → Prop, CC = fun L8 w' => Below wr.heap.size wr w' := ⟨_, rfl⟩
      have krg : ∀ i L w,  Crg L w → Crg (L.setIfInBounds i true) w := by
        intro i L w  h
        rw [hCrg] at h ⊢
        exact h
      obtain ⟨Xrg, hXrg⟩ : ∃ XX : World → World → Prop, XX = fun w w1 => Kept w w1 wr.heap.size 33 4 (prsCells L ++ prsCells [q]) (prsCells [q]) 1 := ⟨_, rfl⟩
      have xrg : ∀ w, Xrg w w := fun w => by rw [hXrg]; exact Kept.refl _ _ _ _ _ _ _
      have strg : ∀ j x w w1, Xrg w w1 → Erg j x w → Erg j x w1 := by
        intro j x w w1 hx h
        rw [hXrg] at hx
        match j with
        | 0 => rw [erg0] at h ⊢; (first | exact hx.1 _ _ _ h (List.prefix_append _ _) | exact hx.1 _ _ _ h (List.prefix_refl _) | (obtain ⟨g, e, h⟩ := h; exact ⟨g, e, hx.1 _ _ _ h (List.nil_prefix)⟩) | (obtain ⟨g, e, h⟩ := h; exact ⟨g, e, hx.2 _ h⟩))
        | 1 => rw [erg1] at h ⊢; exact h
        | 2 => rw [erg2] at h ⊢; (first | exact hx.1 _ _ _ h (List.prefix_append _ _) | exact hx.1 _ _ _ h (List.prefix_refl _) | (obtain ⟨g, e, h⟩ := h; exact ⟨g, e, hx.1 _ _ _ h (List.nil_prefix)⟩) | (obtain ⟨g, e, h⟩ := h; exact ⟨g, e, hx.2 _ h⟩))
        | 3 => rw [erg3] at h ⊢; exact h
        | 4 => rw [erg4] at h ⊢; exact h
        | 5 => rw [erg5] at h ⊢; exact h
        | 6 => rw [erg6] at h ⊢; exact h
        | 7 => rw [erg7] at h ⊢; exact h
        | 8 => rw [erg8] at h ⊢; exact h
        | 9 => rw [erg9] at h ⊢; (first | exact hx.1 _ _ _ h (List.prefix_append _ _) | exact hx.1 _ _ _ h (List.prefix_refl _) | (obtain ⟨g, e, h⟩ := h; exact ⟨g, e, hx.1 _ _ _ h (List.nil_prefix)⟩) | (obtain ⟨g, e, h⟩ := h; exact ⟨g, e, hx.2 _ h⟩))
        | 10 => rw [erg10] at h ⊢; (first | exact hx.1 _ _ _ h (List.prefix_append _ _) | exact hx.1 _ _ _ h (List.prefix_refl _) | (obtain ⟨g, e, h⟩ := h; exact ⟨g, e, hx.1 _ _ _ h (List.nil_prefix)⟩) | (obtain ⟨g, e, h⟩ := h; exact ⟨g, e, hx.2 _ h⟩))
        | 11 => rw [erg11] at h ⊢; (first | exact hx.1 _ _ _ h (List.prefix_append _ _) | exact hx.1 _ _ _ h (List.prefix_refl _) | (obtain ⟨g, e, h⟩ := h; exact ⟨g, e, hx.1 _ _ _ h (List.nil_prefix)⟩) | (obtain ⟨g, e, h⟩ := h; exact ⟨g, e, hx.2 _ h⟩))
        | j + 12 => rw [hErg]; trivial
      have crg : Crg (Array.replicate 12 false) wr.drew := by rw [hCrg]; exact (Below.refl _ _).drew
      have brg : ∀ L w w1, Crg L w → Below w.heap.size w w1 → Crg L w1 := by
        intro L w w1 h hb
        rw [hCrg] at h ⊢
        exact h.trans (hb.mono h.size)
      have xbrg : ∀ w w1, Below w.heap.size w w1 → Xrg w w1 := by
        intro w w1 hb
        rw [hXrg]
        exact Kept.below hb _ _ _ _ _ _
      have Hrgb := Lib.hid brg
      have Hrgxb := Lib.hid xbrg
      clear brg xbrg
      clear hErg
      have Hrgk := Lib.hid krg
      have Hrgx := Lib.hid xrg
      have Hrgst := Lib.hid strg
      have Hrgc := Lib.hid crg
      have HrghC := Lib.hid hCrg
      have HrghX := Lib.hid hXrg
      have Hrge0 := Lib.hid erg0
      have Hrge1 := Lib.hid erg1
      have Hrge2 := Lib.hid erg2
      have Hrge3 := Lib.hid erg3
      have Hrge4 := Lib.hid erg4
      have Hrge5 := Lib.hid erg5
      have Hrge6 := Lib.hid erg6
      have Hrge7 := Lib.hid erg7
      have Hrge8 := Lib.hid erg8
      have Hrge9 := Lib.hid erg9
      have Hrge10 := Lib.hid erg10
      have Hrge11 := Lib.hid erg11
      clear krg xrg strg crg hCrg hXrg erg0 erg1 erg2 erg3 erg4 erg5 erg6 erg7 erg8 erg9 erg10 erg11
      go_wp2_with fail
      refine Reg.regionF Erg Crg Xrg Hrgst.out (by kernel_rfl) (by kernel_rfl) (by kernel_rfl) Hrgc.out (fun Frg hFrg => ?_)
      simp only [Reg.frame, Reg.dsts, List.map_cons, List.map_nil, Mix.put_lit, List.set_cons_succ, List.set_cons_zero, Nat.zero_add, Nat.reduceAdd] at hFrg
      refine ⟨?_, ?_⟩
      · refine ⟨?_, ?_, ?_, ?_, ?_, ?_, ?_, ?_, ?_, ?_, ?_, ?_, trivial⟩
        · intro Lq wq xq hh
          simp only [hFrg]
          refine .inl ⟨rfl, ?_⟩
          unfold Reg.upon
          go_simp
          have hb1 := (Below.refl wq.heap.size wq).alloc (Nat.le_refl _) (.cells #[] 33)
          refine ⟨Hrgk.out 0 Lq _ (Hrgb.out Lq wq _ hh.cls hb1), ?_, Hrgxb.out wq _ hb1⟩
          rw [Hrge0.out]
          exact ⟨_, rfl, World.ownsRow_lit wq #[] 0 (by have hc : Crg Lq wq := hh.cls; rw [HrghC.out] at hc; exact hc.size) (by decide) rfl⟩
        · intro Lq wq xq hh
          have d11 := hh.old 11 (by kernel_rfl)
          simp only [hFrg, d11]
          clear d11
          refine .inl ⟨rfl, ?_⟩
          unfold Reg.upon
          have hk := Hrgk.out 1 Lq wq  hh.cls
          have hx := Hrgx.out wq
          have he : Erg 1 (.slice po L.length pc) wq := by rw [Hrge1.out]
          have HK := Lib.hid (And.intro hk (And.intro he hx))
          clear hk hx he
          go_simp
          exact HK.out
        · intro Lq wq xq hh
          have d0 : Erg 0 (xq 0) wq := hh.val 0 (by kernel_rfl) (by kernel_rfl)
          rw [Hrge0.out] at d0
          have d1 : Erg 1 (xq 1) wq := hh.val 1 (by kernel_rfl) (by kernel_rfl)
          rw [Hrge1.out] at d1
          simp only [hFrg, d1]
          clear d1
          refine .inl ⟨rfl, ?_⟩
          unfold Reg.upon
          obtain ⟨g, e0, h0⟩ := d0
          rw [e0]
          have hc : Crg Lq wq := hh.cls
          rw [HrghC.out] at hc
          obtain ⟨v', w', hr, h2, hb1⟩ := prs_copy wq _ 28 g h0 _ L (HL.out.below hc) (by omega) hc.size
          rw [exec_append rfl rfl rfl hr]
          refine ⟨Hrgk.out 2 Lq _ (Hrgb.out Lq wq _ hh.cls hb1), ?_, Hrgxb.out wq _ hb1⟩
          rw [Hrge2.out]
          exact h2
        · intro Lq wq xq hh
          simp only [hFrg]
          refine .inl ⟨rfl, ?_⟩
          unfold Reg.upon
          have hk := Hrgk.out 3 Lq wq  hh.cls
          have hx := Hrgx.out wq
          have he : Erg 3 (.slice (some ⟨b, off, none⟩) m lc) wq := by rw [Hrge3.out]
          have HK := Lib.hid (And.intro hk (And.intro he hx))
          clear hk hx he
          go_simp
          exact HK.out
        · intro Lq wq xq hh
          have d11 := hh.old 11 (by kernel_rfl)
          simp only [hFrg, d11]
          clear d11
          refine .inl ⟨rfl, ?_⟩
          unfold Reg.upon
          have hk := Hrgk.out 4 Lq wq  hh.cls
          have hx := Hrgx.out wq
          have he : Erg 4 (.slice po L.length pc) wq := by rw [Hrge4.out]
          have HK := Lib.hid (And.intro hk (And.intro he hx))
          clear hk hx he
          go_simp
          exact HK.out
        · intro Lq wq xq hh
          have d4 : Erg 4 (xq 4) wq := hh.val 4 (by kernel_rfl) (by kernel_rfl)
          rw [Hrge4.out] at d4
          simp only [hFrg, d4]
          clear d4
          refine .inl ⟨rfl, ?_⟩
          unfold Reg.upon
          have hk := Hrgk.out 5 Lq wq  hh.cls
          have hx := Hrgx.out wq
          have he : Erg 5 (.int .i64 L.length) wq := by rw [Hrge5.out]
          have HK := Lib.hid (And.intro hk (And.intro he hx))
          clear hk hx he
          go_simp
          exact HK.out
        · intro Lq wq xq hh
          have d3 : Erg 3 (xq 3) wq := hh.val 3 (by kernel_rfl) (by kernel_rfl)
          rw [Hrge3.out] at d3
          have d5 : Erg 5 (xq 5) wq := hh.val 5 (by kernel_rfl) (by kernel_rfl)
          rw [Hrge5.out] at d5
          simp only [hFrg, d3, d5]
          clear d3 d5
          refine .inl ⟨rfl, ?_⟩
          unfold Reg.upon
          have hk := Hrgk.out 6 Lq wq  hh.cls
          have hx := Hrgx.out wq
          have he : Erg 6 (.pointer (some ⟨b, off + L.length, none⟩)) wq := by rw [Hrge6.out]
          have HK := Lib.hid (And.intro hk (And.intro he hx))
          clear hk hx he
          go_simp
          exact HK.out
        · intro Lq wq xq hh
          have d6 : Erg 6 (xq 6) wq := hh.val 6 (by kernel_rfl) (by kernel_rfl)
          rw [Hrge6.out] at d6
          simp only [hFrg, d6]
          clear d6
          refine .inl ⟨rfl, ?_⟩
          unfold Reg.upon
          have hc : Crg Lq wq := hh.cls
          rw [HrghC.out] at hc
          have hcell := (hc.cell (p := ⟨b, off + L.length, none⟩) hb0).trans HX.out
          clear hc
          have hk := Hrgk.out 7 Lq wq  hh.cls
          have hx := Hrgx.out wq
          have he : Erg 7 (.int .i32 r) wq := by rw [Hrge7.out]
          have HK := Lib.hid (And.intro hk (And.intro he hx))
          clear hk hx he
          go_simp
          exact HK.out
        · intro Lq wq xq hh
          have d7 : Erg 7 (xq 7) wq := hh.val 7 (by kernel_rfl) (by kernel_rfl)
          rw [Hrge7.out] at d7
          simp only [hFrg, d7]
          clear d7
          refine .inl ⟨rfl, ?_⟩
          unfold Reg.upon
          have hc : Crg Lq wq := hh.cls
          rw [HrghC.out] at hc
          go_simp
          refine (HQ.out _).mono ?_
          rintro e w2 ⟨rfl, hb⟩
          exact ⟨_, rfl, Hrgk.out 8 Lq w2  (Hrgb.out Lq wq w2 hh.cls hb), (by rw [Hrge8.out]; try rfl), Hrgxb.out wq w2 hb⟩
        · intro Lq wq xq hh
          have d8 : Erg 8 (xq 8) wq := hh.val 8 (by kernel_rfl) (by kernel_rfl)
          rw [Hrge8.out] at d8
          simp only [hFrg, d8]
          clear d8
          refine .inl ⟨rfl, ?_⟩
          unfold Reg.upon
          go_simp
          have hb1 := (Below.refl wq.heap.size wq).alloc (Nat.le_refl _) (.cells #[.int .i64 q.br, .bool q.pc, .int .i64 q.cv, .int .i64 q.ea] 33)
          refine ⟨Hrgk.out 9 Lq _ (Hrgb.out Lq wq _ hh.cls hb1), ?_, Hrgxb.out wq _ hb1⟩
          rw [Hrge9.out]
          exact ⟨_, rfl, World.ownsRow_lit wq #[.int .i64 q.br, .bool q.pc, .int .i64 q.cv, .int .i64 q.ea] 1 (by have hc : Crg Lq wq := hh.cls; rw [HrghC.out] at hc; exact hc.size) (by decide) rfl⟩
        · intro Lq wq xq hh
          have d2 : Erg 2 (xq 2) wq := hh.val 2 (by kernel_rfl) (by kernel_rfl)
          rw [Hrge2.out] at d2
          have d9 : Erg 9 (xq 9) wq := hh.val 9 (by kernel_rfl) (by kernel_rfl)
          rw [Hrge9.out] at d9
          simp only [hFrg]
          refine .inl ⟨rfl, ?_⟩
          unfold Reg.upon
          obtain ⟨g, e9, h9⟩ := d9
          rw [e9]
          have hc : Crg Lq wq := hh.cls
          rw [HrghC.out] at hc
          obtain ⟨v', w', hr, h2, hb1, hk⟩ := prs_append wq _ 28 _ _ _ d2 g 1 [q] (heldP_of_owns h9) (by simp; omega) hc.size
          rw [exec_append rfl rfl rfl hr]
          refine ⟨Hrgk.out 10 Lq _ (by rw [HrghC.out]; exact hc.trans hb1), ?_, by rw [HrghX.out]; exact hk⟩
          rw [Hrge10.out]
          exact h2
        · intro Lq wq xq hh
          have d10 : Erg 10 (xq 10) wq := hh.val 10 (by kernel_rfl) (by kernel_rfl)
          rw [Hrge10.out] at d10
          simp only [hFrg]
          refine .inl ⟨rfl, ?_⟩
          unfold Reg.upon
          go_simp
          exact ⟨Hrgk.out 11 Lq wq hh.cls, (by rw [Hrge11.out]; exact d10), Hrgx.out wq⟩
      intro xq wrg hcrg hvrg
      rw [HrghC.out] at hcrg
      simp only [hFrg]
      have vrg11 : Erg 11 (xq 11) wrg := hvrg 11 (by decide)
      rw [Hrge11.out] at vrg11
      clear hvrg hFrg Hrgk Hrgx Hrgst Hrgc HrghC HrghX Hrgb Hrgxb Hrge0 Hrge1 Hrge2 Hrge3 Hrge4 Hrge5 Hrge6 Hrge7 Hrge8 Hrge9 Hrge10 Hrge11
      have hp2 : HeldP wrg (xq 11) (L ++ [q]) := heldP_of_owns (by rw [show prsCells (L ++ [q]) = prsCells L ++ prsCells [q] from by simp [prsCells]]; exact vrg11)
      have hbw2 := hbw.trans (hcrg.mono hbw.size)
      have hc2 := own_capW vrg11
      clear vrg11 hcrg
      obtain ⟨po2, pc2, e11, _⟩ := id hp2
      rw [e11] at hp2 hc2 ⊢
      have HC2 := Lib.hid hc2
      clear hc2
      have HP2 := Lib.hid hp2
      have HB2 := Lib.hid hbw2
      clear hp2 hbw2 hbw e11
      go_wp2
      go_roundw
      case rel => exact ⟨_, HP2.out, HC2.out, HB2.out⟩
      case measure => simp [lenN] <;> omega
    · obtain ⟨w1, hw1⟩ : ∃ w1, w1 = wr := ⟨_, rfl⟩
      subst hw1
      have HPL := Lib.hid (show m ≤ L.length ∧ L.length ≤ pc from by omega)
      have B4 := Lib.hid hbw
      have BW1 := Lib.hid (B3.out.trans (hbw.mono B3.out.size))
      have HX3 := Lib.hid (HX2.out.below hbw HX2.out.lt)
      obtain ⟨pn, hpn⟩ : ∃ pn, pn = L.length := ⟨_, rfl⟩
      have HPN := Lib.hid hpn
      have hgt : decide ((pn : Int) < (m : Int)) = false := by rw [decide_eq_false_iff_not]; omega
      have hgtn : decide (pn < m) = false := by rw [decide_eq_false_iff_not]; omega
      rw [← hpn]
      have x1 := HX3.out.cell 0 _ rfl
      have hg := gof_good _ _ Ls w1 HALL.out (HA.out.below BW1.out) (by rw [← HN.out]; have := HN20.out; omega) (by rw [← HN.out]; have := HN20.out; omega)
      have HG := Lib.hid hg
      clear hg hpn hlt hbw
      go_wp2_with fail
      refine HG.out.mono ?_
      rintro e w3 ⟨gg, gr, Rs, rfl, hg3, hm3, b3⟩
      clear x1
      have hb4 := (Below.refl w3.heap.size w3).alloc (Nat.le_refl _) (.cells [Value.pointer (some ⟨gg, 0, none⟩), .int .i64 P, .int .i64 Q, .bool S, .bool au].toArray 42)
      have hn4 := Has.new w3 [Value.pointer (some ⟨gg, 0, none⟩), .int .i64 P, .int .i64 Q, .bool S, .bool au] 42
      obtain ⟨W4, hW4⟩ : ∃ W4, W4 = w3.alloc (.cells [Value.pointer (some ⟨gg, 0, none⟩), .int .i64 P, .int .i64 Q, .bool S, .bool au].toArray 42) := ⟨_, rfl⟩
      rw [← hW4] at hb4 hn4
      obtain ⟨gp, hgp⟩ : ∃ gp, gp = w3.heap.size := ⟨_, rfl⟩
      rw [← hgp] at hn4
      obtain ⟨wd, hwd⟩ : ∃ wd, wd = firstN Ls := ⟨_, rfl⟩
      rw [← hwd] at hg3
      obtain ⟨BP, hBP⟩ : ∃ BP, BP = w1.heap.size := ⟨_, rfl⟩
      have hpa : PenAt W4 BP gp gg gr wd Rs Ls P Q S au := ⟨hn4, by rw [hBP, hgp]; exact b3.size, by rw [hBP]; exact hg3.below hb4, hm3⟩
      have HW4 := Lib.hid (show W4 = w3.alloc (.cells #[Value.pointer (some ⟨gg, 0, none⟩), .int .i64 P, .int .i64 Q, .bool S, .bool au] 42) from hW4)
      have HGP := Lib.hid hgp
      have HBP := Lib.hid hBP
      have HX4 := Lib.hid ((HX3.out.below b3 HX3.out.lt).below hb4 (Nat.lt_of_lt_of_le HX3.out.lt b3.size))
      have b14 := b3.trans (hb4.mono b3.size)
      have h73 := HX3.out.below b3 HX3.out.lt
      have z1 := h73.cell 1 _ rfl
      have z2 := h73.cell 2 _ rfl
      have z3 := h73.cell 3 _ rfl
      have z4 := h73.cell 4 _ rfl
      have hb6 := (Below.refl W4.heap.size W4).alloc (Nat.le_refl _) (.cells [Value.slice ao n ca, .int .i64 P, .int .i64 Q, .bool S, .bool au].toArray 43)
      have hn6 := Has.new W4 [Value.slice ao n ca, .int .i64 P, .int .i64 Q, .bool S, .bool au] 43
      obtain ⟨W6, hW6⟩ : ∃ W6, W6 = W4.alloc (.cells [Value.slice ao n ca, .int .i64 P, .int .i64 Q, .bool S, .bool au].toArray 43) := ⟨_, rfl⟩
      rw [← hW6] at hb6 hn6
      obtain ⟨b8, hb8⟩ : ∃ b8, b8 = W4.heap.size := ⟨_, rfl⟩
      rw [← hb8] at hn6
      have HW6 := Lib.hid (show W6 = W4.alloc (.cells #[Value.slice ao n ca, .int .i64 P, .int .i64 Q, .bool S, .bool au] 43) from hW6)
      have HB8 := Lib.hid hb8
      have hp6 := hpa.below hb6
      have hs := hp6.sizes
      obtain ⟨r2, hr2, hlr⟩ := in_nat P hs.1 hs.2.1
      obtain ⟨c2, hc2, hlc⟩ := in_nat Q hs.2.2.1 hs.2.2.2.1
      obtain ⟨pd2, hpd⟩ : ∃ pd2, holdP Q S wd = pd2 := ⟨_, rfl⟩
      have HEV := Lib.hid (show Even Ls wd from ⟨hs.1, by rw [← HN.out]; have := HN20.out; omega, hs.2.2.1, hs.2.2.2.1, hs.2.2.2.2.2⟩)
      have HP6 := Lib.hid hp6
      have HBX6 := Lib.hid hn6
      have B6 := Lib.hid (b14.trans (hb6.mono b14.size))
      have HR2 := Lib.hid (And.intro hr2 (And.intro hc2 hpd))
      have HLR := Lib.hid hlr
      have HLC := Lib.hid hlc
      clear hb6 hn6 hW6 hb8 hpa hW4 hgp hwd hBP hb4 hn4 hg3 hm3 b3 h73 HG hp6 hs hr2 hc2 hlr hlc hpd b14
      go_upto_region 10 with (fail)
      rw [← HW4.out, ← HGP.out]
      clear z1 z2 z3 z4
      have y0 := HX4.out.cell 0 _ rfl
      have y1 := HX4.out.cell 1 _ rfl
      have y2 := HX4.out.cell 2 _ rfl
      have y3 := HX4.out.cell 3 _ rfl
      have y4 := HX4.out.cell 4 _ rfl
      go_upto_region 11 with (fail)
      rw [← HW6.out, ← HB8.out]
      clear y0 y1 y2 y3 y4 HX4 HX3 HX2 HW4 HW6 HGP HB8
      obtain ⟨bx, hbx⟩ : ∃ bx : List Value, bx = [.slice ao n ca, .int .i64 P, .int .i64 Q, .bool S, .bool au] := ⟨_, rfl⟩
      rw [← hbx] at HBX6
      have HBX := Lib.hid hbx
      clear hbx
      -- the numbers and their properties, wherever the program is
      have HXS := Lib.hid (show ∀ i, i < m → ∃ b off x, lo = some ⟨b, off, none⟩ ∧ b < W.heap.size ∧ x = xs.getD i 0 ∧ ∀ w', Below w1.heap.size w1 w' → w'.cell? ⟨b, off + i, none⟩ = some (.int .i32 x) from fun i hi => by
        obtain ⟨b, off, e, hb, hcx⟩ := HC.out i (by rw [← HMM.out]; exact hi)
        exact ⟨b, off, _, e, hb, rfl, fun w' h => ((BW1.out.trans (h.mono BW1.out.size)).cell (p := ⟨b, off + i, none⟩) hb).trans hcx⟩)
      have HPS := Lib.hid (show ∀ i, i < m → ∃ b off q, po = some ⟨b, off, none⟩ ∧ b < w1.heap.size ∧ q = L.getD i Pr.none ∧ ∀ w', Below w1.heap.size w1 w' → w'.cell? ⟨b, off + i * 4, none⟩ = some (.int .i64 q.br) ∧ w'.cell? ⟨b, off + i * 4 + 1, none⟩ = some (.bool q.pc) ∧ w'.cell? ⟨b, off + i * 4 + 2, none⟩ = some (.int .i64 q.cv) ∧ w'.cell? ⟨b, off + i * 4 + 3, none⟩ = some (.int .i64 q.ea) from fun i hi => by
        obtain ⟨b, off, e, hb, d0, d1, d2, d3⟩ := HL.out.at.2 i (by have := HPL.out; omega)
        exact ⟨b, off, _, e, hb, rfl, fun w' h => ⟨(h.cell (p := ⟨b, off + i * 4, none⟩) hb).trans d0, (h.cell (p := ⟨b, off + i * 4 + 1, none⟩) hb).trans d1, (h.cell (p := ⟨b, off + i * 4 + 2, none⟩) hb).trans d2, (h.cell (p := ⟨b, off + i * 4 + 3, none⟩) hb).trans d3⟩⟩)
      have HXM := Lib.hid (show m ≤ pn ∧ m ≤ lc ∧ pn ≤ pc from ⟨by rw [HPN.out]; exact HPL.out.1, by rw [HMM.out]; exact HCAP.out, by rw [HPN.out]; exact HPL.out.2⟩)
      obtain ⟨bl, ol, x0, rfl, hbl, hx0, hcl⟩ := HXS.out 0 HM40.out.1
      obtain ⟨bp, op, q0, rfl, hbp, hq0, hcp⟩ := HPS.out 0 HM40.out.1
      have HBG := Lib.hid (show ∀ w', Below W6.heap.size W6 w' → Calls Tryz.prog 15 #[.pointer (some ⟨gp, 0, none⟩), .int .i32 x0, .agg #[.int .i64 q0.br, .bool q0.pc, .int .i64 q0.cv, .int .i64 q0.ea]] w' (fun e w2 => ∃ g, e = .returned (.pointer (some ⟨g, 0, none⟩)) ∧ LoopAt w1 BP gp gg gr wd b8 Ls r2 c2 pd2 au xs L bx 1 g w2) from fun w' h => begin_loop (HP6.out.below h) HR2.out.1 HR2.out.2.1 HR2.out.2.2 HLR.out HLC.out (HBX6.out.below h HBX6.out.lt) (B6.out.trans (h.mono B6.out.size)) (by rw [HBP.out]; exact Nat.le_refl _) (by rw [← HMM.out]; exact HM40.out.1) q0 hq0 x0 hx0)
      have HCL := Lib.hid hcl
      have HCP := Lib.hid hcp
      clear hcl hcp hx0 hq0
      have hm0 : (0 : Int) < (m : Int) := by have := HM40.out; omega
      have hp0 : (0 : Int) < (pn : Int) := by have := HM40.out; have := HXM.out; omega
      have hm0n : 0 < m := HM40.out.1
      have hp0n : 0 < pn := by omega
      obtain ⟨Ergb, hErgb⟩ : ∃ EE : Nat → Value → World → Prop, EE = fun jj xx ww => match jj with
          | 0 => xx = .pointer (some ⟨gp, 0, none⟩)
          | 1 => xx = .slice (some ⟨bl, ol, none⟩) m lc
          | 2 => xx = .pointer (some ⟨bl, ol, none⟩)
          | 3 => xx = .int .i32 x0
          | 4 => xx = .slice (some ⟨bp, op, none⟩) pn pc
          | 5 => xx = .pointer (some ⟨bp, op, none⟩)
          | 6 => xx = .agg #[.int .i64 q0.br, .bool q0.pc, .int .i64 q0.cv, .int .i64 q0.ea]
          | 7 => (fun x w' => True) xx ww
          | 8 => (fun x w' => True) xx ww
          | _ => True := ⟨_, rfl⟩
      have ergb0 : ∀ xx ww, Ergb 0 xx ww = (xx = .pointer (some ⟨gp, 0, none⟩)) := fun xx ww => congrFun (congrFun (congrFun hErgb 0) xx) ww
      have ergb1 : ∀ xx ww, Ergb 1 xx ww = (xx = .slice (some ⟨bl, ol, none⟩) m lc) := fun xx ww => congrFun (congrFun (congrFun hErgb 1) xx) ww
      have ergb2 : ∀ xx ww, Ergb 2 xx ww = (xx = .pointer (some ⟨bl, ol, none⟩)) := fun xx ww => congrFun (congrFun (congrFun hErgb 2) xx) ww
      have ergb3 : ∀ xx ww, Ergb 3 xx ww = (xx = .int .i32 x0) := fun xx ww => congrFun (congrFun (congrFun hErgb 3) xx) ww
      have ergb4 : ∀ xx ww, Ergb 4 xx ww = (xx = .slice (some ⟨bp, op, none⟩) pn pc) := fun xx ww => congrFun (congrFun (congrFun hErgb 4) xx) ww
      have ergb5 : ∀ xx ww, Ergb 5 xx ww = (xx = .pointer (some ⟨bp, op, none⟩)) := fun xx ww => congrFun (congrFun (congrFun hErgb 5) xx) ww
      have ergb6 : ∀ xx ww, Ergb 6 xx ww = (xx = .agg #[.int .i64 q0.br, .bool q0.pc, .int .i64 q0.cv, .int .i64 q0.ea]) := fun xx ww => congrFun (congrFun (congrFun hErgb 6) xx) ww
      have ergb7 : ∀ xx ww, Ergb 7 xx ww = ((fun x w' => True) xx ww) := fun xx ww => congrFun (congrFun (congrFun hErgb 7) xx) ww
      have ergb8 : ∀ xx ww, Ergb 8 xx ww = ((fun x w' => True) xx ww) := fun xx ww => congrFun (congrFun (congrFun hErgb 8) xx) ww
      obtain ⟨Crgb, hCrgb⟩ : ∃ CC : Array Bool → Value → Value → World → Prop, CC = fun L8 x y w' => (Mix.one L8 7 = 0 → Below W6.heap.size W6 w') ∧ (Mix.one L8 7 = 1 → ∃ g, x = .pointer (some ⟨g, 0, none⟩) ∧ LoopAt w1 BP gp gg gr wd b8 Ls r2 c2 pd2 au xs L bx 1 g w') ∧ (Mix.one L8 8 = 1 → y = x) := ⟨_, rfl⟩
      have krgb : ∀ i L {x y : Value} w, i ≠ 7 → i ≠ 8 →  Crgb L x y w → Crgb (L.setIfInBounds i true) x y w := by
        intro i L x y w q7 q8 h
        rw [hCrgb] at h ⊢
        simp only [Mix.one_ne q7, Mix.one_ne q8]; exact h
      obtain ⟨Xrgb, hXrgb⟩ : ∃ XX : World → World → Prop, XX = fun _ _ => True := ⟨_, rfl⟩
      have xrgb : ∀ w, Xrgb w w := fun w => by rw [hXrgb]; exact trivial
      have strgb : ∀ j x w w1, Xrgb w w1 → Ergb j x w → Ergb j x w1 := by
        intro j x w w1 hx h
        rw [hXrgb] at hx
        match j with
        | 0 => rw [ergb0] at h ⊢; exact h
        | 1 => rw [ergb1] at h ⊢; exact h
        | 2 => rw [ergb2] at h ⊢; exact h
        | 3 => rw [ergb3] at h ⊢; exact h
        | 4 => rw [ergb4] at h ⊢; exact h
        | 5 => rw [ergb5] at h ⊢; exact h
        | 6 => rw [ergb6] at h ⊢; exact h
        | 7 => rw [ergb7] at h ⊢; (exact h)
        | 8 => rw [ergb8] at h ⊢; (exact h)
        | j + 9 => rw [hErgb]; trivial
      have crgb : ∀ x y, Crgb (Array.replicate 9 false) x y W6.drew := fun x y => by rw [hCrgb]; exact ⟨fun _ => (Below.refl _ _).drew, fun e => absurd e (by decide), fun e => absurd e (by decide)⟩
      have brgb : ∀ L {x y : Value} w w1, Crgb L x y w → Below w.heap.size w w1 → Crgb L x y w1 := by
        intro L x y w w1 h hb
        rw [hCrgb] at h ⊢
        (obtain ⟨q1, q2, q3⟩ := h; exact ⟨fun e => (q1 e).trans (hb.mono (q1 e).size), fun e => by obtain ⟨g, e1, e2⟩ := q2 e; exact ⟨g, e1, e2.below hb⟩, q3⟩)
      have xbrgb : ∀ w w1, Below w.heap.size w w1 → Xrgb w w1 := by
        intro w w1 hb
        rw [hXrgb]
        trivial
      have Hrgbb : Go.RowKit.Hid (∀ L {x y : Value} w w1, Crgb L x y w → Below w.heap.size w w1 → Crgb L x y w1) := @brgb
      have Hrgbxb := Lib.hid xbrgb
      clear brgb xbrgb
      clear hErgb
      have Hrgbk : Go.RowKit.Hid (∀ i L {x y : Value} w, i ≠ 7 → i ≠ 8 →  Crgb L x y w → Crgb (L.setIfInBounds i true) x y w) := @krgb
      have Hrgbx := Lib.hid xrgb
      have Hrgbst := Lib.hid strgb
      have Hrgbc := Lib.hid crgb
      have HrgbhC := Lib.hid hCrgb
      have HrgbhX := Lib.hid hXrgb
      have Hrgbe0 := Lib.hid ergb0
      have Hrgbe1 := Lib.hid ergb1
      have Hrgbe2 := Lib.hid ergb2
      have Hrgbe3 := Lib.hid ergb3
      have Hrgbe4 := Lib.hid ergb4
      have Hrgbe5 := Lib.hid ergb5
      have Hrgbe6 := Lib.hid ergb6
      have Hrgbe7 := Lib.hid ergb7
      have Hrgbe8 := Lib.hid ergb8
      clear krgb xrgb strgb crgb hCrgb hXrgb ergb0 ergb1 ergb2 ergb3 ergb4 ergb5 ergb6 ergb7 ergb8
      go_wp2_with fail
      refine RegC.regionF2 7 8 Ergb Crgb Xrgb Hrgbst.out (by kernel_rfl) (by kernel_rfl) (by kernel_rfl) Hrgbc.out (fun Frgb hFrgb => ?_)
      simp only [Reg.frame, Reg.dsts, List.map_cons, List.map_nil, Mix.put_lit, List.set_cons_succ, List.set_cons_zero, Nat.zero_add, Nat.reduceAdd] at hFrgb
      refine ⟨?_, ?_⟩
      · refine ⟨?_, ?_, ?_, ?_, ?_, ?_, ?_, ?_, ?_, trivial⟩
        · intro Lq wq xq hh
          simp only [hFrgb]
          refine .inl ⟨rfl, ?_⟩
          unfold Reg.upon
          have hk := Hrgbk.out 0 Lq wq (by decide) (by decide)  hh.cls
          have hx := Hrgbx.out wq
          have he : Ergb 0 (.pointer (some ⟨gp, 0, none⟩)) wq := by rw [Hrgbe0.out]
          have HK := Lib.hid (And.intro hk (And.intro he hx))
          clear hk hx he
          go_simp
          exact HK.out
        · intro Lq wq xq hh
          simp only [hFrgb]
          refine .inl ⟨rfl, ?_⟩
          unfold Reg.upon
          have hk := Hrgbk.out 1 Lq wq (by decide) (by decide)  hh.cls
          have hx := Hrgbx.out wq
          have he : Ergb 1 (.slice (some ⟨bl, ol, none⟩) m lc) wq := by rw [Hrgbe1.out]
          have HK := Lib.hid (And.intro hk (And.intro he hx))
          clear hk hx he
          go_simp
          exact HK.out
        · intro Lq wq xq hh
          have d1 : Ergb 1 (xq 1) wq := hh.val 1 (by kernel_rfl) (by kernel_rfl)
          rw [Hrgbe1.out] at d1
          simp only [hFrgb, d1]
          clear d1
          refine .inl ⟨rfl, ?_⟩
          unfold Reg.upon
          have hk := Hrgbk.out 2 Lq wq (by decide) (by decide)  hh.cls
          have hx := Hrgbx.out wq
          have he : Ergb 2 (.pointer (some ⟨bl, ol, none⟩)) wq := by rw [Hrgbe2.out]
          have HK := Lib.hid (And.intro hk (And.intro he hx))
          clear hk hx he
          go_simp
          exact HK.out
        · intro Lq wq xq hh
          have d2 : Ergb 2 (xq 2) wq := hh.val 2 (by kernel_rfl) (by kernel_rfl)
          rw [Hrgbe2.out] at d2
          simp only [hFrgb, d2]
          clear d2
          refine .inl ⟨rfl, ?_⟩
          unfold Reg.upon
          have hc : Crgb Lq (xq 7) (xq 8) wq := hh.cls
          rw [HrgbhC.out] at hc
          have y0 := HCL.out wq (B6.out.trans ((hc.1 (Mix.one_un (hh.notYet 7 (by kernel_rfl)))).mono B6.out.size))
          rw [Nat.add_zero] at y0
          clear hc
          have hk := Hrgbk.out 3 Lq wq (by decide) (by decide)  hh.cls
          have hx := Hrgbx.out wq
          have he : Ergb 3 (.int .i32 x0) wq := by rw [Hrgbe3.out]
          have HK := Lib.hid (And.intro hk (And.intro he hx))
          clear hk hx he
          go_simp
          exact HK.out
        · intro Lq wq xq hh
          simp only [hFrgb]
          refine .inl ⟨rfl, ?_⟩
          unfold Reg.upon
          have hk := Hrgbk.out 4 Lq wq (by decide) (by decide)  hh.cls
          have hx := Hrgbx.out wq
          have he : Ergb 4 (.slice (some ⟨bp, op, none⟩) pn pc) wq := by rw [Hrgbe4.out]
          have HK := Lib.hid (And.intro hk (And.intro he hx))
          clear hk hx he
          go_simp
          exact HK.out
        · intro Lq wq xq hh
          have d4 : Ergb 4 (xq 4) wq := hh.val 4 (by kernel_rfl) (by kernel_rfl)
          rw [Hrgbe4.out] at d4
          simp only [hFrgb, d4]
          clear d4
          refine .inl ⟨rfl, ?_⟩
          unfold Reg.upon
          have hk := Hrgbk.out 5 Lq wq (by decide) (by decide)  hh.cls
          have hx := Hrgbx.out wq
          have he : Ergb 5 (.pointer (some ⟨bp, op, none⟩)) wq := by rw [Hrgbe5.out]
          have HK := Lib.hid (And.intro hk (And.intro he hx))
          clear hk hx he
          go_simp
          exact HK.out
        · intro Lq wq xq hh
          have d5 : Ergb 5 (xq 5) wq := hh.val 5 (by kernel_rfl) (by kernel_rfl)
          rw [Hrgbe5.out] at d5
          simp only [hFrgb, d5]
          clear d5
          refine .inl ⟨rfl, ?_⟩
          unfold Reg.upon
          have hc : Crgb Lq (xq 7) (xq 8) wq := hh.cls
          rw [HrgbhC.out] at hc
          obtain ⟨y0, y1, y2, y3⟩ := HCP.out wq (B6.out.trans ((hc.1 (Mix.one_un (hh.notYet 7 (by kernel_rfl)))).mono B6.out.size))
          rw [Nat.zero_mul, Nat.add_zero] at y0 y1 y2 y3
          clear hc
          have hk := Hrgbk.out 6 Lq wq (by decide) (by decide)  hh.cls
          have hx := Hrgbx.out wq
          have he : Ergb 6 (.agg #[.int .i64 q0.br, .bool q0.pc, .int .i64 q0.cv, .int .i64 q0.ea]) wq := by rw [Hrgbe6.out]
          have HK := Lib.hid (And.intro hk (And.intro he hx))
          clear hk hx he
          go_simp
          exact HK.out
        · intro Lq wq xq hh
          have d0 : Ergb 0 (xq 0) wq := hh.val 0 (by kernel_rfl) (by kernel_rfl)
          rw [Hrgbe0.out] at d0
          have d3 : Ergb 3 (xq 3) wq := hh.val 3 (by kernel_rfl) (by kernel_rfl)
          rw [Hrgbe3.out] at d3
          have d6 : Ergb 6 (xq 6) wq := hh.val 6 (by kernel_rfl) (by kernel_rfl)
          rw [Hrgbe6.out] at d6
          simp only [hFrgb, d0, d3, d6]
          clear d0 d3 d6
          refine .inl ⟨rfl, ?_⟩
          unfold Reg.upon
          have hc : Crgb Lq (xq 7) (xq 8) wq := hh.cls
          rw [HrgbhC.out] at hc
          have hrs := HBG.out wq (hc.1 hh.un)
          go_simp
          refine hrs.mono ?_
          rintro e w9 ⟨g, rfl, h9⟩
          have hF : Crgb (Lq.setIfInBounds 7 true) (.pointer (some ⟨g, 0, none⟩)) (xq 8) w9 := by
            rw [HrgbhC.out]
            refine ⟨fun e => ?_, fun _ => ⟨g, rfl, h9⟩, fun e => ?_⟩
            · rw [Mix.one_set (by rw [hh.size]; decide)] at e
              exact absurd e (by decide)
            · rw [Mix.one_ne (by decide), Mix.one_un (hh.notYet 8 (by kernel_rfl))] at e
              exact absurd e (by decide)
          exact ⟨_, rfl, hF, (by rw [Hrgbe7.out]; trivial), (by rw [HrgbhX.out]; trivial)⟩
        · intro Lq wq xq hh
          have d7 : Ergb 7 (xq 7) wq := hh.val 7 (by kernel_rfl) (by kernel_rfl)
          rw [Hrgbe7.out] at d7
          simp only [hFrgb]
          refine .inl ⟨rfl, ?_⟩
          unfold Reg.upon
          have hc : Crgb Lq (xq 7) (xq 8) wq := hh.cls
          rw [HrgbhC.out] at hc
          have hF : Crgb (Lq.setIfInBounds 8 true) (xq 7) (xq 7) wq := by
            rw [HrgbhC.out]
            exact ⟨fun e => hc.1 (by rw [Mix.one_ne (by decide)] at e; exact e), fun e => hc.2.1 (by rw [Mix.one_ne (by decide)] at e; exact e), fun _ => rfl⟩
          go_simp
          exact ⟨hF, (by rw [Hrgbe8.out]; trivial), Hrgbx.out _⟩
      intro xq wrgb hcrgb hvrgb
      rw [HrgbhC.out] at hcrgb
      simp only [hFrgb]
      clear hvrgb hFrgb Hrgbk Hrgbx Hrgbst Hrgbc HrgbhC HrgbhX Hrgbb Hrgbxb Hrgbe0 Hrgbe1 Hrgbe2 Hrgbe3 Hrgbe4 Hrgbe5 Hrgbe6 Hrgbe7 Hrgbe8
      obtain ⟨_, hlp, he⟩ := hcrgb
      obtain ⟨g, e7, hlp⟩ := hlp (by kernel_rfl)
      have e8 := (he (by kernel_rfl)).trans e7
      rw [e8]
      have HL0 := Lib.hid hlp
      clear e7 e8 he hlp HBG HCL HCP hm0 hp0 hm0n hp0n
      obtain ⟨gg1, hgg1⟩ : ∃ gg1, gg1 = g := ⟨_, rfl⟩
      subst hgg1
      go_wp2
      go_loopw [14] (fun iv wr => ∃ i : Nat, i ≤ m ∧ iv = .int .i64 i ∧ LoopAt w1 BP gp gg gr wd b8 Ls r2 c2 pd2 au xs L bx (min (max i 1) 16) gg1 wr) (fun iv _ => m - (intOf iv).toNat)
      case atStart => exact ⟨0, Nat.zero_le _, rfl, HL0.out⟩
      case round =>
        obtain ⟨i, hi, rfl, hlp⟩ := hrel
        obtain ⟨wq0, hwq0⟩ : ∃ wq0, wq0 = wr := ⟨_, rfl⟩
        subst hwq0
        have HLP := Lib.hid hlp
        clear hlp HL0
        by_cases hlt : i < m
        · have j1 : decide ((i : Int) < (m : Int)) = true := by rw [decide_eq_true_eq]; omega
          have j2 : decide (i < m) = true := by rw [decide_eq_true_eq]; omega
          have hil : (i : Int) < (m : Int) := by omega
          have hip : (i : Int) < (pn : Int) := by have := HXM.out; omega
          have hipn : i < pn := by have := HXM.out; omega
          have hwj : IntKind.i64.wrap ((i : Int) + 1) = (i : Int) + 1 := by rw [IntKind.wrap_i64]; have := HM40.out; omega
          obtain ⟨b', o', xi, e, hbl', hxi, hcl⟩ := HXS.out i hlt
          cases e
          obtain ⟨b', o', qi, e, hbp', hqi, hcp⟩ := HPS.out i hlt
          cases e
          have HCL := Lib.hid hcl
          have HCP := Lib.hid hcp
          clear hcl hcp
          go_upto_region 15 with (fail)
          go_cut [123] from 106 to 123 (fun tv wx => tv = .bool false ∧ LoopAt w1 BP gp gg gr wd b8 Ls r2 c2 pd2 au xs L bx (min (i + 1) 16) gg1 wx)
          case first =>
            have hcase : i = 0 ∨ (0 < i ∧ i < 16) ∨ 16 ≤ i := by omega
            rcases hcase with h0 | ⟨h0, h16⟩ | h16
            · have hd : decide ((0 : Int) < (i : Int)) = false := by rw [decide_eq_false_iff_not]; omega
              have hdn : decide (0 < i) = false := by rw [decide_eq_false_iff_not]; omega
              have HE := Lib.hid (show min (max i 1) 16 = min (i + 1) 16 from by omega)
              clear h0 hxi hqi
              obtain ⟨Erga, hErga⟩ : ∃ EE : Nat → Value → World → Prop, EE = fun jj xx ww => match jj with
                  | 0 => xx = .int .i64 i
                  | 1 => xx = .bool false
                  | 2 => xx = .bool false
                  | 3 => xx = undef
                  | 4 => xx = undef
                  | 5 => xx = undef
                  | 6 => xx = undef
                  | 7 => xx = undef
                  | 8 => xx = undef
                  | 9 => xx = undef
                  | 10 => xx = undef
                  | 11 => xx = undef
                  | 12 => xx = undef
                  | 13 => xx = undef
                  | 14 => xx = undef
                  | 15 => xx = undef
                  | 16 => xx = undef
                  | 17 => xx = .bool false
                  | _ => True := ⟨_, rfl⟩
              have erga0 : ∀ xx ww, Erga 0 xx ww = (xx = .int .i64 i) := fun xx ww => congrFun (congrFun (congrFun hErga 0) xx) ww
              have erga1 : ∀ xx ww, Erga 1 xx ww = (xx = .bool false) := fun xx ww => congrFun (congrFun (congrFun hErga 1) xx) ww
              have erga2 : ∀ xx ww, Erga 2 xx ww = (xx = .bool false) := fun xx ww => congrFun (congrFun (congrFun hErga 2) xx) ww
              have erga3 : ∀ xx ww, Erga 3 xx ww = (xx = undef) := fun xx ww => congrFun (congrFun (congrFun hErga 3) xx) ww
              have erga4 : ∀ xx ww, Erga 4 xx ww = (xx = undef) := fun xx ww => congrFun (congrFun (congrFun hErga 4) xx) ww
              have erga5 : ∀ xx ww, Erga 5 xx ww = (xx = undef) := fun xx ww => congrFun (congrFun (congrFun hErga 5) xx) ww
              have erga6 : ∀ xx ww, Erga 6 xx ww = (xx = undef) := fun xx ww => congrFun (congrFun (congrFun hErga 6) xx) ww
              have erga7 : ∀ xx ww, Erga 7 xx ww = (xx = undef) := fun xx ww => congrFun (congrFun (congrFun hErga 7) xx) ww
              have erga8 : ∀ xx ww, Erga 8 xx ww = (xx = undef) := fun xx ww => congrFun (congrFun (congrFun hErga 8) xx) ww
              have erga9 : ∀ xx ww, Erga 9 xx ww = (xx = undef) := fun xx ww => congrFun (congrFun (congrFun hErga 9) xx) ww
              have erga10 : ∀ xx ww, Erga 10 xx ww = (xx = undef) := fun xx ww => congrFun (congrFun (congrFun hErga 10) xx) ww
              have erga11 : ∀ xx ww, Erga 11 xx ww = (xx = undef) := fun xx ww => congrFun (congrFun (congrFun hErga 11) xx) ww
              have erga12 : ∀ xx ww, Erga 12 xx ww = (xx = undef) := fun xx ww => congrFun (congrFun (congrFun hErga 12) xx) ww
              have erga13 : ∀ xx ww, Erga 13 xx ww = (xx = undef) := fun xx ww => congrFun (congrFun (congrFun hErga 13) xx) ww
              have erga14 : ∀ xx ww, Erga 14 xx ww = (xx = undef) := fun xx ww => congrFun (congrFun (congrFun hErga 14) xx) ww
              have erga15 : ∀ xx ww, Erga 15 xx ww = (xx = undef) := fun xx ww => congrFun (congrFun (congrFun hErga 15) xx) ww
              have erga16 : ∀ xx ww, Erga 16 xx ww = (xx = undef) := fun xx ww => congrFun (congrFun (congrFun hErga 16) xx) ww
              have erga17 : ∀ xx ww, Erga 17 xx ww = (xx = .bool false) := fun xx ww => congrFun (congrFun (congrFun hErga 17) xx) ww
              obtain ⟨Crga, hCrga⟩ : ∃ CC : Array Bool → World → Prop, CC = fun L8 w' => Below wq0.heap.size wq0 w' := ⟨_, rfl⟩
              have krga : ∀ i L w,  Crga L w → Crga (L.setIfInBounds i true) w := by
                intro i L w  h
                rw [hCrga] at h ⊢
                exact h
              obtain ⟨Xrga, hXrga⟩ : ∃ XX : World → World → Prop, XX = fun _ _ => True := ⟨_, rfl⟩
              have xrga : ∀ w, Xrga w w := fun w => by rw [hXrga]; exact trivial
              have strga : ∀ j x w w1, Xrga w w1 → Erga j x w → Erga j x w1 := by
                intro j x w w1 hx h
                rw [hXrga] at hx
                match j with
                | 0 => rw [erga0] at h ⊢; exact h
                | 1 => rw [erga1] at h ⊢; exact h
                | 2 => rw [erga2] at h ⊢; exact h
                | 3 => rw [erga3] at h ⊢; exact h
                | 4 => rw [erga4] at h ⊢; exact h
                | 5 => rw [erga5] at h ⊢; exact h
                | 6 => rw [erga6] at h ⊢; exact h
                | 7 => rw [erga7] at h ⊢; exact h
                | 8 => rw [erga8] at h ⊢; exact h
                | 9 => rw [erga9] at h ⊢; exact h
                | 10 => rw [erga10] at h ⊢; exact h
                | 11 => rw [erga11] at h ⊢; exact h
                | 12 => rw [erga12] at h ⊢; exact h
                | 13 => rw [erga13] at h ⊢; exact h
                | 14 => rw [erga14] at h ⊢; exact h
                | 15 => rw [erga15] at h ⊢; exact h
                | 16 => rw [erga16] at h ⊢; exact h
                | 17 => rw [erga17] at h ⊢; exact h
                | j + 18 => rw [hErga]; trivial
              have crga : Crga (Array.replicate 18 false) wq0.drew := by rw [hCrga]; exact (Below.refl _ _).drew
              have brga : ∀ L w w1, Crga L w → Below w.heap.size w w1 → Crga L w1 := by
                intro L w w1 h hb
                rw [hCrga] at h ⊢
                exact h.trans (hb.mono h.size)
              have xbrga : ∀ w w1, Below w.heap.size w w1 → Xrga w w1 := by
                intro w w1 hb
                rw [hXrga]
                trivial
              have Hrgab := Lib.hid brga
              have Hrgaxb := Lib.hid xbrga
              clear brga xbrga
              clear hErga
              have Hrgak := Lib.hid krga
              have Hrgax := Lib.hid xrga
              have Hrgast := Lib.hid strga
              have Hrgac := Lib.hid crga
              have HrgahC := Lib.hid hCrga
              have HrgahX := Lib.hid hXrga
              have Hrgae0 := Lib.hid erga0
              have Hrgae1 := Lib.hid erga1
              have Hrgae2 := Lib.hid erga2
              have Hrgae3 := Lib.hid erga3
              have Hrgae4 := Lib.hid erga4
              have Hrgae5 := Lib.hid erga5
              have Hrgae6 := Lib.hid erga6
              have Hrgae7 := Lib.hid erga7
              have Hrgae8 := Lib.hid erga8
              have Hrgae9 := Lib.hid erga9
              have Hrgae10 := Lib.hid erga10
              have Hrgae11 := Lib.hid erga11
              have Hrgae12 := Lib.hid erga12
              have Hrgae13 := Lib.hid erga13
              have Hrgae14 := Lib.hid erga14
              have Hrgae15 := Lib.hid erga15
              have Hrgae16 := Lib.hid erga16
              have Hrgae17 := Lib.hid erga17
              clear krga xrga strga crga hCrga hXrga erga0 erga1 erga2 erga3 erga4 erga5 erga6 erga7 erga8 erga9 erga10 erga11 erga12 erga13 erga14 erga15 erga16 erga17
              go_wp2_with fail
              refine Reg.regionF Erga Crga Xrga Hrgast.out (by kernel_rfl) (by kernel_rfl) (by kernel_rfl) Hrgac.out (fun Frga hFrga => ?_)
              simp only [Reg.frame, Reg.dsts, List.map_cons, List.map_nil, Mix.put_lit, List.set_cons_succ, List.set_cons_zero, Nat.zero_add, Nat.reduceAdd] at hFrga
              refine ⟨?_, ?_⟩
              · refine ⟨?_, ?_, ?_, ?_, ?_, ?_, ?_, ?_, ?_, ?_, ?_, ?_, ?_, ?_, ?_, ?_, ?_, ?_, trivial⟩
                · intro Lq wq xq hh
                  simp only [hFrga]
                  refine .inl ⟨rfl, ?_⟩
                  unfold Reg.upon
                  have hk := Hrgak.out 0 Lq wq  hh.cls
                  have hx := Hrgax.out wq
                  have he : Erga 0 (.int .i64 i) wq := by rw [Hrgae0.out]
                  have HK := Lib.hid (And.intro hk (And.intro he hx))
                  clear hk hx he
                  go_simp
                  exact HK.out
                · intro Lq wq xq hh
                  have d0 : Erga 0 (xq 0) wq := hh.val 0 (by kernel_rfl) (by kernel_rfl)
                  rw [Hrgae0.out] at d0
                  simp only [hFrga, d0]
                  clear d0
                  refine .inl ⟨rfl, ?_⟩
                  unfold Reg.upon
                  have hk := Hrgak.out 1 Lq wq  hh.cls
                  have hx := Hrgax.out wq
                  have he : Erga 1 (.bool false) wq := by rw [Hrgae1.out]
                  have HK := Lib.hid (And.intro hk (And.intro he hx))
                  clear hk hx he
                  go_simp
                  exact HK.out
                · intro Lq wq xq hh
                  have d1 : Erga 1 (xq 1) wq := hh.val 1 (by kernel_rfl) (by kernel_rfl)
                  rw [Hrgae1.out] at d1
                  simp only [hFrga, d1]
                  clear d1
                  refine .inl ⟨rfl, ?_⟩
                  unfold Reg.upon
                  have hk := Hrgak.out 2 Lq wq  hh.cls
                  have hx := Hrgax.out wq
                  have he : Erga 2 (.bool false) wq := by rw [Hrgae2.out]
                  have HK := Lib.hid (And.intro hk (And.intro he hx))
                  clear hk hx he
                  go_simp
                  exact HK.out
                · intro Lq wq xq hh
                  have d2 : Erga 2 (xq 2) wq := hh.val 2 (by kernel_rfl) (by kernel_rfl)
                  rw [Hrgae2.out] at d2
                  simp only [hFrga, d2]
                  clear d2
                  exact .inr ⟨rfl, Hrgak.out 3 Lq wq  hh.cls, (by rw [Hrgae3.out])⟩
                · intro Lq wq xq hh
                  have d2 : Erga 2 (xq 2) wq := hh.val 2 (by kernel_rfl) (by kernel_rfl)
                  rw [Hrgae2.out] at d2
                  simp only [hFrga, d2]
                  clear d2
                  exact .inr ⟨rfl, Hrgak.out 4 Lq wq  hh.cls, (by rw [Hrgae4.out])⟩
                · intro Lq wq xq hh
                  have d2 : Erga 2 (xq 2) wq := hh.val 2 (by kernel_rfl) (by kernel_rfl)
                  rw [Hrgae2.out] at d2
                  simp only [hFrga, d2]
                  clear d2
                  exact .inr ⟨rfl, Hrgak.out 5 Lq wq  hh.cls, (by rw [Hrgae5.out])⟩
                · intro Lq wq xq hh
                  have d2 : Erga 2 (xq 2) wq := hh.val 2 (by kernel_rfl) (by kernel_rfl)
                  rw [Hrgae2.out] at d2
                  simp only [hFrga, d2]
                  clear d2
                  exact .inr ⟨rfl, Hrgak.out 6 Lq wq  hh.cls, (by rw [Hrgae6.out])⟩
                · intro Lq wq xq hh
                  have d2 : Erga 2 (xq 2) wq := hh.val 2 (by kernel_rfl) (by kernel_rfl)
                  rw [Hrgae2.out] at d2
                  have d5 : Erga 5 (xq 5) wq := hh.val 5 (by kernel_rfl) (by kernel_rfl)
                  rw [Hrgae5.out] at d5
                  have d6 : Erga 6 (xq 6) wq := hh.val 6 (by kernel_rfl) (by kernel_rfl)
                  rw [Hrgae6.out] at d6
                  simp only [hFrga, d2, d5, d6]
                  clear d2 d5 d6
                  exact .inr ⟨rfl, Hrgak.out 7 Lq wq  hh.cls, (by rw [Hrgae7.out])⟩
                · intro Lq wq xq hh
                  have d2 : Erga 2 (xq 2) wq := hh.val 2 (by kernel_rfl) (by kernel_rfl)
                  rw [Hrgae2.out] at d2
                  have d7 : Erga 7 (xq 7) wq := hh.val 7 (by kernel_rfl) (by kernel_rfl)
                  rw [Hrgae7.out] at d7
                  simp only [hFrga, d2, d7]
                  clear d2 d7
                  exact .inr ⟨rfl, Hrgak.out 8 Lq wq  hh.cls, (by rw [Hrgae8.out])⟩
                · intro Lq wq xq hh
                  have d2 : Erga 2 (xq 2) wq := hh.val 2 (by kernel_rfl) (by kernel_rfl)
                  rw [Hrgae2.out] at d2
                  simp only [hFrga, d2]
                  clear d2
                  exact .inr ⟨rfl, Hrgak.out 9 Lq wq  hh.cls, (by rw [Hrgae9.out])⟩
                · intro Lq wq xq hh
                  have d2 : Erga 2 (xq 2) wq := hh.val 2 (by kernel_rfl) (by kernel_rfl)
                  rw [Hrgae2.out] at d2
                  simp only [hFrga, d2]
                  clear d2
                  exact .inr ⟨rfl, Hrgak.out 10 Lq wq  hh.cls, (by rw [Hrgae10.out])⟩
                · intro Lq wq xq hh
                  have d2 : Erga 2 (xq 2) wq := hh.val 2 (by kernel_rfl) (by kernel_rfl)
                  rw [Hrgae2.out] at d2
                  have d9 : Erga 9 (xq 9) wq := hh.val 9 (by kernel_rfl) (by kernel_rfl)
                  rw [Hrgae9.out] at d9
                  have d10 : Erga 10 (xq 10) wq := hh.val 10 (by kernel_rfl) (by kernel_rfl)
                  rw [Hrgae10.out] at d10
                  simp only [hFrga, d2, d9, d10]
                  clear d2 d9 d10
                  exact .inr ⟨rfl, Hrgak.out 11 Lq wq  hh.cls, (by rw [Hrgae11.out])⟩
                · intro Lq wq xq hh
                  have d2 : Erga 2 (xq 2) wq := hh.val 2 (by kernel_rfl) (by kernel_rfl)
                  rw [Hrgae2.out] at d2
                  have d11 : Erga 11 (xq 11) wq := hh.val 11 (by kernel_rfl) (by kernel_rfl)
                  rw [Hrgae11.out] at d11
                  simp only [hFrga, d2, d11]
                  clear d2 d11
                  exact .inr ⟨rfl, Hrgak.out 12 Lq wq  hh.cls, (by rw [Hrgae12.out])⟩
                · intro Lq wq xq hh
                  have d2 : Erga 2 (xq 2) wq := hh.val 2 (by kernel_rfl) (by kernel_rfl)
                  rw [Hrgae2.out] at d2
                  have d3 : Erga 3 (xq 3) wq := hh.val 3 (by kernel_rfl) (by kernel_rfl)
                  rw [Hrgae3.out] at d3
                  have d4 : Erga 4 (xq 4) wq := hh.val 4 (by kernel_rfl) (by kernel_rfl)
                  rw [Hrgae4.out] at d4
                  have d8 : Erga 8 (xq 8) wq := hh.val 8 (by kernel_rfl) (by kernel_rfl)
                  rw [Hrgae8.out] at d8
                  have d12 : Erga 12 (xq 12) wq := hh.val 12 (by kernel_rfl) (by kernel_rfl)
                  rw [Hrgae12.out] at d12
                  simp only [hFrga, d2, d3, d4, d8, d12]
                  clear d2 d3 d4 d8 d12
                  exact .inr ⟨rfl, Hrgak.out 13 Lq wq  hh.cls, (by rw [Hrgae13.out])⟩
                · intro Lq wq xq hh
                  have d2 : Erga 2 (xq 2) wq := hh.val 2 (by kernel_rfl) (by kernel_rfl)
                  rw [Hrgae2.out] at d2
                  simp only [hFrga, d2]
                  clear d2
                  exact .inr ⟨rfl, Hrgak.out 14 Lq wq  hh.cls, (by rw [Hrgae14.out])⟩
                · intro Lq wq xq hh
                  have d2 : Erga 2 (xq 2) wq := hh.val 2 (by kernel_rfl) (by kernel_rfl)
                  rw [Hrgae2.out] at d2
                  have d14 : Erga 14 (xq 14) wq := hh.val 14 (by kernel_rfl) (by kernel_rfl)
                  rw [Hrgae14.out] at d14
                  simp only [hFrga, d2, d14]
                  clear d2 d14
                  exact .inr ⟨rfl, Hrgak.out 15 Lq wq  hh.cls, (by rw [Hrgae15.out])⟩
                · intro Lq wq xq hh
                  have d2 : Erga 2 (xq 2) wq := hh.val 2 (by kernel_rfl) (by kernel_rfl)
                  rw [Hrgae2.out] at d2
                  have d13 : Erga 13 (xq 13) wq := hh.val 13 (by kernel_rfl) (by kernel_rfl)
                  rw [Hrgae13.out] at d13
                  have d15 : Erga 15 (xq 15) wq := hh.val 15 (by kernel_rfl) (by kernel_rfl)
                  rw [Hrgae15.out] at d15
                  simp only [hFrga, d2, d13, d15]
                  clear d2 d13 d15
                  exact .inr ⟨rfl, Hrgak.out 16 Lq wq  hh.cls, (by rw [Hrgae16.out])⟩
                · intro Lq wq xq hh
                  have d2 : Erga 2 (xq 2) wq := hh.val 2 (by kernel_rfl) (by kernel_rfl)
                  rw [Hrgae2.out] at d2
                  have d16 : Erga 16 (xq 16) wq := hh.val 16 (by kernel_rfl) (by kernel_rfl)
                  rw [Hrgae16.out] at d16
                  simp only [hFrga, d2, d16]
                  clear d2 d16
                  refine .inl ⟨rfl, ?_⟩
                  unfold Reg.upon
                  have hk := Hrgak.out 17 Lq wq  hh.cls
                  have hx := Hrgax.out wq
                  have he : Erga 17 (.bool false) wq := by rw [Hrgae17.out]
                  have HK := Lib.hid (And.intro hk (And.intro he hx))
                  clear hk hx he
                  go_simp
                  exact HK.out
              intro xq wrga hcrga hvrga
              rw [HrgahC.out] at hcrga
              simp only [hFrga]
              have vrga17 : Erga 17 (xq 17) wrga := hvrga 17 (by decide)
              rw [Hrgae17.out] at vrga17
              rw [vrga17]
              clear hvrga hFrga Hrgak Hrgax Hrgast Hrgac HrgahC HrgahX Hrgab Hrgaxb Hrgae0 Hrgae1 Hrgae2 Hrgae3 Hrgae4 Hrgae5 Hrgae6 Hrgae7 Hrgae8 Hrgae9 Hrgae10 Hrgae11 Hrgae12 Hrgae13 Hrgae14 Hrgae15 Hrgae16 Hrgae17
              have HF := Lib.hid (HLP.out.below hcrga)
              rw [HE.out] at HF
              clear hcrga
              go_wp2
              go_meet
              case rel => exact ⟨rfl, HF.out⟩
            · have hd : decide ((0 : Int) < (i : Int)) = true := by rw [decide_eq_true_eq]; omega
              have hdn : decide (0 < i) = true := by rw [decide_eq_true_eq]; omega
              have hs16 : decide ((i : Int) < (16 : Int)) = true := by rw [decide_eq_true_eq]; omega
              have hs16n : decide (i < 16) = true := by rw [decide_eq_true_eq]; omega
              have HE := Lib.hid (show min (max i 1) 16 = i ∧ min (i + 1) 16 = i + 1 from by omega)
              have HJ := Lib.hid (show ∀ w', Below wq0.heap.size wq0 w' → Calls Tryz.prog 16 #[.pointer (some ⟨gg1, 0, none⟩), .pointer (some ⟨gp, 0, none⟩), .int .i32 xi, .agg #[.int .i64 qi.br, .bool qi.pc, .int .i64 qi.cv, .int .i64 qi.ea]] w' (fun e w2 => e = .returned (.bool true) ∧ LoopAt w1 BP gp gg gr wd b8 Ls r2 c2 pd2 au xs L bx (i + 1) gg1 w2) from fun w' h => join_loop (by have h2 := HLP.out.below h; rw [HE.out.1] at h2; exact h2) HLR.out HLC.out (by rw [HBP.out]; exact Nat.le_refl _) h0 h16 (by rw [← HMM.out]; exact hlt) qi hqi xi hxi)
              clear h0 h16 hxi hqi
              obtain ⟨Erga, hErga⟩ : ∃ EE : Nat → Value → World → Prop, EE = fun jj xx ww => match jj with
                  | 0 => xx = .int .i64 i
                  | 1 => xx = .bool true
                  | 2 => xx = .bool true
                  | 3 => xx = .pointer (some ⟨gg1, 0, none⟩)
                  | 4 => xx = .pointer (some ⟨gp, 0, none⟩)
                  | 5 => xx = .slice (some ⟨bl, ol, none⟩) m lc
                  | 6 => xx = .int .i64 i
                  | 7 => xx = .pointer (some ⟨bl, ol + i, none⟩)
                  | 8 => xx = .int .i32 xi
                  | 9 => xx = .slice (some ⟨bp, op, none⟩) pn pc
                  | 10 => xx = .int .i64 i
                  | 11 => xx = .pointer (some ⟨bp, op + i * 4, none⟩)
                  | 12 => xx = .agg #[.int .i64 qi.br, .bool qi.pc, .int .i64 qi.cv, .int .i64 qi.ea]
                  | 13 => xx = .bool true
                  | 14 => xx = .int .i64 i
                  | 15 => xx = .bool true
                  | 16 => xx = .bool false
                  | 17 => xx = .bool false
                  | _ => True := ⟨_, rfl⟩
              have erga0 : ∀ xx ww, Erga 0 xx ww = (xx = .int .i64 i) := fun xx ww => congrFun (congrFun (congrFun hErga 0) xx) ww
              have erga1 : ∀ xx ww, Erga 1 xx ww = (xx = .bool true) := fun xx ww => congrFun (congrFun (congrFun hErga 1) xx) ww
              have erga2 : ∀ xx ww, Erga 2 xx ww = (xx = .bool true) := fun xx ww => congrFun (congrFun (congrFun hErga 2) xx) ww
              have erga3 : ∀ xx ww, Erga 3 xx ww = (xx = .pointer (some ⟨gg1, 0, none⟩)) := fun xx ww => congrFun (congrFun (congrFun hErga 3) xx) ww
              have erga4 : ∀ xx ww, Erga 4 xx ww = (xx = .pointer (some ⟨gp, 0, none⟩)) := fun xx ww => congrFun (congrFun (congrFun hErga 4) xx) ww
              have erga5 : ∀ xx ww, Erga 5 xx ww = (xx = .slice (some ⟨bl, ol, none⟩) m lc) := fun xx ww => congrFun (congrFun (congrFun hErga 5) xx) ww
              have erga6 : ∀ xx ww, Erga 6 xx ww = (xx = .int .i64 i) := fun xx ww => congrFun (congrFun (congrFun hErga 6) xx) ww
              have erga7 : ∀ xx ww, Erga 7 xx ww = (xx = .pointer (some ⟨bl, ol + i, none⟩)) := fun xx ww => congrFun (congrFun (congrFun hErga 7) xx) ww
              have erga8 : ∀ xx ww, Erga 8 xx ww = (xx = .int .i32 xi) := fun xx ww => congrFun (congrFun (congrFun hErga 8) xx) ww
              have erga9 : ∀ xx ww, Erga 9 xx ww = (xx = .slice (some ⟨bp, op, none⟩) pn pc) := fun xx ww => congrFun (congrFun (congrFun hErga 9) xx) ww
              have erga10 : ∀ xx ww, Erga 10 xx ww = (xx = .int .i64 i) := fun xx ww => congrFun (congrFun (congrFun hErga 10) xx) ww
              have erga11 : ∀ xx ww, Erga 11 xx ww = (xx = .pointer (some ⟨bp, op + i * 4, none⟩)) := fun xx ww => congrFun (congrFun (congrFun hErga 11) xx) ww
              have erga12 : ∀ xx ww, Erga 12 xx ww = (xx = .agg #[.int .i64 qi.br, .bool qi.pc, .int .i64 qi.cv, .int .i64 qi.ea]) := fun xx ww => congrFun (congrFun (congrFun hErga 12) xx) ww
              have erga13 : ∀ xx ww, Erga 13 xx ww = (xx = .bool true) := fun xx ww => congrFun (congrFun (congrFun hErga 13) xx) ww
              have erga14 : ∀ xx ww, Erga 14 xx ww = (xx = .int .i64 i) := fun xx ww => congrFun (congrFun (congrFun hErga 14) xx) ww
              have erga15 : ∀ xx ww, Erga 15 xx ww = (xx = .bool true) := fun xx ww => congrFun (congrFun (congrFun hErga 15) xx) ww
              have erga16 : ∀ xx ww, Erga 16 xx ww = (xx = .bool false) := fun xx ww => congrFun (congrFun (congrFun hErga 16) xx) ww
              have erga17 : ∀ xx ww, Erga 17 xx ww = (xx = .bool false) := fun xx ww => congrFun (congrFun (congrFun hErga 17) xx) ww
              obtain ⟨Crga, hCrga⟩ : ∃ CC : Array Bool → World → Prop, CC = fun L8 w' => (Mix.one L8 13 = 0 → Below wq0.heap.size wq0 w') ∧ (Mix.one L8 13 = 1 → LoopAt w1 BP gp gg gr wd b8 Ls r2 c2 pd2 au xs L bx (i + 1) gg1 w') := ⟨_, rfl⟩
              have krga : ∀ i L w, i ≠ 13 →  Crga L w → Crga (L.setIfInBounds i true) w := by
                intro i L w q13 h
                rw [hCrga] at h ⊢
                simp only [Mix.one_ne q13]; exact h
              obtain ⟨Xrga, hXrga⟩ : ∃ XX : World → World → Prop, XX = fun _ _ => True := ⟨_, rfl⟩
              have xrga : ∀ w, Xrga w w := fun w => by rw [hXrga]; exact trivial
              have strga : ∀ j x w w1, Xrga w w1 → Erga j x w → Erga j x w1 := by
                intro j x w w1 hx h
                rw [hXrga] at hx
                match j with
                | 0 => rw [erga0] at h ⊢; exact h
                | 1 => rw [erga1] at h ⊢; exact h
                | 2 => rw [erga2] at h ⊢; exact h
                | 3 => rw [erga3] at h ⊢; exact h
                | 4 => rw [erga4] at h ⊢; exact h
                | 5 => rw [erga5] at h ⊢; exact h
                | 6 => rw [erga6] at h ⊢; exact h
                | 7 => rw [erga7] at h ⊢; exact h
                | 8 => rw [erga8] at h ⊢; exact h
                | 9 => rw [erga9] at h ⊢; exact h
                | 10 => rw [erga10] at h ⊢; exact h
                | 11 => rw [erga11] at h ⊢; exact h
                | 12 => rw [erga12] at h ⊢; exact h
                | 13 => rw [erga13] at h ⊢; exact h
                | 14 => rw [erga14] at h ⊢; exact h
                | 15 => rw [erga15] at h ⊢; exact h
                | 16 => rw [erga16] at h ⊢; exact h
                | 17 => rw [erga17] at h ⊢; exact h
                | j + 18 => rw [hErga]; trivial
              have crga : Crga (Array.replicate 18 false) wq0.drew := by rw [hCrga]; exact ⟨fun _ => (Below.refl _ _).drew, fun e => absurd e (by decide)⟩
              have brga : ∀ L w w1, Crga L w → Below w.heap.size w w1 → Crga L w1 := by
                intro L w w1 h hb
                rw [hCrga] at h ⊢
                exact ⟨fun e => (h.1 e).trans (hb.mono (h.1 e).size), fun e => (h.2 e).below hb⟩
              have xbrga : ∀ w w1, Below w.heap.size w w1 → Xrga w w1 := by
                intro w w1 hb
                rw [hXrga]
                trivial
              have Hrgab := Lib.hid brga
              have Hrgaxb := Lib.hid xbrga
              clear brga xbrga
              clear hErga
              have Hrgak := Lib.hid krga
              have Hrgax := Lib.hid xrga
              have Hrgast := Lib.hid strga
              have Hrgac := Lib.hid crga
              have HrgahC := Lib.hid hCrga
              have HrgahX := Lib.hid hXrga
              have Hrgae0 := Lib.hid erga0
              have Hrgae1 := Lib.hid erga1
              have Hrgae2 := Lib.hid erga2
              have Hrgae3 := Lib.hid erga3
              have Hrgae4 := Lib.hid erga4
              have Hrgae5 := Lib.hid erga5
              have Hrgae6 := Lib.hid erga6
              have Hrgae7 := Lib.hid erga7
              have Hrgae8 := Lib.hid erga8
              have Hrgae9 := Lib.hid erga9
              have Hrgae10 := Lib.hid erga10
              have Hrgae11 := Lib.hid erga11
              have Hrgae12 := Lib.hid erga12
              have Hrgae13 := Lib.hid erga13
              have Hrgae14 := Lib.hid erga14
              have Hrgae15 := Lib.hid erga15
              have Hrgae16 := Lib.hid erga16
              have Hrgae17 := Lib.hid erga17
              clear krga xrga strga crga hCrga hXrga erga0 erga1 erga2 erga3 erga4 erga5 erga6 erga7 erga8 erga9 erga10 erga11 erga12 erga13 erga14 erga15 erga16 erga17
              go_wp2_with fail
              refine Reg.regionF Erga Crga Xrga Hrgast.out (by kernel_rfl) (by kernel_rfl) (by kernel_rfl) Hrgac.out (fun Frga hFrga => ?_)
              simp only [Reg.frame, Reg.dsts, List.map_cons, List.map_nil, Mix.put_lit, List.set_cons_succ, List.set_cons_zero, Nat.zero_add, Nat.reduceAdd] at hFrga
              refine ⟨?_, ?_⟩
              · refine ⟨?_, ?_, ?_, ?_, ?_, ?_, ?_, ?_, ?_, ?_, ?_, ?_, ?_, ?_, ?_, ?_, ?_, ?_, trivial⟩
                · intro Lq wq xq hh
                  simp only [hFrga]
                  refine .inl ⟨rfl, ?_⟩
                  unfold Reg.upon
                  have hk := Hrgak.out 0 Lq wq (by decide)  hh.cls
                  have hx := Hrgax.out wq
                  have he : Erga 0 (.int .i64 i) wq := by rw [Hrgae0.out]
                  have HK := Lib.hid (And.intro hk (And.intro he hx))
                  clear hk hx he
                  go_simp
                  exact HK.out
                · intro Lq wq xq hh
                  have d0 : Erga 0 (xq 0) wq := hh.val 0 (by kernel_rfl) (by kernel_rfl)
                  rw [Hrgae0.out] at d0
                  simp only [hFrga, d0]
                  clear d0
                  refine .inl ⟨rfl, ?_⟩
                  unfold Reg.upon
                  have hk := Hrgak.out 1 Lq wq (by decide)  hh.cls
                  have hx := Hrgax.out wq
                  have he : Erga 1 (.bool true) wq := by rw [Hrgae1.out]
                  have HK := Lib.hid (And.intro hk (And.intro he hx))
                  clear hk hx he
                  go_simp
                  exact HK.out
                · intro Lq wq xq hh
                  have d1 : Erga 1 (xq 1) wq := hh.val 1 (by kernel_rfl) (by kernel_rfl)
                  rw [Hrgae1.out] at d1
                  simp only [hFrga, d1]
                  clear d1
                  refine .inl ⟨rfl, ?_⟩
                  unfold Reg.upon
                  have hk := Hrgak.out 2 Lq wq (by decide)  hh.cls
                  have hx := Hrgax.out wq
                  have he : Erga 2 (.bool true) wq := by rw [Hrgae2.out]
                  have HK := Lib.hid (And.intro hk (And.intro he hx))
                  clear hk hx he
                  go_simp
                  exact HK.out
                · intro Lq wq xq hh
                  have d2 : Erga 2 (xq 2) wq := hh.val 2 (by kernel_rfl) (by kernel_rfl)
                  rw [Hrgae2.out] at d2
                  simp only [hFrga, d2]
                  clear d2
                  refine .inl ⟨rfl, ?_⟩
                  unfold Reg.upon
                  have hk := Hrgak.out 3 Lq wq (by decide)  hh.cls
                  have hx := Hrgax.out wq
                  have he : Erga 3 (.pointer (some ⟨gg1, 0, none⟩)) wq := by rw [Hrgae3.out]
                  have HK := Lib.hid (And.intro hk (And.intro he hx))
                  clear hk hx he
                  go_simp
                  exact HK.out
                · intro Lq wq xq hh
                  have d2 : Erga 2 (xq 2) wq := hh.val 2 (by kernel_rfl) (by kernel_rfl)
                  rw [Hrgae2.out] at d2
                  simp only [hFrga, d2]
                  clear d2
                  refine .inl ⟨rfl, ?_⟩
                  unfold Reg.upon
                  have hk := Hrgak.out 4 Lq wq (by decide)  hh.cls
                  have hx := Hrgax.out wq
                  have he : Erga 4 (.pointer (some ⟨gp, 0, none⟩)) wq := by rw [Hrgae4.out]
                  have HK := Lib.hid (And.intro hk (And.intro he hx))
                  clear hk hx he
                  go_simp
                  exact HK.out
                · intro Lq wq xq hh
                  have d2 : Erga 2 (xq 2) wq := hh.val 2 (by kernel_rfl) (by kernel_rfl)
                  rw [Hrgae2.out] at d2
                  simp only [hFrga, d2]
                  clear d2
                  refine .inl ⟨rfl, ?_⟩
                  unfold Reg.upon
                  have hk := Hrgak.out 5 Lq wq (by decide)  hh.cls
                  have hx := Hrgax.out wq
                  have he : Erga 5 (.slice (some ⟨bl, ol, none⟩) m lc) wq := by rw [Hrgae5.out]
                  have HK := Lib.hid (And.intro hk (And.intro he hx))
                  clear hk hx he
                  go_simp
                  exact HK.out
                · intro Lq wq xq hh
                  have d2 : Erga 2 (xq 2) wq := hh.val 2 (by kernel_rfl) (by kernel_rfl)
                  rw [Hrgae2.out] at d2
                  simp only [hFrga, d2]
                  clear d2
                  refine .inl ⟨rfl, ?_⟩
                  unfold Reg.upon
                  have hk := Hrgak.out 6 Lq wq (by decide)  hh.cls
                  have hx := Hrgax.out wq
                  have he : Erga 6 (.int .i64 i) wq := by rw [Hrgae6.out]
                  have HK := Lib.hid (And.intro hk (And.intro he hx))
                  clear hk hx he
                  go_simp
                  exact HK.out
                · intro Lq wq xq hh
                  have d2 : Erga 2 (xq 2) wq := hh.val 2 (by kernel_rfl) (by kernel_rfl)
                  rw [Hrgae2.out] at d2
                  have d5 : Erga 5 (xq 5) wq := hh.val 5 (by kernel_rfl) (by kernel_rfl)
                  rw [Hrgae5.out] at d5
                  have d6 : Erga 6 (xq 6) wq := hh.val 6 (by kernel_rfl) (by kernel_rfl)
                  rw [Hrgae6.out] at d6
                  simp only [hFrga, d2, d5, d6]
                  clear d2 d5 d6
                  refine .inl ⟨rfl, ?_⟩
                  unfold Reg.upon
                  have hk := Hrgak.out 7 Lq wq (by decide)  hh.cls
                  have hx := Hrgax.out wq
                  have he : Erga 7 (.pointer (some ⟨bl, ol + i, none⟩)) wq := by rw [Hrgae7.out]
                  have HK := Lib.hid (And.intro hk (And.intro he hx))
                  clear hk hx he
                  go_simp
                  exact HK.out
                · intro Lq wq xq hh
                  have d2 : Erga 2 (xq 2) wq := hh.val 2 (by kernel_rfl) (by kernel_rfl)
                  rw [Hrgae2.out] at d2
                  have d7 : Erga 7 (xq 7) wq := hh.val 7 (by kernel_rfl) (by kernel_rfl)
                  rw [Hrgae7.out] at d7
                  simp only [hFrga, d2, d7]
                  clear d2 d7
                  refine .inl ⟨rfl, ?_⟩
                  unfold Reg.upon
                  have hc : Crga Lq wq := hh.cls
                  rw [HrgahC.out] at hc
                  have y0 := HCL.out wq (HLP.out.2.2.1.trans ((hc.1 (Mix.one_un (hh.notYet 13 (by kernel_rfl)))).mono HLP.out.2.2.1.size))
                  clear hc
                  have hk := Hrgak.out 8 Lq wq (by decide)  hh.cls
                  have hx := Hrgax.out wq
                  have he : Erga 8 (.int .i32 xi) wq := by rw [Hrgae8.out]
                  have HK := Lib.hid (And.intro hk (And.intro he hx))
                  clear hk hx he
                  go_simp
                  exact HK.out
                · intro Lq wq xq hh
                  have d2 : Erga 2 (xq 2) wq := hh.val 2 (by kernel_rfl) (by kernel_rfl)
                  rw [Hrgae2.out] at d2
                  simp only [hFrga, d2]
                  clear d2
                  refine .inl ⟨rfl, ?_⟩
                  unfold Reg.upon
                  have hk := Hrgak.out 9 Lq wq (by decide)  hh.cls
                  have hx := Hrgax.out wq
                  have he : Erga 9 (.slice (some ⟨bp, op, none⟩) pn pc) wq := by rw [Hrgae9.out]
                  have HK := Lib.hid (And.intro hk (And.intro he hx))
                  clear hk hx he
                  go_simp
                  exact HK.out
                · intro Lq wq xq hh
                  have d2 : Erga 2 (xq 2) wq := hh.val 2 (by kernel_rfl) (by kernel_rfl)
                  rw [Hrgae2.out] at d2
                  simp only [hFrga, d2]
                  clear d2
                  refine .inl ⟨rfl, ?_⟩
                  unfold Reg.upon
                  have hk := Hrgak.out 10 Lq wq (by decide)  hh.cls
                  have hx := Hrgax.out wq
                  have he : Erga 10 (.int .i64 i) wq := by rw [Hrgae10.out]
                  have HK := Lib.hid (And.intro hk (And.intro he hx))
                  clear hk hx he
                  go_simp
                  exact HK.out
                · intro Lq wq xq hh
                  have d2 : Erga 2 (xq 2) wq := hh.val 2 (by kernel_rfl) (by kernel_rfl)
                  rw [Hrgae2.out] at d2
                  have d9 : Erga 9 (xq 9) wq := hh.val 9 (by kernel_rfl) (by kernel_rfl)
                  rw [Hrgae9.out] at d9
                  have d10 : Erga 10 (xq 10) wq := hh.val 10 (by kernel_rfl) (by kernel_rfl)
                  rw [Hrgae10.out] at d10
                  simp only [hFrga, d2, d9, d10]
                  clear d2 d9 d10
                  refine .inl ⟨rfl, ?_⟩
                  unfold Reg.upon
                  have hk := Hrgak.out 11 Lq wq (by decide)  hh.cls
                  have hx := Hrgax.out wq
                  have he : Erga 11 (.pointer (some ⟨bp, op + i * 4, none⟩)) wq := by rw [Hrgae11.out]
                  have HK := Lib.hid (And.intro hk (And.intro he hx))
                  clear hk hx he
                  go_simp
                  exact HK.out
                · intro Lq wq xq hh
                  have d2 : Erga 2 (xq 2) wq := hh.val 2 (by kernel_rfl) (by kernel_rfl)
                  rw [Hrgae2.out] at d2
                  have d11 : Erga 11 (xq 11) wq := hh.val 11 (by kernel_rfl) (by kernel_rfl)
                  rw [Hrgae11.out] at d11
                  simp only [hFrga, d2, d11]
                  clear d2 d11
                  refine .inl ⟨rfl, ?_⟩
                  unfold Reg.upon
                  have hc : Crga Lq wq := hh.cls
                  rw [HrgahC.out] at hc
                  obtain ⟨y0, y1, y2, y3⟩ := HCP.out wq (HLP.out.2.2.1.trans ((hc.1 (Mix.one_un (hh.notYet 13 (by kernel_rfl)))).mono HLP.out.2.2.1.size))
                  clear hc
                  have hk := Hrgak.out 12 Lq wq (by decide)  hh.cls
                  have hx := Hrgax.out wq
                  have he : Erga 12 (.agg #[.int .i64 qi.br, .bool qi.pc, .int .i64 qi.cv, .int .i64 qi.ea]) wq := by rw [Hrgae12.out]
                  have HK := Lib.hid (And.intro hk (And.intro he hx))
                  clear hk hx he
                  go_simp
                  exact HK.out
                · intro Lq wq xq hh
                  have d2 : Erga 2 (xq 2) wq := hh.val 2 (by kernel_rfl) (by kernel_rfl)
                  rw [Hrgae2.out] at d2
                  have d3 : Erga 3 (xq 3) wq := hh.val 3 (by kernel_rfl) (by kernel_rfl)
                  rw [Hrgae3.out] at d3
                  have d4 : Erga 4 (xq 4) wq := hh.val 4 (by kernel_rfl) (by kernel_rfl)
                  rw [Hrgae4.out] at d4
                  have d8 : Erga 8 (xq 8) wq := hh.val 8 (by kernel_rfl) (by kernel_rfl)
                  rw [Hrgae8.out] at d8
                  have d12 : Erga 12 (xq 12) wq := hh.val 12 (by kernel_rfl) (by kernel_rfl)
                  rw [Hrgae12.out] at d12
                  simp only [hFrga, d2, d3, d4, d8, d12]
                  clear d2 d3 d4 d8 d12
                  refine .inl ⟨rfl, ?_⟩
                  unfold Reg.upon
                  have hc : Crga Lq wq := hh.cls
                  rw [HrgahC.out] at hc
                  have hrs := HJ.out wq (hc.1 hh.un)
                  go_simp
                  refine hrs.mono ?_
                  rintro e w9 ⟨rfl, h9⟩
                  have hF : Crga (Lq.setIfInBounds 13 true) w9 := by
                    rw [HrgahC.out]
                    exact ⟨fun e => (by rw [Mix.one_set (by rw [hh.size]; decide)] at e; exact absurd e (by decide)), fun _ => h9⟩
                  exact ⟨_, rfl, hF, (by rw [Hrgae13.out]), (by rw [HrgahX.out]; trivial)⟩
                · intro Lq wq xq hh
                  have d2 : Erga 2 (xq 2) wq := hh.val 2 (by kernel_rfl) (by kernel_rfl)
                  rw [Hrgae2.out] at d2
                  simp only [hFrga, d2]
                  clear d2
                  refine .inl ⟨rfl, ?_⟩
                  unfold Reg.upon
                  have hk := Hrgak.out 14 Lq wq (by decide)  hh.cls
                  have hx := Hrgax.out wq
                  have he : Erga 14 (.int .i64 i) wq := by rw [Hrgae14.out]
                  have HK := Lib.hid (And.intro hk (And.intro he hx))
                  clear hk hx he
                  go_simp
                  exact HK.out
                · intro Lq wq xq hh
                  have d2 : Erga 2 (xq 2) wq := hh.val 2 (by kernel_rfl) (by kernel_rfl)
                  rw [Hrgae2.out] at d2
                  have d14 : Erga 14 (xq 14) wq := hh.val 14 (by kernel_rfl) (by kernel_rfl)
                  rw [Hrgae14.out] at d14
                  simp only [hFrga, d2, d14]
                  clear d2 d14
                  refine .inl ⟨rfl, ?_⟩
                  unfold Reg.upon
                  have hk := Hrgak.out 15 Lq wq (by decide)  hh.cls
                  have hx := Hrgax.out wq
                  have he : Erga 15 (.bool true) wq := by rw [Hrgae15.out]
                  have HK := Lib.hid (And.intro hk (And.intro he hx))
                  clear hk hx he
                  go_simp
                  exact HK.out
                · intro Lq wq xq hh
                  have d2 : Erga 2 (xq 2) wq := hh.val 2 (by kernel_rfl) (by kernel_rfl)
                  rw [Hrgae2.out] at d2
                  have d13 : Erga 13 (xq 13) wq := hh.val 13 (by kernel_rfl) (by kernel_rfl)
                  rw [Hrgae13.out] at d13
                  have d15 : Erga 15 (xq 15) wq := hh.val 15 (by kernel_rfl) (by kernel_rfl)
                  rw [Hrgae15.out] at d15
                  simp only [hFrga, d2, d13, d15]
                  clear d2 d13 d15
                  refine .inl ⟨rfl, ?_⟩
                  unfold Reg.upon
                  have hk := Hrgak.out 16 Lq wq (by decide)  hh.cls
                  have hx := Hrgax.out wq
                  have he : Erga 16 (.bool false) wq := by rw [Hrgae16.out]
                  have HK := Lib.hid (And.intro hk (And.intro he hx))
                  clear hk hx he
                  go_simp
                  exact HK.out
                · intro Lq wq xq hh
                  have d2 : Erga 2 (xq 2) wq := hh.val 2 (by kernel_rfl) (by kernel_rfl)
                  rw [Hrgae2.out] at d2
                  have d16 : Erga 16 (xq 16) wq := hh.val 16 (by kernel_rfl) (by kernel_rfl)
                  rw [Hrgae16.out] at d16
                  simp only [hFrga, d2, d16]
                  clear d2 d16
                  refine .inl ⟨rfl, ?_⟩
                  unfold Reg.upon
                  have hk := Hrgak.out 17 Lq wq (by decide)  hh.cls
                  have hx := Hrgax.out wq
                  have he : Erga 17 (.bool false) wq := by rw [Hrgae17.out]
                  have HK := Lib.hid (And.intro hk (And.intro he hx))
                  clear hk hx he
                  go_simp
                  exact HK.out
              intro xq wrga hcrga hvrga
              rw [HrgahC.out] at hcrga
              simp only [hFrga]
              have vrga17 : Erga 17 (xq 17) wrga := hvrga 17 (by decide)
              rw [Hrgae17.out] at vrga17
              rw [vrga17]
              clear hvrga hFrga Hrgak Hrgax Hrgast Hrgac HrgahC HrgahX Hrgab Hrgaxb Hrgae0 Hrgae1 Hrgae2 Hrgae3 Hrgae4 Hrgae5 Hrgae6 Hrgae7 Hrgae8 Hrgae9 Hrgae10 Hrgae11 Hrgae12 Hrgae13 Hrgae14 Hrgae15 Hrgae16 Hrgae17
              have HF := Lib.hid (hcrga.2 (by kernel_rfl))
              rw [← HE.out.2] at HF
              clear hcrga
              go_wp2
              go_meet
              case rel => exact ⟨rfl, HF.out⟩
            · have hd : decide ((0 : Int) < (i : Int)) = true := by rw [decide_eq_true_eq]; omega
              have hdn : decide (0 < i) = true := by rw [decide_eq_true_eq]; omega
              have hs16 : decide ((i : Int) < (16 : Int)) = false := by rw [decide_eq_false_iff_not]; omega
              have hs16n : decide (i < 16) = false := by rw [decide_eq_false_iff_not]; omega
              have HE := Lib.hid (show min (max i 1) 16 = 16 ∧ min (i + 1) 16 = 16 from by omega)
              rw [HE.out.1] at HLP
              have HJ := Lib.hid (show ∀ w', Below wq0.heap.size wq0 w' → Calls Tryz.prog 16 #[.pointer (some ⟨gg1, 0, none⟩), .pointer (some ⟨gp, 0, none⟩), .int .i32 xi, .agg #[.int .i64 qi.br, .bool qi.pc, .int .i64 qi.cv, .int .i64 qi.ea]] w' (Gives w' (.bool false)) from fun w' h => join_none (HLP.out.below h) (by rw [← HMM.out]; omega) _ _ _ _ _ _)
              clear h16 hxi hqi
              obtain ⟨Erga, hErga⟩ : ∃ EE : Nat → Value → World → Prop, EE = fun jj xx ww => match jj with
                  | 0 => xx = .int .i64 i
                  | 1 => xx = .bool true
                  | 2 => xx = .bool true
                  | 3 => xx = .pointer (some ⟨gg1, 0, none⟩)
                  | 4 => xx = .pointer (some ⟨gp, 0, none⟩)
                  | 5 => xx = .slice (some ⟨bl, ol, none⟩) m lc
                  | 6 => xx = .int .i64 i
                  | 7 => xx = .pointer (some ⟨bl, ol + i, none⟩)
                  | 8 => xx = .int .i32 xi
                  | 9 => xx = .slice (some ⟨bp, op, none⟩) pn pc
                  | 10 => xx = .int .i64 i
                  | 11 => xx = .pointer (some ⟨bp, op + i * 4, none⟩)
                  | 12 => xx = .agg #[.int .i64 qi.br, .bool qi.pc, .int .i64 qi.cv, .int .i64 qi.ea]
                  | 13 => xx = .bool false
                  | 14 => xx = .int .i64 i
                  | 15 => xx = .bool false
                  | 16 => xx = .bool false
                  | 17 => xx = .bool false
                  | _ => True := ⟨_, rfl⟩
              have erga0 : ∀ xx ww, Erga 0 xx ww = (xx = .int .i64 i) := fun xx ww => congrFun (congrFun (congrFun hErga 0) xx) ww
              have erga1 : ∀ xx ww, Erga 1 xx ww = (xx = .bool true) := fun xx ww => congrFun (congrFun (congrFun hErga 1) xx) ww
              have erga2 : ∀ xx ww, Erga 2 xx ww = (xx = .bool true) := fun xx ww => congrFun (congrFun (congrFun hErga 2) xx) ww
              have erga3 : ∀ xx ww, Erga 3 xx ww = (xx = .pointer (some ⟨gg1, 0, none⟩)) := fun xx ww => congrFun (congrFun (congrFun hErga 3) xx) ww
              have erga4 : ∀ xx ww, Erga 4 xx ww = (xx = .pointer (some ⟨gp, 0, none⟩)) := fun xx ww => congrFun (congrFun (congrFun hErga 4) xx) ww
              have erga5 : ∀ xx ww, Erga 5 xx ww = (xx = .slice (some ⟨bl, ol, none⟩) m lc) := fun xx ww => congrFun (congrFun (congrFun hErga 5) xx) ww
              have erga6 : ∀ xx ww, Erga 6 xx ww = (xx = .int .i64 i) := fun xx ww => congrFun (congrFun (congrFun hErga 6) xx) ww
              have erga7 : ∀ xx ww, Erga 7 xx ww = (xx = .pointer (some ⟨bl, ol + i, none⟩)) := fun xx ww => congrFun (congrFun (congrFun hErga 7) xx) ww
              have erga8 : ∀ xx ww, Erga 8 xx ww = (xx = .int .i32 xi) := fun xx ww => congrFun (congrFun (congrFun hErga 8) xx) ww
              have erga9 : ∀ xx ww, Erga 9 xx ww = (xx = .slice (some ⟨bp, op, none⟩) pn pc) := fun xx ww => congrFun (congrFun (congrFun hErga 9) xx) ww
              have erga10 : ∀ xx ww, Erga 10 xx ww = (xx = .int .i64 i) := fun xx ww => congrFun (congrFun (congrFun hErga 10) xx) ww
              have erga11 : ∀ xx ww, Erga 11 xx ww = (xx = .pointer (some ⟨bp, op + i * 4, none⟩)) := fun xx ww => congrFun (congrFun (congrFun hErga 11) xx) ww
              have erga12 : ∀ xx ww, Erga 12 xx ww = (xx = .agg #[.int .i64 qi.br, .bool qi.pc, .int .i64 qi.cv, .int .i64 qi.ea]) := fun xx ww => congrFun (congrFun (congrFun hErga 12) xx) ww
              have erga13 : ∀ xx ww, Erga 13 xx ww = (xx = .bool false) := fun xx ww => congrFun (congrFun (congrFun hErga 13) xx) ww
              have erga14 : ∀ xx ww, Erga 14 xx ww = (xx = .int .i64 i) := fun xx ww => congrFun (congrFun (congrFun hErga 14) xx) ww
              have erga15 : ∀ xx ww, Erga 15 xx ww = (xx = .bool false) := fun xx ww => congrFun (congrFun (congrFun hErga 15) xx) ww
              have erga16 : ∀ xx ww, Erga 16 xx ww = (xx = .bool false) := fun xx ww => congrFun (congrFun (congrFun hErga 16) xx) ww
              have erga17 : ∀ xx ww, Erga 17 xx ww = (xx = .bool false) := fun xx ww => congrFun (congrFun (congrFun hErga 17) xx) ww
              obtain ⟨Crga, hCrga⟩ : ∃ CC : Array Bool → World → Prop, CC = fun L8 w' => Below wq0.heap.size wq0 w' := ⟨_, rfl⟩
              have krga : ∀ i L w,  Crga L w → Crga (L.setIfInBounds i true) w := by
                intro i L w  h
                rw [hCrga] at h ⊢
                exact h
              obtain ⟨Xrga, hXrga⟩ : ∃ XX : World → World → Prop, XX = fun _ _ => True := ⟨_, rfl⟩
              have xrga : ∀ w, Xrga w w := fun w => by rw [hXrga]; exact trivial
              have strga : ∀ j x w w1, Xrga w w1 → Erga j x w → Erga j x w1 := by
                intro j x w w1 hx h
                rw [hXrga] at hx
                match j with
                | 0 => rw [erga0] at h ⊢; exact h
                | 1 => rw [erga1] at h ⊢; exact h
                | 2 => rw [erga2] at h ⊢; exact h
                | 3 => rw [erga3] at h ⊢; exact h
                | 4 => rw [erga4] at h ⊢; exact h
                | 5 => rw [erga5] at h ⊢; exact h
                | 6 => rw [erga6] at h ⊢; exact h
                | 7 => rw [erga7] at h ⊢; exact h
                | 8 => rw [erga8] at h ⊢; exact h
                | 9 => rw [erga9] at h ⊢; exact h
                | 10 => rw [erga10] at h ⊢; exact h
                | 11 => rw [erga11] at h ⊢; exact h
                | 12 => rw [erga12] at h ⊢; exact h
                | 13 => rw [erga13] at h ⊢; exact h
                | 14 => rw [erga14] at h ⊢; exact h
                | 15 => rw [erga15] at h ⊢; exact h
                | 16 => rw [erga16] at h ⊢; exact h
                | 17 => rw [erga17] at h ⊢; exact h
                | j + 18 => rw [hErga]; trivial
              have crga : Crga (Array.replicate 18 false) wq0.drew := by rw [hCrga]; exact (Below.refl _ _).drew
              have brga : ∀ L w w1, Crga L w → Below w.heap.size w w1 → Crga L w1 := by
                intro L w w1 h hb
                rw [hCrga] at h ⊢
                exact h.trans (hb.mono h.size)
              have xbrga : ∀ w w1, Below w.heap.size w w1 → Xrga w w1 := by
                intro w w1 hb
                rw [hXrga]
                trivial
              have Hrgab := Lib.hid brga
              have Hrgaxb := Lib.hid xbrga
              clear brga xbrga
              clear hErga
              have Hrgak := Lib.hid krga
              have Hrgax := Lib.hid xrga
              have Hrgast := Lib.hid strga
              have Hrgac := Lib.hid crga
              have HrgahC := Lib.hid hCrga
              have HrgahX := Lib.hid hXrga
              have Hrgae0 := Lib.hid erga0
              have Hrgae1 := Lib.hid erga1
              have Hrgae2 := Lib.hid erga2
              have Hrgae3 := Lib.hid erga3
              have Hrgae4 := Lib.hid erga4
              have Hrgae5 := Lib.hid erga5
              have Hrgae6 := Lib.hid erga6
              have Hrgae7 := Lib.hid erga7
              have Hrgae8 := Lib.hid erga8
              have Hrgae9 := Lib.hid erga9
              have Hrgae10 := Lib.hid erga10
              have Hrgae11 := Lib.hid erga11
              have Hrgae12 := Lib.hid erga12
              have Hrgae13 := Lib.hid erga13
              have Hrgae14 := Lib.hid erga14
              have Hrgae15 := Lib.hid erga15
              have Hrgae16 := Lib.hid erga16
              have Hrgae17 := Lib.hid erga17
              clear krga xrga strga crga hCrga hXrga erga0 erga1 erga2 erga3 erga4 erga5 erga6 erga7 erga8 erga9 erga10 erga11 erga12 erga13 erga14 erga15 erga16 erga17
              go_wp2_with fail
              refine Reg.regionF Erga Crga Xrga Hrgast.out (by kernel_rfl) (by kernel_rfl) (by kernel_rfl) Hrgac.out (fun Frga hFrga => ?_)
              simp only [Reg.frame, Reg.dsts, List.map_cons, List.map_nil, Mix.put_lit, List.set_cons_succ, List.set_cons_zero, Nat.zero_add, Nat.reduceAdd] at hFrga
              refine ⟨?_, ?_⟩
              · refine ⟨?_, ?_, ?_, ?_, ?_, ?_, ?_, ?_, ?_, ?_, ?_, ?_, ?_, ?_, ?_, ?_, ?_, ?_, trivial⟩
                · intro Lq wq xq hh
                  simp only [hFrga]
                  refine .inl ⟨rfl, ?_⟩
                  unfold Reg.upon
                  have hk := Hrgak.out 0 Lq wq  hh.cls
                  have hx := Hrgax.out wq
                  have he : Erga 0 (.int .i64 i) wq := by rw [Hrgae0.out]
                  have HK := Lib.hid (And.intro hk (And.intro he hx))
                  clear hk hx he
                  go_simp
                  exact HK.out
                · intro Lq wq xq hh
                  have d0 : Erga 0 (xq 0) wq := hh.val 0 (by kernel_rfl) (by kernel_rfl)
                  rw [Hrgae0.out] at d0
                  simp only [hFrga, d0]
                  clear d0
                  refine .inl ⟨rfl, ?_⟩
                  unfold Reg.upon
                  have hk := Hrgak.out 1 Lq wq  hh.cls
                  have hx := Hrgax.out wq
                  have he : Erga 1 (.bool true) wq := by rw [Hrgae1.out]
                  have HK := Lib.hid (And.intro hk (And.intro he hx))
                  clear hk hx he
                  go_simp
                  exact HK.out
                · intro Lq wq xq hh
                  have d1 : Erga 1 (xq 1) wq := hh.val 1 (by kernel_rfl) (by kernel_rfl)
                  rw [Hrgae1.out] at d1
                  simp only [hFrga, d1]
                  clear d1
                  refine .inl ⟨rfl, ?_⟩
                  unfold Reg.upon
                  have hk := Hrgak.out 2 Lq wq  hh.cls
                  have hx := Hrgax.out wq
                  have he : Erga 2 (.bool true) wq := by rw [Hrgae2.out]
                  have HK := Lib.hid (And.intro hk (And.intro he hx))
                  clear hk hx he
                  go_simp
                  exact HK.out
                · intro Lq wq xq hh
                  have d2 : Erga 2 (xq 2) wq := hh.val 2 (by kernel_rfl) (by kernel_rfl)
                  rw [Hrgae2.out] at d2
                  simp only [hFrga, d2]
                  clear d2
                  refine .inl ⟨rfl, ?_⟩
                  unfold Reg.upon
                  have hk := Hrgak.out 3 Lq wq  hh.cls
                  have hx := Hrgax.out wq
                  have he : Erga 3 (.pointer (some ⟨gg1, 0, none⟩)) wq := by rw [Hrgae3.out]
                  have HK := Lib.hid (And.intro hk (And.intro he hx))
                  clear hk hx he
                  go_simp
                  exact HK.out
                · intro Lq wq xq hh
                  have d2 : Erga 2 (xq 2) wq := hh.val 2 (by kernel_rfl) (by kernel_rfl)
                  rw [Hrgae2.out] at d2
                  simp only [hFrga, d2]
                  clear d2
                  refine .inl ⟨rfl, ?_⟩
                  unfold Reg.upon
                  have hk := Hrgak.out 4 Lq wq  hh.cls
                  have hx := Hrgax.out wq
                  have he : Erga 4 (.pointer (some ⟨gp, 0, none⟩)) wq := by rw [Hrgae4.out]
                  have HK := Lib.hid (And.intro hk (And.intro he hx))
                  clear hk hx he
                  go_simp
                  exact HK.out
                · intro Lq wq xq hh
                  have d2 : Erga 2 (xq 2) wq := hh.val 2 (by kernel_rfl) (by kernel_rfl)
                  rw [Hrgae2.out] at d2
                  simp only [hFrga, d2]
                  clear d2
                  refine .inl ⟨rfl, ?_⟩
                  unfold Reg.upon
                  have hk := Hrgak.out 5 Lq wq  hh.cls
                  have hx := Hrgax.out wq
                  have he : Erga 5 (.slice (some ⟨bl, ol, none⟩) m lc) wq := by rw [Hrgae5.out]
                  have HK := Lib.hid (And.intro hk (And.intro he hx))
                  clear hk hx he
                  go_simp
                  exact HK.out
                · intro Lq wq xq hh
                  have d2 : Erga 2 (xq 2) wq := hh.val 2 (by kernel_rfl) (by kernel_rfl)
                  rw [Hrgae2.out] at d2
                  simp only [hFrga, d2]
                  clear d2
                  refine .inl ⟨rfl, ?_⟩
                  unfold Reg.upon
                  have hk := Hrgak.out 6 Lq wq  hh.cls
                  have hx := Hrgax.out wq
                  have he : Erga 6 (.int .i64 i) wq := by rw [Hrgae6.out]
                  have HK := Lib.hid (And.intro hk (And.intro he hx))
                  clear hk hx he
                  go_simp
                  exact HK.out
                · intro Lq wq xq hh
                  have d2 : Erga 2 (xq 2) wq := hh.val 2 (by kernel_rfl) (by kernel_rfl)
                  rw [Hrgae2.out] at d2
                  have d5 : Erga 5 (xq 5) wq := hh.val 5 (by kernel_rfl) (by kernel_rfl)
                  rw [Hrgae5.out] at d5
                  have d6 : Erga 6 (xq 6) wq := hh.val 6 (by kernel_rfl) (by kernel_rfl)
                  rw [Hrgae6.out] at d6
                  simp only [hFrga, d2, d5, d6]
                  clear d2 d5 d6
                  refine .inl ⟨rfl, ?_⟩
                  unfold Reg.upon
                  have hk := Hrgak.out 7 Lq wq  hh.cls
                  have hx := Hrgax.out wq
                  have he : Erga 7 (.pointer (some ⟨bl, ol + i, none⟩)) wq := by rw [Hrgae7.out]
                  have HK := Lib.hid (And.intro hk (And.intro he hx))
                  clear hk hx he
                  go_simp
                  exact HK.out
                · intro Lq wq xq hh
                  have d2 : Erga 2 (xq 2) wq := hh.val 2 (by kernel_rfl) (by kernel_rfl)
                  rw [Hrgae2.out] at d2
                  have d7 : Erga 7 (xq 7) wq := hh.val 7 (by kernel_rfl) (by kernel_rfl)
                  rw [Hrgae7.out] at d7
                  simp only [hFrga, d2, d7]
                  clear d2 d7
                  refine .inl ⟨rfl, ?_⟩
                  unfold Reg.upon
                  have hc : Crga Lq wq := hh.cls
                  rw [HrgahC.out] at hc
                  have y0 := HCL.out wq (HLP.out.2.2.1.trans (hc.mono HLP.out.2.2.1.size))
                  clear hc
                  have hk := Hrgak.out 8 Lq wq  hh.cls
                  have hx := Hrgax.out wq
                  have he : Erga 8 (.int .i32 xi) wq := by rw [Hrgae8.out]
                  have HK := Lib.hid (And.intro hk (And.intro he hx))
                  clear hk hx he
                  go_simp
                  exact HK.out
                · intro Lq wq xq hh
                  have d2 : Erga 2 (xq 2) wq := hh.val 2 (by kernel_rfl) (by kernel_rfl)
                  rw [Hrgae2.out] at d2
                  simp only [hFrga, d2]
                  clear d2
                  refine .inl ⟨rfl, ?_⟩
                  unfold Reg.upon
                  have hk := Hrgak.out 9 Lq wq  hh.cls
                  have hx := Hrgax.out wq
                  have he : Erga 9 (.slice (some ⟨bp, op, none⟩) pn pc) wq := by rw [Hrgae9.out]
                  have HK := Lib.hid (And.intro hk (And.intro he hx))
                  clear hk hx he
                  go_simp
                  exact HK.out
                · intro Lq wq xq hh
                  have d2 : Erga 2 (xq 2) wq := hh.val 2 (by kernel_rfl) (by kernel_rfl)
                  rw [Hrgae2.out] at d2
                  simp only [hFrga, d2]
                  clear d2
                  refine .inl ⟨rfl, ?_⟩
                  unfold Reg.upon
                  have hk := Hrgak.out 10 Lq wq  hh.cls
                  have hx := Hrgax.out wq
                  have he : Erga 10 (.int .i64 i) wq := by rw [Hrgae10.out]
                  have HK := Lib.hid (And.intro hk (And.intro he hx))
                  clear hk hx he
                  go_simp
                  exact HK.out
                · intro Lq wq xq hh
                  have d2 : Erga 2 (xq 2) wq := hh.val 2 (by kernel_rfl) (by kernel_rfl)
                  rw [Hrgae2.out] at d2
                  have d9 : Erga 9 (xq 9) wq := hh.val 9 (by kernel_rfl) (by kernel_rfl)
                  rw [Hrgae9.out] at d9
                  have d10 : Erga 10 (xq 10) wq := hh.val 10 (by kernel_rfl) (by kernel_rfl)
                  rw [Hrgae10.out] at d10
                  simp only [hFrga, d2, d9, d10]
                  clear d2 d9 d10
                  refine .inl ⟨rfl, ?_⟩
                  unfold Reg.upon
                  have hk := Hrgak.out 11 Lq wq  hh.cls
                  have hx := Hrgax.out wq
                  have he : Erga 11 (.pointer (some ⟨bp, op + i * 4, none⟩)) wq := by rw [Hrgae11.out]
                  have HK := Lib.hid (And.intro hk (And.intro he hx))
                  clear hk hx he
                  go_simp
                  exact HK.out
                · intro Lq wq xq hh
                  have d2 : Erga 2 (xq 2) wq := hh.val 2 (by kernel_rfl) (by kernel_rfl)
                  rw [Hrgae2.out] at d2
                  have d11 : Erga 11 (xq 11) wq := hh.val 11 (by kernel_rfl) (by kernel_rfl)
                  rw [Hrgae11.out] at d11
                  simp only [hFrga, d2, d11]
                  clear d2 d11
                  refine .inl ⟨rfl, ?_⟩
                  unfold Reg.upon
                  have hc : Crga Lq wq := hh.cls
                  rw [HrgahC.out] at hc
                  obtain ⟨y0, y1, y2, y3⟩ := HCP.out wq (HLP.out.2.2.1.trans (hc.mono HLP.out.2.2.1.size))
                  clear hc
                  have hk := Hrgak.out 12 Lq wq  hh.cls
                  have hx := Hrgax.out wq
                  have he : Erga 12 (.agg #[.int .i64 qi.br, .bool qi.pc, .int .i64 qi.cv, .int .i64 qi.ea]) wq := by rw [Hrgae12.out]
                  have HK := Lib.hid (And.intro hk (And.intro he hx))
                  clear hk hx he
                  go_simp
                  exact HK.out
                · intro Lq wq xq hh
                  have d2 : Erga 2 (xq 2) wq := hh.val 2 (by kernel_rfl) (by kernel_rfl)
                  rw [Hrgae2.out] at d2
                  have d3 : Erga 3 (xq 3) wq := hh.val 3 (by kernel_rfl) (by kernel_rfl)
                  rw [Hrgae3.out] at d3
                  have d4 : Erga 4 (xq 4) wq := hh.val 4 (by kernel_rfl) (by kernel_rfl)
                  rw [Hrgae4.out] at d4
                  have d8 : Erga 8 (xq 8) wq := hh.val 8 (by kernel_rfl) (by kernel_rfl)
                  rw [Hrgae8.out] at d8
                  have d12 : Erga 12 (xq 12) wq := hh.val 12 (by kernel_rfl) (by kernel_rfl)
                  rw [Hrgae12.out] at d12
                  simp only [hFrga, d2, d3, d4, d8, d12]
                  clear d2 d3 d4 d8 d12
                  refine .inl ⟨rfl, ?_⟩
                  unfold Reg.upon
                  have hc : Crga Lq wq := hh.cls
                  rw [HrgahC.out] at hc
                  go_simp
                  refine (HJ.out _ hc).mono ?_
                  rintro e w2 ⟨rfl, hb⟩
                  exact ⟨_, rfl, Hrgak.out 13 Lq w2  (Hrgab.out Lq wq w2 hh.cls hb), (by rw [Hrgae13.out]; try rfl), Hrgaxb.out wq w2 hb⟩
                · intro Lq wq xq hh
                  have d2 : Erga 2 (xq 2) wq := hh.val 2 (by kernel_rfl) (by kernel_rfl)
                  rw [Hrgae2.out] at d2
                  simp only [hFrga, d2]
                  clear d2
                  refine .inl ⟨rfl, ?_⟩
                  unfold Reg.upon
                  have hk := Hrgak.out 14 Lq wq  hh.cls
                  have hx := Hrgax.out wq
                  have he : Erga 14 (.int .i64 i) wq := by rw [Hrgae14.out]
                  have HK := Lib.hid (And.intro hk (And.intro he hx))
                  clear hk hx he
                  go_simp
                  exact HK.out
                · intro Lq wq xq hh
                  have d2 : Erga 2 (xq 2) wq := hh.val 2 (by kernel_rfl) (by kernel_rfl)
                  rw [Hrgae2.out] at d2
                  have d14 : Erga 14 (xq 14) wq := hh.val 14 (by kernel_rfl) (by kernel_rfl)
                  rw [Hrgae14.out] at d14
                  simp only [hFrga, d2, d14]
                  clear d2 d14
                  refine .inl ⟨rfl, ?_⟩
                  unfold Reg.upon
                  have hk := Hrgak.out 15 Lq wq  hh.cls
                  have hx := Hrgax.out wq
                  have he : Erga 15 (.bool false) wq := by rw [Hrgae15.out]
                  have HK := Lib.hid (And.intro hk (And.intro he hx))
                  clear hk hx he
                  go_simp
                  exact HK.out
                · intro Lq wq xq hh
                  have d2 : Erga 2 (xq 2) wq := hh.val 2 (by kernel_rfl) (by kernel_rfl)
                  rw [Hrgae2.out] at d2
                  have d13 : Erga 13 (xq 13) wq := hh.val 13 (by kernel_rfl) (by kernel_rfl)
                  rw [Hrgae13.out] at d13
                  have d15 : Erga 15 (xq 15) wq := hh.val 15 (by kernel_rfl) (by kernel_rfl)
                  rw [Hrgae15.out] at d15
                  simp only [hFrga, d2, d13, d15]
                  clear d2 d13 d15
                  refine .inl ⟨rfl, ?_⟩
                  unfold Reg.upon
                  have hk := Hrgak.out 16 Lq wq  hh.cls
                  have hx := Hrgax.out wq
                  have he : Erga 16 (.bool false) wq := by rw [Hrgae16.out]
                  have HK := Lib.hid (And.intro hk (And.intro he hx))
                  clear hk hx he
                  go_simp
                  exact HK.out
                · intro Lq wq xq hh
                  have d2 : Erga 2 (xq 2) wq := hh.val 2 (by kernel_rfl) (by kernel_rfl)
                  rw [Hrgae2.out] at d2
                  have d16 : Erga 16 (xq 16) wq := hh.val 16 (by kernel_rfl) (by kernel_rfl)
                  rw [Hrgae16.out] at d16
                  simp only [hFrga, d2, d16]
                  clear d2 d16
                  refine .inl ⟨rfl, ?_⟩
                  unfold Reg.upon
                  have hk := Hrgak.out 17 Lq wq  hh.cls
                  have hx := Hrgax.out wq
                  have he : Erga 17 (.bool false) wq := by rw [Hrgae17.out]
                  have HK := Lib.hid (And.intro hk (And.intro he hx))
                  clear hk hx he
                  go_simp
                  exact HK.out
              intro xq wrga hcrga hvrga
              rw [HrgahC.out] at hcrga
              simp only [hFrga]
              have vrga17 : Erga 17 (xq 17) wrga := hvrga 17 (by decide)
              rw [Hrgae17.out] at vrga17
              rw [vrga17]
              clear hvrga hFrga Hrgak Hrgax Hrgast Hrgac HrgahC HrgahX Hrgab Hrgaxb Hrgae0 Hrgae1 Hrgae2 Hrgae3 Hrgae4 Hrgae5 Hrgae6 Hrgae7 Hrgae8 Hrgae9 Hrgae10 Hrgae11 Hrgae12 Hrgae13 Hrgae14 Hrgae15 Hrgae16 Hrgae17
              have HF := Lib.hid (HLP.out.below hcrga)
              rw [← HE.out.2] at HF
              clear hcrga
              go_wp2
              go_meet
              case rel => exact ⟨rfl, by rw [HE.out.2] at HF ⊢; exact HF.out⟩
          case rest =>
            obtain ⟨rfl, hlp⟩ := hcut
            obtain ⟨wx, hwx⟩ : ∃ wx, wx = wc := ⟨_, rfl⟩
            subst hwx
            have HLQ := Lib.hid hlp
            clear hlp HLP HCL HCP
            obtain ⟨K, hK⟩ : ∃ K, K = min (i + 1) 16 := ⟨_, rfl⟩
            rw [← hK] at HLQ
            have hil1 : i + 1 ≤ xs.length := by rw [← HMM.out]; omega
            have hip1 : i + 1 ≤ L.length := by rw [← HPN.out]; omega
            have hrow := cwW_row xs L (i + 1) K hil1 hip1 hK
            obtain ⟨X, hX⟩ : ∃ X, X = gwI (cwW xs L K) := ⟨_, rfl⟩
            obtain ⟨TT, hTT⟩ : ∃ TT, TT = numT xs K := ⟨_, rfl⟩
            obtain ⟨RR, hRR⟩ : ∃ RR : Int, RR = (plcR Ls wd r2 c2 pd2 au X : Nat) := ⟨_, rfl⟩
            obtain ⟨CC0, hCC⟩ : ∃ CC0 : Int, CC0 = (plcC wd c2 pd2 au X : Nat) := ⟨_, rfl⟩
            obtain ⟨CA, hCA⟩ : ∃ CA : Int, CA = aftC (plcC wd c2 pd2 au X : Nat) (plcK wd X) wd := ⟨_, rfl⟩
            obtain ⟨PA, hPA⟩ : ∃ PA : Bool, PA = aftP (plcC wd c2 pd2 au X : Nat) (plcK wd X) wd au := ⟨_, rfl⟩
            obtain ⟨LL, hLL⟩ : ∃ LL, LL = plcL Ls wd r2 c2 pd2 au X TT := ⟨_, rfl⟩
            have HPUT := Lib.hid (show ∀ w', Below wx.heap.size wx w' → Calls Tryz.prog 17 #[.agg #[.slice ao n ca, .int .i64 P, .int .i64 Q, .bool S, .bool au], .slice (some ⟨bl, ol, none⟩) (i + 1) lc, .slice (some ⟨bp, op, none⟩) (i + 1) pc] w' (fun e w2 => ∃ v t, e = .returned ((fun v t => Value.tuple #[.agg #[v, .int .i64 RR, .int .i64 CA, .bool PA, .bool au], .agg #[.int .i64 RR, .int .i64 CC0, .bool false], .int .i64 X, t]) v t) ∧ HeldE lineE (fun b => b < w1.heap.size ∨ w'.heap.size ≤ b) w2 v LL ∧ HeldE (intE .i32) (fun b => w'.heap.size ≤ b) w2 t TT ∧ Below w'.heap.size w' w2) from fun w' hb => by
              have hb1 := HLQ.out.2.2.1.trans (hb.mono HLQ.out.2.2.1.size)
              have hbw := BW1.out.trans (hb1.mono BW1.out.size)
              have ht := heldw_take (HLL.out.below hbw) (i + 1) hil1
              have hq := props_take (HL.out.below hb1) (i + 1) hip1
              have e1 : (xs.take (i + 1)).length = i + 1 := by rw [List.length_take]; omega
              have e2 : (L.take (i + 1)).length = i + 1 := by rw [List.length_take]; omega
              have hv := (HA.out.zone (Y := fun b => b < w1.heap.size) fun b hb _ => Nat.lt_of_lt_of_le hb BW1.out.size).below hbw
              have h := rwput_any (fun b => b < w1.heap.size) (.slice ao n ca) Ls P Q S au (some ⟨bl, ol, none⟩) (some ⟨bp, op, none⟩) lc pc (xs.take (i + 1)) (L.take (i + 1)) w' wd hv (by rw [e1]; exact ht) (by rw [e2]; exact hq) (by rw [e1, e2]) (by rw [e2]; have := HXM.out; omega) (by rw [e1]; have := HM40.out; omega) HEV.out r2 c2 pd2 HR2.out.1 HR2.out.2.1 HR2.out.2.2 HLR.out HLC.out K (by rw [e1]; exact hK) X (by rw [hrow.1]; exact hX)
              rw [e1, e2, hrow.2, ← hTT, ← hLL, ← hCA, ← hPA, ← hRR, ← hCC] at h
              exact h)
            have HBOX := Lib.hid (show Has wx b8 [.slice ao n ca, .int .i64 P, .int .i64 Q, .bool S, .bool au] 43 from by have h := HLQ.out.2.1; rw [HBX.out] at h; exact h)
            have hi1c : i + 1 ≤ lc := by have := HXM.out; omega
            have hi1ci : (i : Int) + 1 ≤ (lc : Int) := by omega
            have hi1p : i + 1 ≤ pc := by have := HXM.out; omega
            have hi1pi : (i : Int) + 1 ≤ (pc : Int) := by omega
            have HEQ := Lib.hid (And.intro hX (And.intro hTT (And.intro hRR (And.intro hCC (And.intro hCA (And.intro hPA hLL))))))
            have HHK := Lib.hid hK
            clear hX hTT hRR hCC hCA hPA hLL hrow hil1 hip1 hK
            go_upto_region 17 with (fail)
            obtain ⟨Ergc, hErgc⟩ : ∃ EE : Nat → Value → World → Prop, EE = fun jj xx ww => match jj with
                | 0 => xx = .agg #[.slice ao n ca, .int .i64 P, .int .i64 Q, .bool S, .bool au]
                | 1 => xx = .slice (some ⟨bl, ol, none⟩) m lc
                | 2 => xx = .int .i64 i
                | 3 => xx = .int .i64 ((i : Int) + 1)
                | 4 => xx = .slice (some ⟨bl, ol, none⟩) (i + 1) lc
                | 5 => xx = .slice (some ⟨bp, op, none⟩) pn pc
                | 6 => xx = .int .i64 i
                | 7 => xx = .int .i64 ((i : Int) + 1)
                | 8 => xx = .slice (some ⟨bp, op, none⟩) (i + 1) pc
                | 9 => (fun x w' => ∃ v t, x = .tuple #[.agg #[v, .int .i64 RR, .int .i64 CA, .bool PA, .bool au], .agg #[.int .i64 RR, .int .i64 CC0, .bool false], .int .i64 X, t] ∧ HeldE lineE (fun _ => True) w' v LL ∧ HeldE (intE .i32) (fun _ => True) w' t TT) xx ww
                | 10 => (fun x w' => ∃ v t, x = .tuple #[.agg #[v, .int .i64 RR, .int .i64 CA, .bool PA, .bool au], .agg #[.int .i64 RR, .int .i64 CC0, .bool false], .int .i64 X, t] ∧ HeldE lineE (fun _ => True) w' v LL ∧ HeldE (intE .i32) (fun _ => True) w' t TT) xx ww
                | 11 => (fun x w' => ∃ v, x = .agg #[v, .int .i64 RR, .int .i64 CA, .bool PA, .bool au] ∧ HeldE lineE (fun _ => True) w' v LL) xx ww
                | 12 => xx = .agg #[.int .i64 RR, .int .i64 CC0, .bool false]
                | 13 => xx = .int .i64 X
                | 14 => (fun x w' => HeldE (intE .i32) (fun _ => True) w' x TT) xx ww
                | 15 => (fun _ _ => True) xx ww
                | 16 => (fun _ _ => True) xx ww
                | 17 => xx = undef
                | 18 => xx = undef
                | 19 => xx = .int .i64 X
                | 20 => (fun x w' => HeldE (intE .i32) (fun _ => True) w' x TT) xx ww
                | _ => True := ⟨_, rfl⟩
            have ergc0 : ∀ xx ww, Ergc 0 xx ww = (xx = .agg #[.slice ao n ca, .int .i64 P, .int .i64 Q, .bool S, .bool au]) := fun xx ww => congrFun (congrFun (congrFun hErgc 0) xx) ww
            have ergc1 : ∀ xx ww, Ergc 1 xx ww = (xx = .slice (some ⟨bl, ol, none⟩) m lc) := fun xx ww => congrFun (congrFun (congrFun hErgc 1) xx) ww
            have ergc2 : ∀ xx ww, Ergc 2 xx ww = (xx = .int .i64 i) := fun xx ww => congrFun (congrFun (congrFun hErgc 2) xx) ww
            have ergc3 : ∀ xx ww, Ergc 3 xx ww = (xx = .int .i64 ((i : Int) + 1)) := fun xx ww => congrFun (congrFun (congrFun hErgc 3) xx) ww
            have ergc4 : ∀ xx ww, Ergc 4 xx ww = (xx = .slice (some ⟨bl, ol, none⟩) (i + 1) lc) := fun xx ww => congrFun (congrFun (congrFun hErgc 4) xx) ww
            have ergc5 : ∀ xx ww, Ergc 5 xx ww = (xx = .slice (some ⟨bp, op, none⟩) pn pc) := fun xx ww => congrFun (congrFun (congrFun hErgc 5) xx) ww
            have ergc6 : ∀ xx ww, Ergc 6 xx ww = (xx = .int .i64 i) := fun xx ww => congrFun (congrFun (congrFun hErgc 6) xx) ww
            have ergc7 : ∀ xx ww, Ergc 7 xx ww = (xx = .int .i64 ((i : Int) + 1)) := fun xx ww => congrFun (congrFun (congrFun hErgc 7) xx) ww
            have ergc8 : ∀ xx ww, Ergc 8 xx ww = (xx = .slice (some ⟨bp, op, none⟩) (i + 1) pc) := fun xx ww => congrFun (congrFun (congrFun hErgc 8) xx) ww
            have ergc9 : ∀ xx ww, Ergc 9 xx ww = ((fun x w' => ∃ v t, x = .tuple #[.agg #[v, .int .i64 RR, .int .i64 CA, .bool PA, .bool au], .agg #[.int .i64 RR, .int .i64 CC0, .bool false], .int .i64 X, t] ∧ HeldE lineE (fun _ => True) w' v LL ∧ HeldE (intE .i32) (fun _ => True) w' t TT) xx ww) := fun xx ww => congrFun (congrFun (congrFun hErgc 9) xx) ww
            have ergc10 : ∀ xx ww, Ergc 10 xx ww = ((fun x w' => ∃ v t, x = .tuple #[.agg #[v, .int .i64 RR, .int .i64 CA, .bool PA, .bool au], .agg #[.int .i64 RR, .int .i64 CC0, .bool false], .int .i64 X, t] ∧ HeldE lineE (fun _ => True) w' v LL ∧ HeldE (intE .i32) (fun _ => True) w' t TT) xx ww) := fun xx ww => congrFun (congrFun (congrFun hErgc 10) xx) ww
            have ergc11 : ∀ xx ww, Ergc 11 xx ww = ((fun x w' => ∃ v, x = .agg #[v, .int .i64 RR, .int .i64 CA, .bool PA, .bool au] ∧ HeldE lineE (fun _ => True) w' v LL) xx ww) := fun xx ww => congrFun (congrFun (congrFun hErgc 11) xx) ww
            have ergc12 : ∀ xx ww, Ergc 12 xx ww = (xx = .agg #[.int .i64 RR, .int .i64 CC0, .bool false]) := fun xx ww => congrFun (congrFun (congrFun hErgc 12) xx) ww
            have ergc13 : ∀ xx ww, Ergc 13 xx ww = (xx = .int .i64 X) := fun xx ww => congrFun (congrFun (congrFun hErgc 13) xx) ww
            have ergc14 : ∀ xx ww, Ergc 14 xx ww = ((fun x w' => HeldE (intE .i32) (fun _ => True) w' x TT) xx ww) := fun xx ww => congrFun (congrFun (congrFun hErgc 14) xx) ww
            have ergc15 : ∀ xx ww, Ergc 15 xx ww = ((fun _ _ => True) xx ww) := fun xx ww => congrFun (congrFun (congrFun hErgc 15) xx) ww
            have ergc16 : ∀ xx ww, Ergc 16 xx ww = ((fun _ _ => True) xx ww) := fun xx ww => congrFun (congrFun (congrFun hErgc 16) xx) ww
            have ergc17 : ∀ xx ww, Ergc 17 xx ww = (xx = undef) := fun xx ww => congrFun (congrFun (congrFun hErgc 17) xx) ww
            have ergc18 : ∀ xx ww, Ergc 18 xx ww = (xx = undef) := fun xx ww => congrFun (congrFun (congrFun hErgc 18) xx) ww
            have ergc19 : ∀ xx ww, Ergc 19 xx ww = (xx = .int .i64 X) := fun xx ww => congrFun (congrFun (congrFun hErgc 19) xx) ww
            have ergc20 : ∀ xx ww, Ergc 20 xx ww = ((fun x w' => HeldE (intE .i32) (fun _ => True) w' x TT) xx ww) := fun xx ww => congrFun (congrFun (congrFun hErgc 20) xx) ww
            obtain ⟨Crgc, hCrgc⟩ : ∃ CC : Array Bool → Value → Value → World → Prop, CC = fun L8 y z w' => Tw (fun v => [v, .int .i64 RR, .int .i64 CA, .bool PA, .bool au]) [.int .i64 RR, .int .i64 CC0, .bool false] LL wx (Mix.one L8 15) (Mix.one L8 16) (Mix.one L8 17) (Mix.one L8 18) y z w' := ⟨_, rfl⟩
            have krgc : ∀ i L {x y : Value} w, i ≠ 15 → i ≠ 16 → i ≠ 17 → i ≠ 18 →  Crgc L x y w → Crgc (L.setIfInBounds i true) x y w := by
              intro i L x y w q15 q16 q17 q18 h
              rw [hCrgc] at h ⊢
              simp only [Mix.one_ne q15, Mix.one_ne q16, Mix.one_ne q17, Mix.one_ne q18]; exact h
            obtain ⟨Xrgc, hXrgc⟩ : ∃ XX : World → World → Prop, XX = fun a b => KeepH a b := ⟨_, rfl⟩
            have xrgc : ∀ w, Xrgc w w := fun w => by rw [hXrgc]; exact KeepH.refl _
            have strgc : ∀ j x w w1, Xrgc w w1 → Ergc j x w → Ergc j x w1 := by
              intro j x w w1 hx h
              rw [hXrgc] at hx
              match j with
              | 0 => rw [ergc0] at h ⊢; exact h
              | 1 => rw [ergc1] at h ⊢; exact h
              | 2 => rw [ergc2] at h ⊢; exact h
              | 3 => rw [ergc3] at h ⊢; exact h
              | 4 => rw [ergc4] at h ⊢; exact h
              | 5 => rw [ergc5] at h ⊢; exact h
              | 6 => rw [ergc6] at h ⊢; exact h
              | 7 => rw [ergc7] at h ⊢; exact h
              | 8 => rw [ergc8] at h ⊢; exact h
              | 9 => rw [ergc9] at h ⊢; (first | exact hx.2 _ _ h | (obtain ⟨v, t, e, h1, h2⟩ := h; exact ⟨v, t, e, hx.1 _ _ h1, hx.2 _ _ h2⟩) | (obtain ⟨v, e, h1⟩ := h; exact ⟨v, e, hx.1 _ _ h1⟩) | exact h)
              | 10 => rw [ergc10] at h ⊢; (first | exact hx.2 _ _ h | (obtain ⟨v, t, e, h1, h2⟩ := h; exact ⟨v, t, e, hx.1 _ _ h1, hx.2 _ _ h2⟩) | (obtain ⟨v, e, h1⟩ := h; exact ⟨v, e, hx.1 _ _ h1⟩) | exact h)
              | 11 => rw [ergc11] at h ⊢; (first | exact hx.2 _ _ h | (obtain ⟨v, t, e, h1, h2⟩ := h; exact ⟨v, t, e, hx.1 _ _ h1, hx.2 _ _ h2⟩) | (obtain ⟨v, e, h1⟩ := h; exact ⟨v, e, hx.1 _ _ h1⟩) | exact h)
              | 12 => rw [ergc12] at h ⊢; exact h
              | 13 => rw [ergc13] at h ⊢; exact h
              | 14 => rw [ergc14] at h ⊢; (first | exact hx.2 _ _ h | (obtain ⟨v, t, e, h1, h2⟩ := h; exact ⟨v, t, e, hx.1 _ _ h1, hx.2 _ _ h2⟩) | (obtain ⟨v, e, h1⟩ := h; exact ⟨v, e, hx.1 _ _ h1⟩) | exact h)
              | 15 => rw [ergc15] at h ⊢; (first | exact hx.2 _ _ h | (obtain ⟨v, t, e, h1, h2⟩ := h; exact ⟨v, t, e, hx.1 _ _ h1, hx.2 _ _ h2⟩) | (obtain ⟨v, e, h1⟩ := h; exact ⟨v, e, hx.1 _ _ h1⟩) | exact h)
              | 16 => rw [ergc16] at h ⊢; (first | exact hx.2 _ _ h | (obtain ⟨v, t, e, h1, h2⟩ := h; exact ⟨v, t, e, hx.1 _ _ h1, hx.2 _ _ h2⟩) | (obtain ⟨v, e, h1⟩ := h; exact ⟨v, e, hx.1 _ _ h1⟩) | exact h)
              | 17 => rw [ergc17] at h ⊢; exact h
              | 18 => rw [ergc18] at h ⊢; exact h
              | 19 => rw [ergc19] at h ⊢; exact h
              | 20 => rw [ergc20] at h ⊢; (first | exact hx.2 _ _ h | (obtain ⟨v, t, e, h1, h2⟩ := h; exact ⟨v, t, e, hx.1 _ _ h1, hx.2 _ _ h2⟩) | (obtain ⟨v, e, h1⟩ := h; exact ⟨v, e, hx.1 _ _ h1⟩) | exact h)
              | j + 21 => rw [hErgc]; trivial
            have crgc : ∀ x y, Crgc (Array.replicate 21 false) x y wx.drew := fun x y => by rw [hCrgc]; exact Tw.start (Below.refl _ _).drew
            have brgc : ∀ L {x y : Value} w w1, Crgc L x y w → Below w.heap.size w w1 → Crgc L x y w1 := by
              intro L x y w w1 h hb
              rw [hCrgc] at h ⊢
              exact h.below hb
            have xbrgc : ∀ w w1, Below w.heap.size w w1 → Xrgc w w1 := by
              intro w w1 hb
              rw [hXrgc]
              exact KeepH.ofBelow hb
            have Hrgcb : Go.RowKit.Hid (∀ L {x y : Value} w w1, Crgc L x y w → Below w.heap.size w w1 → Crgc L x y w1) := @brgc
            have Hrgcxb := Lib.hid xbrgc
            clear brgc xbrgc
            clear hErgc
            have Hrgck : Go.RowKit.Hid (∀ i L {x y : Value} w, i ≠ 15 → i ≠ 16 → i ≠ 17 → i ≠ 18 →  Crgc L x y w → Crgc (L.setIfInBounds i true) x y w) := @krgc
            have Hrgcx := Lib.hid xrgc
            have Hrgcst := Lib.hid strgc
            have Hrgcc := Lib.hid crgc
            have HrgchC := Lib.hid hCrgc
            have HrgchX := Lib.hid hXrgc
            have Hrgce0 := Lib.hid ergc0
            have Hrgce1 := Lib.hid ergc1
            have Hrgce2 := Lib.hid ergc2
            have Hrgce3 := Lib.hid ergc3
            have Hrgce4 := Lib.hid ergc4
            have Hrgce5 := Lib.hid ergc5
            have Hrgce6 := Lib.hid ergc6
            have Hrgce7 := Lib.hid ergc7
            have Hrgce8 := Lib.hid ergc8
            have Hrgce9 := Lib.hid ergc9
            have Hrgce10 := Lib.hid ergc10
            have Hrgce11 := Lib.hid ergc11
            have Hrgce12 := Lib.hid ergc12
            have Hrgce13 := Lib.hid ergc13
            have Hrgce14 := Lib.hid ergc14
            have Hrgce15 := Lib.hid ergc15
            have Hrgce16 := Lib.hid ergc16
            have Hrgce17 := Lib.hid ergc17
            have Hrgce18 := Lib.hid ergc18
            have Hrgce19 := Lib.hid ergc19
            have Hrgce20 := Lib.hid ergc20
            clear krgc xrgc strgc crgc hCrgc hXrgc ergc0 ergc1 ergc2 ergc3 ergc4 ergc5 ergc6 ergc7 ergc8 ergc9 ergc10 ergc11 ergc12 ergc13 ergc14 ergc15 ergc16 ergc17 ergc18 ergc19 ergc20
            go_wp2_with fail
            refine RegC.regionF2 15 16 Ergc Crgc Xrgc Hrgcst.out (by kernel_rfl) (by kernel_rfl) (by kernel_rfl) Hrgcc.out (fun Frgc hFrgc => ?_)
            simp only [Reg.frame, Reg.dsts, List.map_cons, List.map_nil, Mix.put_lit, Reg.put_none, List.set_cons_succ, List.set_cons_zero, Nat.zero_add, Nat.reduceAdd] at hFrgc
            refine ⟨?_, ?_⟩
            · refine ⟨?_, ?_, ?_, ?_, ?_, ?_, ?_, ?_, ?_, ?_, ?_, ?_, ?_, ?_, ?_, ?_, ?_, ?_, ?_, ?_, ?_, trivial⟩
              · intro Lq wq xq hh
                simp only [hFrgc]
                refine .inl ⟨rfl, ?_⟩
                unfold Reg.upon
                have hc : Crgc Lq (xq 15) (xq 16) wq := hh.cls
                rw [HrgchC.out] at hc
                have hq := HBOX.out.below hc.1 HBOX.out.lt
                have q0 := hq.cell 0 _ rfl
                have q1 := hq.cell 1 _ rfl
                have q2 := hq.cell 2 _ rfl
                have q3 := hq.cell 3 _ rfl
                have q4 := hq.cell 4 _ rfl
                clear hc
                have hk := Hrgck.out 0 Lq wq (by decide) (by decide) (by decide) (by decide)  hh.cls
                have hx := Hrgcx.out wq
                have he : Ergc 0 (.agg #[.slice ao n ca, .int .i64 P, .int .i64 Q, .bool S, .bool au]) wq := by rw [Hrgce0.out]
                have HK := Lib.hid (And.intro hk (And.intro he hx))
                clear hk hx he
                go_simp
                exact HK.out
              · intro Lq wq xq hh
                simp only [hFrgc]
                refine .inl ⟨rfl, ?_⟩
                unfold Reg.upon
                have hk := Hrgck.out 1 Lq wq (by decide) (by decide) (by decide) (by decide)  hh.cls
                have hx := Hrgcx.out wq
                have he : Ergc 1 (.slice (some ⟨bl, ol, none⟩) m lc) wq := by rw [Hrgce1.out]
                have HK := Lib.hid (And.intro hk (And.intro he hx))
                clear hk hx he
                go_simp
                exact HK.out
              · intro Lq wq xq hh
                simp only [hFrgc]
                refine .inl ⟨rfl, ?_⟩
                unfold Reg.upon
                have hk := Hrgck.out 2 Lq wq (by decide) (by decide) (by decide) (by decide)  hh.cls
                have hx := Hrgcx.out wq
                have he : Ergc 2 (.int .i64 i) wq := by rw [Hrgce2.out]
                have HK := Lib.hid (And.intro hk (And.intro he hx))
                clear hk hx he
                go_simp
                exact HK.out
              · intro Lq wq xq hh
                have d2 : Ergc 2 (xq 2) wq := hh.val 2 (by kernel_rfl) (by kernel_rfl)
                rw [Hrgce2.out] at d2
                simp only [hFrgc, d2]
                clear d2
                refine .inl ⟨rfl, ?_⟩
                unfold Reg.upon
                have hk := Hrgck.out 3 Lq wq (by decide) (by decide) (by decide) (by decide)  hh.cls
                have hx := Hrgcx.out wq
                have he : Ergc 3 (.int .i64 ((i : Int) + 1)) wq := by rw [Hrgce3.out]
                have HK := Lib.hid (And.intro hk (And.intro he hx))
                clear hk hx he
                go_simp
                exact HK.out
              · intro Lq wq xq hh
                have d1 : Ergc 1 (xq 1) wq := hh.val 1 (by kernel_rfl) (by kernel_rfl)
                rw [Hrgce1.out] at d1
                have d3 : Ergc 3 (xq 3) wq := hh.val 3 (by kernel_rfl) (by kernel_rfl)
                rw [Hrgce3.out] at d3
                simp only [hFrgc, d1, d3]
                clear d1 d3
                refine .inl ⟨rfl, ?_⟩
                unfold Reg.upon
                have hk := Hrgck.out 4 Lq wq (by decide) (by decide) (by decide) (by decide)  hh.cls
                have hx := Hrgcx.out wq
                have he : Ergc 4 (.slice (some ⟨bl, ol, none⟩) (i + 1) lc) wq := by rw [Hrgce4.out]
                have HK := Lib.hid (And.intro hk (And.intro he hx))
                clear hk hx he
                go_simp
                exact HK.out
              · intro Lq wq xq hh
                simp only [hFrgc]
                refine .inl ⟨rfl, ?_⟩
                unfold Reg.upon
                have hk := Hrgck.out 5 Lq wq (by decide) (by decide) (by decide) (by decide)  hh.cls
                have hx := Hrgcx.out wq
                have he : Ergc 5 (.slice (some ⟨bp, op, none⟩) pn pc) wq := by rw [Hrgce5.out]
                have HK := Lib.hid (And.intro hk (And.intro he hx))
                clear hk hx he
                go_simp
                exact HK.out
              · intro Lq wq xq hh
                simp only [hFrgc]
                refine .inl ⟨rfl, ?_⟩
                unfold Reg.upon
                have hk := Hrgck.out 6 Lq wq (by decide) (by decide) (by decide) (by decide)  hh.cls
                have hx := Hrgcx.out wq
                have he : Ergc 6 (.int .i64 i) wq := by rw [Hrgce6.out]
                have HK := Lib.hid (And.intro hk (And.intro he hx))
                clear hk hx he
                go_simp
                exact HK.out
              · intro Lq wq xq hh
                have d6 : Ergc 6 (xq 6) wq := hh.val 6 (by kernel_rfl) (by kernel_rfl)
                rw [Hrgce6.out] at d6
                simp only [hFrgc, d6]
                clear d6
                refine .inl ⟨rfl, ?_⟩
                unfold Reg.upon
                have hk := Hrgck.out 7 Lq wq (by decide) (by decide) (by decide) (by decide)  hh.cls
                have hx := Hrgcx.out wq
                have he : Ergc 7 (.int .i64 ((i : Int) + 1)) wq := by rw [Hrgce7.out]
                have HK := Lib.hid (And.intro hk (And.intro he hx))
                clear hk hx he
                go_simp
                exact HK.out
              · intro Lq wq xq hh
                have d5 : Ergc 5 (xq 5) wq := hh.val 5 (by kernel_rfl) (by kernel_rfl)
                rw [Hrgce5.out] at d5
                have d7 : Ergc 7 (xq 7) wq := hh.val 7 (by kernel_rfl) (by kernel_rfl)
                rw [Hrgce7.out] at d7
                simp only [hFrgc, d5, d7]
                clear d5 d7
                refine .inl ⟨rfl, ?_⟩
                unfold Reg.upon
                have hk := Hrgck.out 8 Lq wq (by decide) (by decide) (by decide) (by decide)  hh.cls
                have hx := Hrgcx.out wq
                have he : Ergc 8 (.slice (some ⟨bp, op, none⟩) (i + 1) pc) wq := by rw [Hrgce8.out]
                have HK := Lib.hid (And.intro hk (And.intro he hx))
                clear hk hx he
                go_simp
                exact HK.out
              · intro Lq wq xq hh
                have d0 : Ergc 0 (xq 0) wq := hh.val 0 (by kernel_rfl) (by kernel_rfl)
                rw [Hrgce0.out] at d0
                have d4 : Ergc 4 (xq 4) wq := hh.val 4 (by kernel_rfl) (by kernel_rfl)
                rw [Hrgce4.out] at d4
                have d8 : Ergc 8 (xq 8) wq := hh.val 8 (by kernel_rfl) (by kernel_rfl)
                rw [Hrgce8.out] at d8
                simp only [hFrgc, d0, d4, d8]
                clear d0 d4 d8
                refine .inl ⟨rfl, ?_⟩
                unfold Reg.upon
                have hc : Crgc Lq (xq 15) (xq 16) wq := hh.cls
                rw [HrgchC.out] at hc
                have hrs := HPUT.out wq hc.1
                clear hc
                go_simp
                refine hrs.mono ?_
                rintro e w9 ⟨v, t, rfl, hv, ht, hb⟩
                refine ⟨_, rfl, Hrgck.out 9 Lq w9 (by decide) (by decide) (by decide) (by decide)  (Hrgcb.out Lq wq w9 hh.cls hb), ?_, Hrgcxb.out wq w9 hb⟩
                rw [Hrgce9.out]
                exact ⟨v, t, rfl, hv.zone fun _ _ _ => trivial, ht.zone fun _ _ _ => trivial⟩
              · intro Lq wq xq hh
                have d9 : Ergc 9 (xq 9) wq := hh.val 9 (by kernel_rfl) (by kernel_rfl)
                rw [Hrgce9.out] at d9
                simp only [hFrgc]
                refine .inl ⟨rfl, ?_⟩
                unfold Reg.upon
                go_simp
                exact ⟨Hrgck.out 10 Lq wq (by decide) (by decide) (by decide) (by decide)  hh.cls, (by rw [Hrgce10.out]; exact d9), Hrgcx.out wq⟩
              · intro Lq wq xq hh
                have d10 : Ergc 10 (xq 10) wq := hh.val 10 (by kernel_rfl) (by kernel_rfl)
                rw [Hrgce10.out] at d10
                simp only [hFrgc]
                refine .inl ⟨rfl, ?_⟩
                unfold Reg.upon
                obtain ⟨v, t, e10, h10, t10⟩ := d10
                rw [e10]
                go_simp
                exact ⟨Hrgck.out 11 Lq wq (by decide) (by decide) (by decide) (by decide)  hh.cls, (by rw [Hrgce11.out]; exact ⟨v, rfl, h10⟩), Hrgcx.out wq⟩
              · intro Lq wq xq hh
                have d10 : Ergc 10 (xq 10) wq := hh.val 10 (by kernel_rfl) (by kernel_rfl)
                rw [Hrgce10.out] at d10
                simp only [hFrgc]
                refine .inl ⟨rfl, ?_⟩
                unfold Reg.upon
                obtain ⟨v, t, e10, h10, t10⟩ := d10
                rw [e10]
                go_simp
                exact ⟨Hrgck.out 12 Lq wq (by decide) (by decide) (by decide) (by decide)  hh.cls, (by rw [Hrgce12.out]), Hrgcx.out wq⟩
              · intro Lq wq xq hh
                have d10 : Ergc 10 (xq 10) wq := hh.val 10 (by kernel_rfl) (by kernel_rfl)
                rw [Hrgce10.out] at d10
                simp only [hFrgc]
                refine .inl ⟨rfl, ?_⟩
                unfold Reg.upon
                obtain ⟨v, t, e10, h10, t10⟩ := d10
                rw [e10]
                go_simp
                exact ⟨Hrgck.out 13 Lq wq (by decide) (by decide) (by decide) (by decide)  hh.cls, (by rw [Hrgce13.out]), Hrgcx.out wq⟩
              · intro Lq wq xq hh
                have d10 : Ergc 10 (xq 10) wq := hh.val 10 (by kernel_rfl) (by kernel_rfl)
                rw [Hrgce10.out] at d10
                simp only [hFrgc]
                refine .inl ⟨rfl, ?_⟩
                unfold Reg.upon
                obtain ⟨v, t, e10, h10, t10⟩ := d10
                rw [e10]
                go_simp
                exact ⟨Hrgck.out 14 Lq wq (by decide) (by decide) (by decide) (by decide)  hh.cls, (by rw [Hrgce14.out]; exact t10), Hrgcx.out wq⟩
              · intro Lq wq xq hh
                simp only [hFrgc]
                refine .inl ⟨rfl, ?_⟩
                unfold Reg.upon
                have hc : Crgc Lq (xq 15) (xq 16) wq := hh.cls
                rw [HrgchC.out] at hc
                have q15 : Mix.one Lq 15 = 0 := hh.un
                have q17 : Mix.one Lq 17 = 0 := Mix.one_un (hh.notYet 17 (by kernel_rfl))
                have hc : Tw _ _ _ _ (Mix.one Lq 15) (Mix.one Lq 16) (Mix.one Lq 17) (Mix.one Lq 18) _ _ _ := hc
                rw [q15, q17] at hc
                have hn := Tw.pen hc
                have hF : Crgc (Lq.setIfInBounds 15 true) (.pointer (some ⟨wq.heap.size, 0, none⟩)) (xq 16) (wq.alloc (.cells [Value.slice none 0 0, .int .i64 0, .int .i64 0, .bool false, .bool false].toArray 43)) := by
                  rw [HrgchC.out]
                  show Tw _ _ _ _ (Mix.one (Lq.setIfInBounds 15 true) 15) (Mix.one (Lq.setIfInBounds 15 true) 16) (Mix.one (Lq.setIfInBounds 15 true) 17) (Mix.one (Lq.setIfInBounds 15 true) 18) _ _ _
                  rw [Mix.one_set (by rw [hh.size]; decide), Mix.one_ne (by decide), Mix.one_ne (by decide), Mix.one_ne (by decide), q17]
                  exact hn.1
                have hE : Ergc 15 (.pointer (some ⟨wq.heap.size, 0, none⟩)) (wq.alloc (.cells [Value.slice none 0 0, .int .i64 0, .int .i64 0, .bool false, .bool false].toArray 43)) := by rw [Hrgce15.out]; trivial
                have hX : Xrgc wq (wq.alloc (.cells [Value.slice none 0 0, .int .i64 0, .int .i64 0, .bool false, .bool false].toArray 43)) := by rw [HrgchX.out]; exact hn.2
                clear hc hn q15 q17
                go_simp
                exact ⟨hF, hE, hX⟩
              · intro Lq wq xq hh
                simp only [hFrgc]
                refine .inl ⟨rfl, ?_⟩
                unfold Reg.upon
                have hc : Crgc Lq (xq 15) (xq 16) wq := hh.cls
                rw [HrgchC.out] at hc
                have q16 : Mix.one Lq 16 = 0 := hh.un
                have q18 : Mix.one Lq 18 = 0 := Mix.one_un (hh.notYet 18 (by kernel_rfl))
                have hc : Tw _ _ _ _ (Mix.one Lq 15) (Mix.one Lq 16) (Mix.one Lq 17) (Mix.one Lq 18) _ _ _ := hc
                rw [q16, q18] at hc
                have hn := Tw.cursor hc
                have hF : Crgc (Lq.setIfInBounds 16 true) (xq 15) (.pointer (some ⟨wq.heap.size, 0, none⟩)) (wq.alloc (.cells [Value.int .i64 0, .int .i64 0, .bool false].toArray 24)) := by
                  rw [HrgchC.out]
                  show Tw _ _ _ _ (Mix.one (Lq.setIfInBounds 16 true) 15) (Mix.one (Lq.setIfInBounds 16 true) 16) (Mix.one (Lq.setIfInBounds 16 true) 17) (Mix.one (Lq.setIfInBounds 16 true) 18) _ _ _
                  rw [Mix.one_set (by rw [hh.size]; decide), Mix.one_ne (by decide), Mix.one_ne (by decide), Mix.one_ne (by decide), q18]
                  exact hn.1
                have hE : Ergc 16 (.pointer (some ⟨wq.heap.size, 0, none⟩)) (wq.alloc (.cells [Value.int .i64 0, .int .i64 0, .bool false].toArray 24)) := by rw [Hrgce16.out]; trivial
                have hX : Xrgc wq (wq.alloc (.cells [Value.int .i64 0, .int .i64 0, .bool false].toArray 24)) := by rw [HrgchX.out]; exact hn.2
                clear hc hn q16 q18
                go_simp
                exact ⟨hF, hE, hX⟩
              · intro Lq wq xq hh
                have d11 : Ergc 11 (xq 11) wq := hh.val 11 (by kernel_rfl) (by kernel_rfl)
                rw [Hrgce11.out] at d11
                have d15 : Ergc 15 (xq 15) wq := hh.val 15 (by kernel_rfl) (by kernel_rfl)
                rw [Hrgce15.out] at d15
                simp only [hFrgc]
                refine .inl ⟨rfl, ?_⟩
                unfold Reg.upon
                obtain ⟨v, e11, h11⟩ := d11
                obtain ⟨o9, k9, e9⟩ := h11.len
                subst e9
                have hc : Crgc Lq (xq 15) (xq 16) wq := hh.cls
                rw [HrgchC.out] at hc
                have q15 : Mix.one Lq 15 = 1 := hh.isDone 15 (by kernel_rfl)
                have q17 : Mix.one Lq 17 = 0 := hh.un
                have hc : Tw _ _ _ _ (Mix.one Lq 15) (Mix.one Lq 16) (Mix.one Lq 17) (Mix.one Lq 18) _ _ _ := hc
                rw [q15, q17] at hc
                obtain ⟨g, e15, hz, hput⟩ := Tw.putPen hc h11
                have y0 := hz.cell 0 _ rfl
                have y1 := hz.cell 1 _ rfl
                have y2 := hz.cell 2 _ rfl
                have y3 := hz.cell 3 _ rfl
                have y4 := hz.cell 4 _ rfl
                have s0 := hz.free 0
                have s1 := hz.free 1
                have s2 := hz.free 2
                have s3 := hz.free 3
                have s4 := hz.free 4
                have hn := hput _ (pres_upd (W := wq) g (.slice o9 LL.length k9) (.int .i64 RR) (.int .i64 CA) (.bool PA) (.bool au)) (pres_has hz _ _ _ _ _)
                have hF : Crgc (Lq.setIfInBounds 17 true) (xq 15) (xq 16) (((((wq.setCell ⟨g, 0, none⟩ (.slice o9 LL.length k9)).setCell ⟨g, 1, none⟩ (.int .i64 RR)).setCell ⟨g, 2, none⟩ (.int .i64 CA)).setCell ⟨g, 3, none⟩ (.bool PA)).setCell ⟨g, 4, none⟩ (.bool au)) ∧ Ergc 17 undef (((((wq.setCell ⟨g, 0, none⟩ (.slice o9 LL.length k9)).setCell ⟨g, 1, none⟩ (.int .i64 RR)).setCell ⟨g, 2, none⟩ (.int .i64 CA)).setCell ⟨g, 3, none⟩ (.bool PA)).setCell ⟨g, 4, none⟩ (.bool au)) ∧ Xrgc wq (((((wq.setCell ⟨g, 0, none⟩ (.slice o9 LL.length k9)).setCell ⟨g, 1, none⟩ (.int .i64 RR)).setCell ⟨g, 2, none⟩ (.int .i64 CA)).setCell ⟨g, 3, none⟩ (.bool PA)).setCell ⟨g, 4, none⟩ (.bool au)) := by
                  refine ⟨?_, by rw [Hrgce17.out], by rw [HrgchX.out]; exact hn.2⟩
                  rw [HrgchC.out]
                  show Tw _ _ _ _ (Mix.one (Lq.setIfInBounds 17 true) 15) (Mix.one (Lq.setIfInBounds 17 true) 16) (Mix.one (Lq.setIfInBounds 17 true) 17) (Mix.one (Lq.setIfInBounds 17 true) 18) _ _ _
                  rw [Mix.one_set (by rw [hh.size]; decide), Mix.one_ne (by decide), Mix.one_ne (by decide), Mix.one_ne (by decide), q15]
                  exact hn.1
                clear hc hn q15 q17 hz hput
                rw [e11]
                rw [e15]
                go_simp
                first | exact hF | exact hF.1
              · intro Lq wq xq hh
                have d12 : Ergc 12 (xq 12) wq := hh.val 12 (by kernel_rfl) (by kernel_rfl)
                rw [Hrgce12.out] at d12
                have d16 : Ergc 16 (xq 16) wq := hh.val 16 (by kernel_rfl) (by kernel_rfl)
                rw [Hrgce16.out] at d16
                simp only [hFrgc, d12]
                clear d12
                refine .inl ⟨rfl, ?_⟩
                unfold Reg.upon
                have hc : Crgc Lq (xq 15) (xq 16) wq := hh.cls
                rw [HrgchC.out] at hc
                have q16 : Mix.one Lq 16 = 1 := hh.isDone 16 (by kernel_rfl)
                have q18 : Mix.one Lq 18 = 0 := hh.un
                have hc : Tw _ _ _ _ (Mix.one Lq 15) (Mix.one Lq 16) (Mix.one Lq 17) (Mix.one Lq 18) _ _ _ := hc
                rw [q16, q18] at hc
                obtain ⟨g, e16, hz, hput⟩ := Tw.putCur hc
                have y0 := hz.cell 0 _ rfl
                have y1 := hz.cell 1 _ rfl
                have y2 := hz.cell 2 _ rfl
                have s0 := hz.free 0
                have s1 := hz.free 1
                have s2 := hz.free 2
                have hn := hput _ ((((Upd.refl (fun b => b = g) wq).setCell (p := ⟨g, 0, none⟩) (.inl rfl) (.int .i64 RR)).setCell (p := ⟨g, 1, none⟩) (.inl rfl) (.int .i64 CC0)).setCell (p := ⟨g, 2, none⟩) (.inl rfl) (.bool false)) (((hz.set 0 _).set 1 _).set 2 _)
                have hF : Crgc (Lq.setIfInBounds 18 true) (xq 15) (xq 16) (((wq.setCell ⟨g, 0, none⟩ (.int .i64 RR)).setCell ⟨g, 1, none⟩ (.int .i64 CC0)).setCell ⟨g, 2, none⟩ (.bool false)) ∧ Ergc 18 undef (((wq.setCell ⟨g, 0, none⟩ (.int .i64 RR)).setCell ⟨g, 1, none⟩ (.int .i64 CC0)).setCell ⟨g, 2, none⟩ (.bool false)) ∧ Xrgc wq (((wq.setCell ⟨g, 0, none⟩ (.int .i64 RR)).setCell ⟨g, 1, none⟩ (.int .i64 CC0)).setCell ⟨g, 2, none⟩ (.bool false)) := by
                  refine ⟨?_, by rw [Hrgce18.out], by rw [HrgchX.out]; exact hn.2⟩
                  rw [HrgchC.out]
                  show Tw _ _ _ _ (Mix.one (Lq.setIfInBounds 18 true) 15) (Mix.one (Lq.setIfInBounds 18 true) 16) (Mix.one (Lq.setIfInBounds 18 true) 17) (Mix.one (Lq.setIfInBounds 18 true) 18) _ _ _
                  rw [Mix.one_set (by rw [hh.size]; decide), Mix.one_ne (by decide), Mix.one_ne (by decide), Mix.one_ne (by decide), q16]
                  exact hn.1
                clear hc hn q16 q18 hz hput
                rw [e16]
                go_simp
                first | exact hF | exact hF.1
              · intro Lq wq xq hh
                have d13 : Ergc 13 (xq 13) wq := hh.val 13 (by kernel_rfl) (by kernel_rfl)
                rw [Hrgce13.out] at d13
                simp only [hFrgc, d13]
                clear d13
                refine .inl ⟨rfl, ?_⟩
                unfold Reg.upon
                have hk := Hrgck.out 19 Lq wq (by decide) (by decide) (by decide) (by decide)  hh.cls
                have hx := Hrgcx.out wq
                have he : Ergc 19 (.int .i64 X) wq := by rw [Hrgce19.out]
                have HK := Lib.hid (And.intro hk (And.intro he hx))
                clear hk hx he
                go_simp
                exact HK.out
              · intro Lq wq xq hh
                have d14 : Ergc 14 (xq 14) wq := hh.val 14 (by kernel_rfl) (by kernel_rfl)
                rw [Hrgce14.out] at d14
                simp only [hFrgc]
                refine .inl ⟨rfl, ?_⟩
                unfold Reg.upon
                go_simp
                exact ⟨Hrgck.out 20 Lq wq (by decide) (by decide) (by decide) (by decide)  hh.cls, (by rw [Hrgce20.out]; exact d14), Hrgcx.out wq⟩
            intro xq wrgc hcrgc hvrgc
            rw [HrgchC.out] at hcrgc
            simp only [hFrgc]
            have vrgc19 : Ergc 19 (xq 19) wrgc := hvrgc 19 (by decide)
            rw [Hrgce19.out] at vrgc19
            rw [vrgc19]
            have vrgc20 : Ergc 20 (xq 20) wrgc := hvrgc 20 (by decide)
            rw [Hrgce20.out] at vrgc20
            clear hvrgc hFrgc Hrgck Hrgcx Hrgcst Hrgcc HrgchC HrgchX Hrgcb Hrgcxb Hrgce0 Hrgce1 Hrgce2 Hrgce3 Hrgce4 Hrgce5 Hrgce6 Hrgce7 Hrgce8 Hrgce9 Hrgce10 Hrgce11 Hrgce12 Hrgce13 Hrgce14 Hrgce15 Hrgce16 Hrgce17 Hrgce18 Hrgce19 Hrgce20
            obtain ⟨v, gP, gQ, eP, eQ, hv, hP, hQ, hbc⟩ := Tw.done (show Tw (fun v => [v, .int .i64 RR, .int .i64 CA, .bool PA, .bool au]) [.int .i64 RR, .int .i64 CC0, .bool false] LL wx 1 1 1 1 (xq 15) (xq 16) wrgc from hcrgc)
            obtain ⟨o20, k20, e20⟩ := vrgc20.len
            rw [e20] at vrgc20 ⊢
            rw [eP, eQ]
            have HV := Lib.hid hv
            have HP := Lib.hid hP
            have HQ := Lib.hid hQ
            have HT := Lib.hid vrgc20
            have HLR2 := Lib.hid (HLQ.out.below hbc)
            obtain ⟨ov, kv, ev⟩ := HV.out.len
            obtain ⟨nL, hnL⟩ : ∃ nL, nL = LL.length := ⟨_, rfl⟩
            rw [ev] at HV HP
            rw [← hnL] at HV HP
            obtain ⟨wy, hwy⟩ : ∃ wy, wy = wrgc := ⟨_, rfl⟩
            obtain ⟨nT, hnT⟩ : ∃ nT, nT = TT.length := ⟨_, rfl⟩
            rw [← hnT] at HT ⊢
            have HTL := Lib.hid (show TT.length ≤ 16 from by rw [HEQ.out.2.1, numT_len _ _ (by have := HHK.out; have := HMM.out; omega)]; have := HHK.out; omega)
            have HPN2 := Lib.hid (show ∃ R, PenAt wy BP gp gg gr wd R LL RR CA PA au from by
              obtain ⟨⟨R, hg⟩, _⟩ := HLR2.out
              obtain ⟨e1, e2, e3, e4, e5, e6, e7⟩ := HEQ.out
              have h1 := hg.1.any
              rw [← e1, ← e2, ← e7, ← e3, ← e5, ← e6, ← hwy] at h1
              exact ⟨R, h1⟩)
            have HWA := Lib.hid (show WAt wy gg1 TT true (picAt L K) (cwW xs L K) X RR CC0 false from by
              obtain ⟨⟨R, hg⟩, _⟩ := HLR2.out
              obtain ⟨e1, e2, e3, e4, e5, e6, e7⟩ := HEQ.out
              have h1 := hg.2
              rw [← e1, ← e2, ← e3, ← e4, ← hwy] at h1
              exact h1)
            rw [← hwy] at HV HP HQ HT HLR2
            rw [← hwy]
            clear hv hP hQ vrgc20 hbc hcrgc eP eQ e20 HBOX HPUT HLQ ev hnL hnT hwy
            go_upto_region 18 with (fail)
            obtain ⟨Ergd, hErgd⟩ : ∃ EE : Nat → Value → World → Prop, EE = fun jj xx ww => match jj with
                | 0 => xx = .pointer (some ⟨gp, 0, none⟩)
                | 1 => xx = .agg #[.slice ov nL kv, .int .i64 RR, .int .i64 CA, .bool PA, .bool au]
                | 2 => xx = .bool true
                | 3 => xx = .bool false
                | 4 => xx = .bool false
                | 5 => xx = .pointer (some ⟨gg1, 0, none⟩)
                | 6 => xx = .agg #[.int .i64 RR, .int .i64 CC0, .bool false]
                | 7 => xx = .agg #[.int .i64 RR, .int .i64 CC0, .bool false]
                | 8 => xx = .bool false
                | 9 => xx = .bool false
                | 10 => xx = .bool false
                | 11 => xx = .pointer (some ⟨gg1, 0, none⟩)
                | 12 => xx = .int .i64 X
                | 13 => xx = .int .i64 X
                | 14 => xx = .bool false
                | 15 => xx = .bool false
                | 16 => xx = .bool false
                | 17 => xx = .pointer (some ⟨gg1, 0, none⟩)
                | 18 => (fun x w' => HeldE (intE .i32) (fun _ => True) w' x TT) xx ww
                | 19 => xx = .slice o20 nT k20
                | 20 => xx = .bool true
                | 21 => xx = .bool false
                | 22 => xx = .bool false
                | _ => True := ⟨_, rfl⟩
            have ergd0 : ∀ xx ww, Ergd 0 xx ww = (xx = .pointer (some ⟨gp, 0, none⟩)) := fun xx ww => congrFun (congrFun (congrFun hErgd 0) xx) ww
            have ergd1 : ∀ xx ww, Ergd 1 xx ww = (xx = .agg #[.slice ov nL kv, .int .i64 RR, .int .i64 CA, .bool PA, .bool au]) := fun xx ww => congrFun (congrFun (congrFun hErgd 1) xx) ww
            have ergd2 : ∀ xx ww, Ergd 2 xx ww = (xx = .bool true) := fun xx ww => congrFun (congrFun (congrFun hErgd 2) xx) ww
            have ergd3 : ∀ xx ww, Ergd 3 xx ww = (xx = .bool false) := fun xx ww => congrFun (congrFun (congrFun hErgd 3) xx) ww
            have ergd4 : ∀ xx ww, Ergd 4 xx ww = (xx = .bool false) := fun xx ww => congrFun (congrFun (congrFun hErgd 4) xx) ww
            have ergd5 : ∀ xx ww, Ergd 5 xx ww = (xx = .pointer (some ⟨gg1, 0, none⟩)) := fun xx ww => congrFun (congrFun (congrFun hErgd 5) xx) ww
            have ergd6 : ∀ xx ww, Ergd 6 xx ww = (xx = .agg #[.int .i64 RR, .int .i64 CC0, .bool false]) := fun xx ww => congrFun (congrFun (congrFun hErgd 6) xx) ww
            have ergd7 : ∀ xx ww, Ergd 7 xx ww = (xx = .agg #[.int .i64 RR, .int .i64 CC0, .bool false]) := fun xx ww => congrFun (congrFun (congrFun hErgd 7) xx) ww
            have ergd8 : ∀ xx ww, Ergd 8 xx ww = (xx = .bool false) := fun xx ww => congrFun (congrFun (congrFun hErgd 8) xx) ww
            have ergd9 : ∀ xx ww, Ergd 9 xx ww = (xx = .bool false) := fun xx ww => congrFun (congrFun (congrFun hErgd 9) xx) ww
            have ergd10 : ∀ xx ww, Ergd 10 xx ww = (xx = .bool false) := fun xx ww => congrFun (congrFun (congrFun hErgd 10) xx) ww
            have ergd11 : ∀ xx ww, Ergd 11 xx ww = (xx = .pointer (some ⟨gg1, 0, none⟩)) := fun xx ww => congrFun (congrFun (congrFun hErgd 11) xx) ww
            have ergd12 : ∀ xx ww, Ergd 12 xx ww = (xx = .int .i64 X) := fun xx ww => congrFun (congrFun (congrFun hErgd 12) xx) ww
            have ergd13 : ∀ xx ww, Ergd 13 xx ww = (xx = .int .i64 X) := fun xx ww => congrFun (congrFun (congrFun hErgd 13) xx) ww
            have ergd14 : ∀ xx ww, Ergd 14 xx ww = (xx = .bool false) := fun xx ww => congrFun (congrFun (congrFun hErgd 14) xx) ww
            have ergd15 : ∀ xx ww, Ergd 15 xx ww = (xx = .bool false) := fun xx ww => congrFun (congrFun (congrFun hErgd 15) xx) ww
            have ergd16 : ∀ xx ww, Ergd 16 xx ww = (xx = .bool false) := fun xx ww => congrFun (congrFun (congrFun hErgd 16) xx) ww
            have ergd17 : ∀ xx ww, Ergd 17 xx ww = (xx = .pointer (some ⟨gg1, 0, none⟩)) := fun xx ww => congrFun (congrFun (congrFun hErgd 17) xx) ww
            have ergd18 : ∀ xx ww, Ergd 18 xx ww = ((fun x w' => HeldE (intE .i32) (fun _ => True) w' x TT) xx ww) := fun xx ww => congrFun (congrFun (congrFun hErgd 18) xx) ww
            have ergd19 : ∀ xx ww, Ergd 19 xx ww = (xx = .slice o20 nT k20) := fun xx ww => congrFun (congrFun (congrFun hErgd 19) xx) ww
            have ergd20 : ∀ xx ww, Ergd 20 xx ww = (xx = .bool true) := fun xx ww => congrFun (congrFun (congrFun hErgd 20) xx) ww
            have ergd21 : ∀ xx ww, Ergd 21 xx ww = (xx = .bool false) := fun xx ww => congrFun (congrFun (congrFun hErgd 21) xx) ww
            have ergd22 : ∀ xx ww, Ergd 22 xx ww = (xx = .bool false) := fun xx ww => congrFun (congrFun (congrFun hErgd 22) xx) ww
            obtain ⟨Crgd, hCrgd⟩ : ∃ CC : Array Bool → World → Prop, CC = fun L8 w' => Below wy.heap.size wy w' := ⟨_, rfl⟩
            have krgd : ∀ i L w,  Crgd L w → Crgd (L.setIfInBounds i true) w := by
              intro i L w  h
              rw [hCrgd] at h ⊢
              exact h
            obtain ⟨Xrgd, hXrgd⟩ : ∃ XX : World → World → Prop, XX = fun x y => Below x.heap.size x y := ⟨_, rfl⟩
            have xrgd : ∀ w, Xrgd w w := fun w => by rw [hXrgd]; exact Below.refl _ _
            have strgd : ∀ j x w w1, Xrgd w w1 → Ergd j x w → Ergd j x w1 := by
              intro j x w w1 hx h
              rw [hXrgd] at hx
              match j with
              | 0 => rw [ergd0] at h ⊢; exact h
              | 1 => rw [ergd1] at h ⊢; exact h
              | 2 => rw [ergd2] at h ⊢; exact h
              | 3 => rw [ergd3] at h ⊢; exact h
              | 4 => rw [ergd4] at h ⊢; exact h
              | 5 => rw [ergd5] at h ⊢; exact h
              | 6 => rw [ergd6] at h ⊢; exact h
              | 7 => rw [ergd7] at h ⊢; exact h
              | 8 => rw [ergd8] at h ⊢; exact h
              | 9 => rw [ergd9] at h ⊢; exact h
              | 10 => rw [ergd10] at h ⊢; exact h
              | 11 => rw [ergd11] at h ⊢; exact h
              | 12 => rw [ergd12] at h ⊢; exact h
              | 13 => rw [ergd13] at h ⊢; exact h
              | 14 => rw [ergd14] at h ⊢; exact h
              | 15 => rw [ergd15] at h ⊢; exact h
              | 16 => rw [ergd16] at h ⊢; exact h
              | 17 => rw [ergd17] at h ⊢; exact h
              | 18 => rw [ergd18] at h ⊢; (exact HeldE.below h hx)
              | 19 => rw [ergd19] at h ⊢; exact h
              | 20 => rw [ergd20] at h ⊢; exact h
              | 21 => rw [ergd21] at h ⊢; exact h
              | 22 => rw [ergd22] at h ⊢; exact h
              | j + 23 => rw [hErgd]; trivial
            have crgd : Crgd (Array.replicate 23 false) wy.drew := by rw [hCrgd]; exact (Below.refl _ _).drew
            have brgd : ∀ L w w1, Crgd L w → Below w.heap.size w w1 → Crgd L w1 := by
              intro L w w1 h hb
              rw [hCrgd] at h ⊢
              exact h.trans (hb.mono h.size)
            have xbrgd : ∀ w w1, Below w.heap.size w w1 → Xrgd w w1 := by
              intro w w1 hb
              rw [hXrgd]
              exact hb
            have Hrgdb := Lib.hid brgd
            have Hrgdxb := Lib.hid xbrgd
            clear brgd xbrgd
            clear hErgd
            have Hrgdk := Lib.hid krgd
            have Hrgdx := Lib.hid xrgd
            have Hrgdst := Lib.hid strgd
            have Hrgdc := Lib.hid crgd
            have HrgdhC := Lib.hid hCrgd
            have HrgdhX := Lib.hid hXrgd
            have Hrgde0 := Lib.hid ergd0
            have Hrgde1 := Lib.hid ergd1
            have Hrgde2 := Lib.hid ergd2
            have Hrgde3 := Lib.hid ergd3
            have Hrgde4 := Lib.hid ergd4
            have Hrgde5 := Lib.hid ergd5
            have Hrgde6 := Lib.hid ergd6
            have Hrgde7 := Lib.hid ergd7
            have Hrgde8 := Lib.hid ergd8
            have Hrgde9 := Lib.hid ergd9
            have Hrgde10 := Lib.hid ergd10
            have Hrgde11 := Lib.hid ergd11
            have Hrgde12 := Lib.hid ergd12
            have Hrgde13 := Lib.hid ergd13
            have Hrgde14 := Lib.hid ergd14
            have Hrgde15 := Lib.hid ergd15
            have Hrgde16 := Lib.hid ergd16
            have Hrgde17 := Lib.hid ergd17
            have Hrgde18 := Lib.hid ergd18
            have Hrgde19 := Lib.hid ergd19
            have Hrgde20 := Lib.hid ergd20
            have Hrgde21 := Lib.hid ergd21
            have Hrgde22 := Lib.hid ergd22
            clear krgd xrgd strgd crgd hCrgd hXrgd ergd0 ergd1 ergd2 ergd3 ergd4 ergd5 ergd6 ergd7 ergd8 ergd9 ergd10 ergd11 ergd12 ergd13 ergd14 ergd15 ergd16 ergd17 ergd18 ergd19 ergd20 ergd21 ergd22
            go_wp2_with fail
            refine Reg.regionF Ergd Crgd Xrgd Hrgdst.out (by kernel_rfl) (by kernel_rfl) (by kernel_rfl) Hrgdc.out (fun Frgd hFrgd => ?_)
            simp only [Reg.frame, Reg.dsts, List.map_cons, List.map_nil, Mix.put_lit, List.set_cons_succ, List.set_cons_zero, Nat.zero_add, Nat.reduceAdd] at hFrgd
            refine ⟨?_, ?_⟩
            · refine ⟨?_, ?_, ?_, ?_, ?_, ?_, ?_, ?_, ?_, ?_, ?_, ?_, ?_, ?_, ?_, ?_, ?_, ?_, ?_, ?_, ?_, ?_, ?_, trivial⟩
              · intro Lq wq xq hh
                simp only [hFrgd]
                refine .inl ⟨rfl, ?_⟩
                unfold Reg.upon
                have hk := Hrgdk.out 0 Lq wq  hh.cls
                have hx := Hrgdx.out wq
                have he : Ergd 0 (.pointer (some ⟨gp, 0, none⟩)) wq := by rw [Hrgde0.out]
                have HK := Lib.hid (And.intro hk (And.intro he hx))
                clear hk hx he
                go_simp
                exact HK.out
              · intro Lq wq xq hh
                simp only [hFrgd]
                refine .inl ⟨rfl, ?_⟩
                unfold Reg.upon
                have hc : Crgd Lq wq := hh.cls
                rw [HrgdhC.out] at hc
                have hx9 := HP.out.below hc HP.out.lt
                have y0 := hx9.cell 0 _ rfl
                have y1 := hx9.cell 1 _ rfl
                have y2 := hx9.cell 2 _ rfl
                have y3 := hx9.cell 3 _ rfl
                have y4 := hx9.cell 4 _ rfl
                clear hc
                have hk := Hrgdk.out 1 Lq wq  hh.cls
                have hx := Hrgdx.out wq
                have he : Ergd 1 (.agg #[.slice ov nL kv, .int .i64 RR, .int .i64 CA, .bool PA, .bool au]) wq := by rw [Hrgde1.out]
                have HK := Lib.hid (And.intro hk (And.intro he hx))
                clear hk hx he
                go_simp
                exact HK.out
              · intro Lq wq xq hh
                have d0 : Ergd 0 (xq 0) wq := hh.val 0 (by kernel_rfl) (by kernel_rfl)
                rw [Hrgde0.out] at d0
                have d1 : Ergd 1 (xq 1) wq := hh.val 1 (by kernel_rfl) (by kernel_rfl)
                rw [Hrgde1.out] at d1
                simp only [hFrgd, d0, d1]
                clear d0 d1
                refine .inl ⟨rfl, ?_⟩
                unfold Reg.upon
                have hc : Crgd Lq wq := hh.cls
                rw [HrgdhC.out] at hc
                obtain ⟨R9, h9⟩ := HPN2.out
                have hal := alike_any BP gp gg gr wd R9 LL RR CA PA au _ (.slice ov nL kv) wq (h9.below hc) (HV.out.below hc)
                clear hc h9
                go_simp
                refine hal.mono ?_
                rintro e w2 ⟨rfl, hb⟩
                exact ⟨_, rfl, Hrgdk.out 2 Lq w2  (Hrgdb.out Lq wq w2 hh.cls hb), (by rw [Hrgde2.out]), Hrgdxb.out wq w2 hb⟩
              · intro Lq wq xq hh
                have d2 : Ergd 2 (xq 2) wq := hh.val 2 (by kernel_rfl) (by kernel_rfl)
                rw [Hrgde2.out] at d2
                simp only [hFrgd, d2]
                clear d2
                refine .inl ⟨rfl, ?_⟩
                unfold Reg.upon
                have hk := Hrgdk.out 3 Lq wq  hh.cls
                have hx := Hrgdx.out wq
                have he : Ergd 3 (.bool false) wq := by rw [Hrgde3.out]
                have HK := Lib.hid (And.intro hk (And.intro he hx))
                clear hk hx he
                go_simp
                exact HK.out
              · intro Lq wq xq hh
                have d3 : Ergd 3 (xq 3) wq := hh.val 3 (by kernel_rfl) (by kernel_rfl)
                rw [Hrgde3.out] at d3
                simp only [hFrgd, d3]
                clear d3
                refine .inl ⟨rfl, ?_⟩
                unfold Reg.upon
                have hk := Hrgdk.out 4 Lq wq  hh.cls
                have hx := Hrgdx.out wq
                have he : Ergd 4 (.bool false) wq := by rw [Hrgde4.out]
                have HK := Lib.hid (And.intro hk (And.intro he hx))
                clear hk hx he
                go_simp
                exact HK.out
              · intro Lq wq xq hh
                have d4 : Ergd 4 (xq 4) wq := hh.val 4 (by kernel_rfl) (by kernel_rfl)
                rw [Hrgde4.out] at d4
                simp only [hFrgd, d4]
                clear d4
                refine .inl ⟨rfl, ?_⟩
                unfold Reg.upon
                have hk := Hrgdk.out 5 Lq wq  hh.cls
                have hx := Hrgdx.out wq
                have he : Ergd 5 (.pointer (some ⟨gg1, 0, none⟩)) wq := by rw [Hrgde5.out]
                have HK := Lib.hid (And.intro hk (And.intro he hx))
                clear hk hx he
                go_simp
                exact HK.out
              · intro Lq wq xq hh
                have d4 : Ergd 4 (xq 4) wq := hh.val 4 (by kernel_rfl) (by kernel_rfl)
                rw [Hrgde4.out] at d4
                have d5 : Ergd 5 (xq 5) wq := hh.val 5 (by kernel_rfl) (by kernel_rfl)
                rw [Hrgde5.out] at d5
                simp only [hFrgd, d4, d5]
                clear d4 d5
                refine .inl ⟨rfl, ?_⟩
                unfold Reg.upon
                have hc : Crgd Lq wq := hh.cls
                rw [HrgdhC.out] at hc
                go_simp
                refine (wat_any gg1 TT _ _ _ X RR CC0 false wq (HWA.out.below hc)).mono ?_
                rintro e w2 ⟨rfl, hb⟩
                exact ⟨_, rfl, Hrgdk.out 6 Lq w2  (Hrgdb.out Lq wq w2 hh.cls hb), (by rw [Hrgde6.out]; try rfl), Hrgdxb.out wq w2 hb⟩
              · intro Lq wq xq hh
                have d4 : Ergd 4 (xq 4) wq := hh.val 4 (by kernel_rfl) (by kernel_rfl)
                rw [Hrgde4.out] at d4
                simp only [hFrgd, d4]
                clear d4
                refine .inl ⟨rfl, ?_⟩
                unfold Reg.upon
                have hc : Crgd Lq wq := hh.cls
                rw [HrgdhC.out] at hc
                have hx9 := HQ.out.below hc HQ.out.lt
                have y0 := hx9.cell 0 _ rfl
                have y1 := hx9.cell 1 _ rfl
                have y2 := hx9.cell 2 _ rfl
                clear hc
                have hk := Hrgdk.out 7 Lq wq  hh.cls
                have hx := Hrgdx.out wq
                have he : Ergd 7 (.agg #[.int .i64 RR, .int .i64 CC0, .bool false]) wq := by rw [Hrgde7.out]
                have HK := Lib.hid (And.intro hk (And.intro he hx))
                clear hk hx he
                go_simp
                exact HK.out
              · intro Lq wq xq hh
                have d4 : Ergd 4 (xq 4) wq := hh.val 4 (by kernel_rfl) (by kernel_rfl)
                rw [Hrgde4.out] at d4
                have d6 : Ergd 6 (xq 6) wq := hh.val 6 (by kernel_rfl) (by kernel_rfl)
                rw [Hrgde6.out] at d6
                have d7 : Ergd 7 (xq 7) wq := hh.val 7 (by kernel_rfl) (by kernel_rfl)
                rw [Hrgde7.out] at d7
                simp only [hFrgd, d4, d6, d7]
                clear d4 d6 d7
                refine .inl ⟨rfl, ?_⟩
                unfold Reg.upon
                have hc : Crgd Lq wq := hh.cls
                rw [HrgdhC.out] at hc
                have q1 := cur_self RR CC0 false
                clear hc
                have hk := Hrgdk.out 8 Lq wq  hh.cls
                have hx := Hrgdx.out wq
                have he : Ergd 8 (.bool false) wq := by rw [Hrgde8.out]
                have HK := Lib.hid (And.intro hk (And.intro he hx))
                clear hk hx he
                go_simp
                exact HK.out
              · intro Lq wq xq hh
                have d4 : Ergd 4 (xq 4) wq := hh.val 4 (by kernel_rfl) (by kernel_rfl)
                rw [Hrgde4.out] at d4
                have d8 : Ergd 8 (xq 8) wq := hh.val 8 (by kernel_rfl) (by kernel_rfl)
                rw [Hrgde8.out] at d8
                simp only [hFrgd, d4, d8]
                clear d4 d8
                refine .inl ⟨rfl, ?_⟩
                unfold Reg.upon
                have hk := Hrgdk.out 9 Lq wq  hh.cls
                have hx := Hrgdx.out wq
                have he : Ergd 9 (.bool false) wq := by rw [Hrgde9.out]
                have HK := Lib.hid (And.intro hk (And.intro he hx))
                clear hk hx he
                go_simp
                exact HK.out
              · intro Lq wq xq hh
                have d9 : Ergd 9 (xq 9) wq := hh.val 9 (by kernel_rfl) (by kernel_rfl)
                rw [Hrgde9.out] at d9
                simp only [hFrgd, d9]
                clear d9
                refine .inl ⟨rfl, ?_⟩
                unfold Reg.upon
                have hk := Hrgdk.out 10 Lq wq  hh.cls
                have hx := Hrgdx.out wq
                have he : Ergd 10 (.bool false) wq := by rw [Hrgde10.out]
                have HK := Lib.hid (And.intro hk (And.intro he hx))
                clear hk hx he
                go_simp
                exact HK.out
              · intro Lq wq xq hh
                have d10 : Ergd 10 (xq 10) wq := hh.val 10 (by kernel_rfl) (by kernel_rfl)
                rw [Hrgde10.out] at d10
                simp only [hFrgd, d10]
                clear d10
                refine .inl ⟨rfl, ?_⟩
                unfold Reg.upon
                have hk := Hrgdk.out 11 Lq wq  hh.cls
                have hx := Hrgdx.out wq
                have he : Ergd 11 (.pointer (some ⟨gg1, 0, none⟩)) wq := by rw [Hrgde11.out]
                have HK := Lib.hid (And.intro hk (And.intro he hx))
                clear hk hx he
                go_simp
                exact HK.out
              · intro Lq wq xq hh
                have d10 : Ergd 10 (xq 10) wq := hh.val 10 (by kernel_rfl) (by kernel_rfl)
                rw [Hrgde10.out] at d10
                have d11 : Ergd 11 (xq 11) wq := hh.val 11 (by kernel_rfl) (by kernel_rfl)
                rw [Hrgde11.out] at d11
                simp only [hFrgd, d10, d11]
                clear d10 d11
                refine .inl ⟨rfl, ?_⟩
                unfold Reg.upon
                have hc : Crgd Lq wq := hh.cls
                rw [HrgdhC.out] at hc
                go_simp
                refine (wwide_any gg1 TT _ _ _ X RR CC0 false wq (HWA.out.below hc)).mono ?_
                rintro e w2 ⟨rfl, rfl⟩
                exact ⟨_, rfl, Hrgdk.out 12 Lq wq  hh.cls, (by rw [Hrgde12.out]; try rfl), Hrgdx.out _⟩
              · intro Lq wq xq hh
                have d10 : Ergd 10 (xq 10) wq := hh.val 10 (by kernel_rfl) (by kernel_rfl)
                rw [Hrgde10.out] at d10
                simp only [hFrgd, d10]
                clear d10
                refine .inl ⟨rfl, ?_⟩
                unfold Reg.upon
                have hk := Hrgdk.out 13 Lq wq  hh.cls
                have hx := Hrgdx.out wq
                have he : Ergd 13 (.int .i64 X) wq := by rw [Hrgde13.out]
                have HK := Lib.hid (And.intro hk (And.intro he hx))
                clear hk hx he
                go_simp
                exact HK.out
              · intro Lq wq xq hh
                have d10 : Ergd 10 (xq 10) wq := hh.val 10 (by kernel_rfl) (by kernel_rfl)
                rw [Hrgde10.out] at d10
                have d12 : Ergd 12 (xq 12) wq := hh.val 12 (by kernel_rfl) (by kernel_rfl)
                rw [Hrgde12.out] at d12
                have d13 : Ergd 13 (xq 13) wq := hh.val 13 (by kernel_rfl) (by kernel_rfl)
                rw [Hrgde13.out] at d13
                simp only [hFrgd, d10, d12, d13]
                clear d10 d12 d13
                refine .inl ⟨rfl, ?_⟩
                unfold Reg.upon
                have hk := Hrgdk.out 14 Lq wq  hh.cls
                have hx := Hrgdx.out wq
                have he : Ergd 14 (.bool false) wq := by rw [Hrgde14.out]
                have HK := Lib.hid (And.intro hk (And.intro he hx))
                clear hk hx he
                go_simp
                exact HK.out
              · intro Lq wq xq hh
                have d10 : Ergd 10 (xq 10) wq := hh.val 10 (by kernel_rfl) (by kernel_rfl)
                rw [Hrgde10.out] at d10
                have d14 : Ergd 14 (xq 14) wq := hh.val 14 (by kernel_rfl) (by kernel_rfl)
                rw [Hrgde14.out] at d14
                simp only [hFrgd, d10, d14]
                clear d10 d14
                refine .inl ⟨rfl, ?_⟩
                unfold Reg.upon
                have hk := Hrgdk.out 15 Lq wq  hh.cls
                have hx := Hrgdx.out wq
                have he : Ergd 15 (.bool false) wq := by rw [Hrgde15.out]
                have HK := Lib.hid (And.intro hk (And.intro he hx))
                clear hk hx he
                go_simp
                exact HK.out
              · intro Lq wq xq hh
                have d15 : Ergd 15 (xq 15) wq := hh.val 15 (by kernel_rfl) (by kernel_rfl)
                rw [Hrgde15.out] at d15
                simp only [hFrgd, d15]
                clear d15
                refine .inl ⟨rfl, ?_⟩
                unfold Reg.upon
                have hk := Hrgdk.out 16 Lq wq  hh.cls
                have hx := Hrgdx.out wq
                have he : Ergd 16 (.bool false) wq := by rw [Hrgde16.out]
                have HK := Lib.hid (And.intro hk (And.intro he hx))
                clear hk hx he
                go_simp
                exact HK.out
              · intro Lq wq xq hh
                have d16 : Ergd 16 (xq 16) wq := hh.val 16 (by kernel_rfl) (by kernel_rfl)
                rw [Hrgde16.out] at d16
                simp only [hFrgd, d16]
                clear d16
                refine .inl ⟨rfl, ?_⟩
                unfold Reg.upon
                have hk := Hrgdk.out 17 Lq wq  hh.cls
                have hx := Hrgdx.out wq
                have he : Ergd 17 (.pointer (some ⟨gg1, 0, none⟩)) wq := by rw [Hrgde17.out]
                have HK := Lib.hid (And.intro hk (And.intro he hx))
                clear hk hx he
                go_simp
                exact HK.out
              · intro Lq wq xq hh
                have d16 : Ergd 16 (xq 16) wq := hh.val 16 (by kernel_rfl) (by kernel_rfl)
                rw [Hrgde16.out] at d16
                have d17 : Ergd 17 (xq 17) wq := hh.val 17 (by kernel_rfl) (by kernel_rfl)
                rw [Hrgde17.out] at d17
                simp only [hFrgd, d16, d17]
                clear d16 d17
                refine .inl ⟨rfl, ?_⟩
                unfold Reg.upon
                have hc : Crgd Lq wq := hh.cls
                rw [HrgdhC.out] at hc
                have hrs := wtxt_any gg1 TT _ _ _ X RR CC0 false wq (HWA.out.below hc)
                clear hc
                go_simp
                refine hrs.mono ?_
                rintro e w2 ⟨v9, rfl, ho, hb⟩
                refine ⟨_, rfl, Hrgdk.out 18 Lq w2  (Hrgdb.out Lq wq w2 hh.cls hb), ?_, Hrgdxb.out wq w2 hb⟩
                rw [Hrgde18.out]
                exact (HeldE.ownedInts ho).zone fun _ _ _ => trivial
              · intro Lq wq xq hh
                have d16 : Ergd 16 (xq 16) wq := hh.val 16 (by kernel_rfl) (by kernel_rfl)
                rw [Hrgde16.out] at d16
                simp only [hFrgd, d16]
                clear d16
                refine .inl ⟨rfl, ?_⟩
                unfold Reg.upon
                have hk := Hrgdk.out 19 Lq wq  hh.cls
                have hx := Hrgdx.out wq
                have he : Ergd 19 (.slice o20 nT k20) wq := by rw [Hrgde19.out]
                have HK := Lib.hid (And.intro hk (And.intro he hx))
                clear hk hx he
                go_simp
                exact HK.out
              · intro Lq wq xq hh
                have d16 : Ergd 16 (xq 16) wq := hh.val 16 (by kernel_rfl) (by kernel_rfl)
                rw [Hrgde16.out] at d16
                have d18 : Ergd 18 (xq 18) wq := hh.val 18 (by kernel_rfl) (by kernel_rfl)
                rw [Hrgde18.out] at d18
                have d19 : Ergd 19 (xq 19) wq := hh.val 19 (by kernel_rfl) (by kernel_rfl)
                rw [Hrgde19.out] at d19
                simp only [hFrgd, d16, d19]
                clear d16 d19
                refine .inl ⟨rfl, ?_⟩
                unfold Reg.upon
                have hc : Crgd Lq wq := hh.cls
                rw [HrgdhC.out] at hc
                have hsm := same_any _ (.slice o20 nT k20) TT TT wq d18.ints (HT.out.below hc).ints (by have := HTL.out; omega)
                rw [sameB_self] at hsm
                clear hc
                go_simp
                refine hsm.mono ?_
                rintro e w2 ⟨rfl, hb⟩
                exact ⟨_, rfl, Hrgdk.out 20 Lq w2  (Hrgdb.out Lq wq w2 hh.cls hb), (by rw [Hrgde20.out]), Hrgdxb.out wq w2 hb⟩
              · intro Lq wq xq hh
                have d16 : Ergd 16 (xq 16) wq := hh.val 16 (by kernel_rfl) (by kernel_rfl)
                rw [Hrgde16.out] at d16
                have d20 : Ergd 20 (xq 20) wq := hh.val 20 (by kernel_rfl) (by kernel_rfl)
                rw [Hrgde20.out] at d20
                simp only [hFrgd, d16, d20]
                clear d16 d20
                refine .inl ⟨rfl, ?_⟩
                unfold Reg.upon
                have hk := Hrgdk.out 21 Lq wq  hh.cls
                have hx := Hrgdx.out wq
                have he : Ergd 21 (.bool false) wq := by rw [Hrgde21.out]
                have HK := Lib.hid (And.intro hk (And.intro he hx))
                clear hk hx he
                go_simp
                exact HK.out
              · intro Lq wq xq hh
                have d16 : Ergd 16 (xq 16) wq := hh.val 16 (by kernel_rfl) (by kernel_rfl)
                rw [Hrgde16.out] at d16
                have d21 : Ergd 21 (xq 21) wq := hh.val 21 (by kernel_rfl) (by kernel_rfl)
                rw [Hrgde21.out] at d21
                simp only [hFrgd, d16, d21]
                clear d16 d21
                refine .inl ⟨rfl, ?_⟩
                unfold Reg.upon
                have hk := Hrgdk.out 22 Lq wq  hh.cls
                have hx := Hrgdx.out wq
                have he : Ergd 22 (.bool false) wq := by rw [Hrgde22.out]
                have HK := Lib.hid (And.intro hk (And.intro he hx))
                clear hk hx he
                go_simp
                exact HK.out
            intro xq wrgd hcrgd hvrgd
            rw [HrgdhC.out] at hcrgd
            simp only [hFrgd]
            have vrgd22 : Ergd 22 (xq 22) wrgd := hvrgd 22 (by decide)
            rw [Hrgde22.out] at vrgd22
            rw [vrgd22]
            clear hvrgd hFrgd Hrgdk Hrgdx Hrgdst Hrgdc HrgdhC HrgdhX Hrgdb Hrgdxb Hrgde0 Hrgde1 Hrgde2 Hrgde3 Hrgde4 Hrgde5 Hrgde6 Hrgde7 Hrgde8 Hrgde9 Hrgde10 Hrgde11 Hrgde12 Hrgde13 Hrgde14 Hrgde15 Hrgde16 Hrgde17 Hrgde18 Hrgde19 Hrgde20 Hrgde21 Hrgde22
            have HZ := Lib.hid (HLR2.out.below hcrgd)
            have HKI := Lib.hid (show min (max (i + 1) 1) 16 = K from by have := HHK.out; omega)
            clear hcrgd
            go_wp2
            go_roundw
            case rel => exact ⟨i + 1, by omega, by go_num, by rw [HKI.out]; exact HZ.out⟩
            case measure => simp [intOf] <;> omega
        · obtain rfl : i = m := by omega
          have j1 : decide ((i : Int) < (i : Int)) = false := by rw [decide_eq_false_iff_not]; omega
          have HF := Lib.hid (BW1.out.trans (HLP.out.2.2.1.mono BW1.out.size))
          go_wp2
          go_ret
          exact ⟨(ret_eq (by first | rfl | (simp <;> omega))), HF.out⟩
end Go.Proofs.YtoeggiplcaegoaaGreatDoor.lawWidenGrows
