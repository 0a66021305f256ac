/- Rows of numbers as texts; the reference's Same (16), of alike lists. -/
import Derived.Test.YtgkcobmbdpgceaaGraN
import Derived.Test.YtgkcobmbdpgceaaMg1
import Derived.Laws.Cover4
namespace Go.Proofs.Ytgkcobmbdpgceaa
open Go.RowKit Go.ChangeShapes Go.WideShapes
theorem held_rtext {P : Program} {w : World} {v : Value} {xs : List Int} (h : Held .i32 w v xs) (src e dst : TypeId) (hs : P.underlying src = some (.slice e)) (he : P.underlying e = some (.int .i32)) (hd : P.underlying dst = some .string) :
    (convert src dst v).run P w = .ok (.string (runesBytes xs)) w := by
  obtain ⟨ao, cap, rfl, hn, hc⟩ := h
  cases xs with
  | nil =>
    cases ao with
    | none => exact run_convert_runes_nil w src dst e 0 cap hs he hd
    | some a =>
      rw [run_convert_runes_string w src dst e _ _ _ hs he hd]
      exact run_runesToString w a 0 cap [] (by simp [loadCells, loadCellsFrom])
  | cons x xs =>
    obtain ⟨b, off, rfl, _, _⟩ := hc 0 (by simp)
    have h2 := run_convert_runes w src dst e ⟨b, off, none⟩ (x :: xs).length cap (x :: xs) (Nat.le_refl _) hs he hd (fun j hj => by
      obtain ⟨b', off', e1, _, h1⟩ := hc j hj
      cases e1
      rw [Addr.add_lit]
      exact h1)
    rw [List.take_of_length_le (Nat.le_refl _)] at h2
    exact h2
set_option maxRecDepth 100000 in
set_option maxHeartbeats 2000000 in
theorem rsame16_self (Z Y : Zone) (v u : Value) (L : List (List Int)) (w : World) (hx : HeldE rowE Z w v L) (hy : HeldE rowE Y w u L) : Calls Try.prog 24 #[v, u] w (Gives w (.bool true)) := by
  have hla := hx.max
  obtain ⟨ao, ca, rfl⟩ := hx.len
  obtain ⟨bo, cb, rfl⟩ := hy.len
  obtain ⟨m, hm⟩ : ∃ m, m = L.length := ⟨_, rfl⟩
  have HX := Lib.hid hx
  have HY := Lib.hid hy
  have HM := Lib.hid hm
  rw [← hm] at HX HY hla ⊢
  have hmm : ((m : Int) != (m : Int)) = false := by simp
  clear hx hy hm
  go_enter Try.func24, Try.ntmps24
  go_wp2
  go_loopw [5] (fun i wr => ∃ k : Nat, k ≤ m ∧ i = .int .i64 k ∧ Below w.heap.size w wr) (fun i _ => m - (intOf i).toNat)
  case atStart => exact ⟨0, Nat.zero_le _, rfl, Below.refl _ _⟩
  case round =>
    obtain ⟨k, hk, rfl, hbw⟩ := hrel
    obtain ⟨wk, hwk⟩ : ∃ wk, wk = wr := ⟨_, rfl⟩
    subst hwk
    have HB := Lib.hid hbw
    clear hbw hmm
    by_cases hlt : k < m
    · have hc4 := (HX.out.below HB.out).spots.2.1
      have h4 := (HX.out.below HB.out).spots.2.2
      have hc5 := (HY.out.below HB.out).spots.2.1
      have h5 := (HY.out.below HB.out).spots.2.2
      obtain ⟨g4, o4, e4, _, _, C4, q4, tv4, hC4, ht4⟩ := h4 k (by rw [← HM.out]; exact hlt)
      obtain ⟨g5, o5, e5, _, _, C5, q5, tv5, hC5, ht5⟩ := h5 k (by rw [← HM.out]; exact hlt)
      subst e4 e5 hC4 hC5
      have d4 : wk.cell? ⟨g4, o4 + k, none⟩ = some tv4 := by have := q4 0 (by decide); simpa [show rowE.size = 1 from rfl] using this
      have d5 : wk.cell? ⟨g5, o5 + k, none⟩ = some tv5 := by have := q5 0 (by decide); simpa [show rowE.size = 1 from rfl] using this
      obtain ⟨T, hT⟩ : ∃ T, T = L.getD k rowE.zero := ⟨_, rfl⟩
      rw [← hT] at ht4 ht5
      obtain ⟨p4, r4, rfl⟩ := ht4.len
      obtain ⟨p5, r5, rfl⟩ := ht5.len
      have HQ4 := Lib.hid (fun w' (h : Below wk.heap.size wk w') => held_rtext (P := Try.prog) (ht4.ints.below h) 22 21 9 Try.underlying22 Try.underlying21 Try.underlying9)
      have HQ5 := Lib.hid (fun w' (h : Below wk.heap.size wk w') => held_rtext (P := Try.prog) (ht5.ints.below h) 22 21 9 Try.underlying22 Try.underlying21 Try.underlying9)
      obtain ⟨S, hS⟩ : ∃ S, S = runesBytes T := ⟨_, rfl⟩
      rw [← hS] at HQ4 HQ5
      obtain ⟨tl, htl⟩ : ∃ tl, tl = T.length := ⟨_, rfl⟩
      rw [← htl] at d4 d5 HQ4 HQ5
      have HD4 := Lib.hid d4
      have HD5 := Lib.hid d5
      have HG4 := Lib.hid (World.block_lt_of_cell? _ _ d4)
      have HG5 := Lib.hid (World.block_lt_of_cell? _ _ d5)
      have hc4 : k < ca := by omega
      have hc5 : k < cb := by omega
      have htt : ((tl : Int) != (tl : Int)) = false := by simp
      clear h4 h5 q4 q5 ht4 ht5 hT htl hS d4 d5
      go_wp2
      obtain ⟨Erg, hErg⟩ : ∃ EE : Nat → Value → World → Prop, EE = fun jj xx ww => match jj with
          | 0 => xx = .slice (some ⟨g4, o4, none⟩) m ca
          | 1 => xx = .int .i64 (k : Int)
          | 2 => xx = .pointer (some ⟨g4, o4 + k, none⟩)
          | 3 => xx = .slice p4 tl r4
          | 4 => xx = .string S
          | 5 => xx = .slice (some ⟨g5, o5, none⟩) m cb
          | 6 => xx = .int .i64 (k : Int)
          | 7 => xx = .pointer (some ⟨g5, o5 + k, none⟩)
          | 8 => xx = .slice p5 tl r5
          | 9 => xx = .string S
          | 10 => xx = .bool false
          | 11 => xx = .bool false
          | 12 => xx = .slice (some ⟨g4, o4, none⟩) m ca
          | 13 => xx = .int .i64 (k : Int)
          | 14 => xx = .pointer (some ⟨g4, o4 + k, none⟩)
          | 15 => xx = .slice p4 tl r4
          | 16 => xx = .int .i64 (tl : Int)
          | 17 => xx = .slice (some ⟨g5, o5, none⟩) m cb
          | 18 => xx = .int .i64 (k : Int)
          | 19 => xx = .pointer (some ⟨g5, o5 + k, none⟩)
          | 20 => xx = .slice p5 tl r5
          | 21 => xx = .int .i64 (tl : Int)
          | 22 => xx = .bool false
          | 23 => xx = .bool false
          | _ => True := ⟨_, rfl⟩
      have erg0 : ∀ xx ww, Erg 0 xx ww = (xx = .slice (some ⟨g4, o4, none⟩) m ca) := fun xx ww => congrFun (congrFun (congrFun hErg 0) xx) ww
      have erg1 : ∀ xx ww, Erg 1 xx ww = (xx = .int .i64 (k : Int)) := fun xx ww => congrFun (congrFun (congrFun hErg 1) xx) ww
      have erg2 : ∀ xx ww, Erg 2 xx ww = (xx = .pointer (some ⟨g4, o4 + k, none⟩)) := fun xx ww => congrFun (congrFun (congrFun hErg 2) xx) ww
      have erg3 : ∀ xx ww, Erg 3 xx ww = (xx = .slice p4 tl r4) := fun xx ww => congrFun (congrFun (congrFun hErg 3) xx) ww
      have erg4 : ∀ xx ww, Erg 4 xx ww = (xx = .string S) := fun xx ww => congrFun (congrFun (congrFun hErg 4) xx) ww
      have erg5 : ∀ xx ww, Erg 5 xx ww = (xx = .slice (some ⟨g5, o5, none⟩) m cb) := fun xx ww => congrFun (congrFun (congrFun hErg 5) xx) ww
      have erg6 : ∀ xx ww, Erg 6 xx ww = (xx = .int .i64 (k : Int)) := fun xx ww => congrFun (congrFun (congrFun hErg 6) xx) ww
      have erg7 : ∀ xx ww, Erg 7 xx ww = (xx = .pointer (some ⟨g5, o5 + k, none⟩)) := fun xx ww => congrFun (congrFun (congrFun hErg 7) xx) ww
      have erg8 : ∀ xx ww, Erg 8 xx ww = (xx = .slice p5 tl r5) := fun xx ww => congrFun (congrFun (congrFun hErg 8) xx) ww
      have erg9 : ∀ xx ww, Erg 9 xx ww = (xx = .string S) := fun xx ww => congrFun (congrFun (congrFun hErg 9) xx) ww
      have erg10 : ∀ xx ww, Erg 10 xx ww = (xx = .bool false) := fun xx ww => congrFun (congrFun (congrFun hErg 10) xx) ww
      have erg11 : ∀ xx ww, Erg 11 xx ww = (xx = .bool false) := fun xx ww => congrFun (congrFun (congrFun hErg 11) xx) ww
      have erg12 : ∀ xx ww, Erg 12 xx ww = (xx = .slice (some ⟨g4, o4, none⟩) m ca) := fun xx ww => congrFun (congrFun (congrFun hErg 12) xx) ww
      have erg13 : ∀ xx ww, Erg 13 xx ww = (xx = .int .i64 (k : Int)) := fun xx ww => congrFun (congrFun (congrFun hErg 13) xx) ww
      have erg14 : ∀ xx ww, Erg 14 xx ww = (xx = .pointer (some ⟨g4, o4 + k, none⟩)) := fun xx ww => congrFun (congrFun (congrFun hErg 14) xx) ww
      have erg15 : ∀ xx ww, Erg 15 xx ww = (xx = .slice p4 tl r4) := fun xx ww => congrFun (congrFun (congrFun hErg 15) xx) ww
      have erg16 : ∀ xx ww, Erg 16 xx ww = (xx = .int .i64 (tl : Int)) := fun xx ww => congrFun (congrFun (congrFun hErg 16) xx) ww
      have erg17 : ∀ xx ww, Erg 17 xx ww = (xx = .slice (some ⟨g5, o5, none⟩) m cb) := fun xx ww => congrFun (congrFun (congrFun hErg 17) xx) ww
      have erg18 : ∀ xx ww, Erg 18 xx ww = (xx = .int .i64 (k : Int)) := fun xx ww => congrFun (congrFun (congrFun hErg 18) xx) ww
      have erg19 : ∀ xx ww, Erg 19 xx ww = (xx = .pointer (some ⟨g5, o5 + k, none⟩)) := fun xx ww => congrFun (congrFun (congrFun hErg 19) xx) ww
      have erg20 : ∀ xx ww, Erg 20 xx ww = (xx = .slice p5 tl r5) := fun xx ww => congrFun (congrFun (congrFun hErg 20) xx) ww
      have erg21 : ∀ xx ww, Erg 21 xx ww = (xx = .int .i64 (tl : Int)) := fun xx ww => congrFun (congrFun (congrFun hErg 21) xx) ww
      have erg22 : ∀ xx ww, Erg 22 xx ww = (xx = .bool false) := fun xx ww => congrFun (congrFun (congrFun hErg 22) xx) ww
      have erg23 : ∀ xx ww, Erg 23 xx ww = (xx = .bool false) := fun xx ww => congrFun (congrFun (congrFun hErg 23) xx) ww
      obtain ⟨Crg, hCrg⟩ : ∃ CC : Array Bool → World → Prop, CC = fun L8 w' => Below wk.heap.size wk w' := ⟨_, rfl⟩
      have krg : ∀ i L w,  Crg L w → Crg (L.setIfInBounds i true) w := by
        intro i L w  h
        rw [hCrg] at h ⊢
        exact h
      obtain ⟨Xrg, hXrg⟩ : ∃ XX : World → World → Prop, XX = fun x y => Below x.heap.size x y := ⟨_, rfl⟩
      have xrg : ∀ w, Xrg w w := fun w => by rw [hXrg]; exact Below.refl _ _
      have strg : ∀ j x w w1, Xrg w w1 → Erg j x w → Erg j x w1 := by
        intro j x w w1 hx h
        rw [hXrg] at hx
        match j with
        | 0 => rw [erg0] at h ⊢; exact h
        | 1 => rw [erg1] at h ⊢; exact h
        | 2 => rw [erg2] at h ⊢; exact h
        | 3 => rw [erg3] at h ⊢; exact h
        | 4 => rw [erg4] at h ⊢; exact h
        | 5 => rw [erg5] at h ⊢; exact h
        | 6 => rw [erg6] at h ⊢; exact h
        | 7 => rw [erg7] at h ⊢; exact h
        | 8 => rw [erg8] at h ⊢; exact h
        | 9 => rw [erg9] at h ⊢; exact h
        | 10 => rw [erg10] at h ⊢; exact h
        | 11 => rw [erg11] at h ⊢; exact h
        | 12 => rw [erg12] at h ⊢; exact h
        | 13 => rw [erg13] at h ⊢; exact h
        | 14 => rw [erg14] at h ⊢; exact h
        | 15 => rw [erg15] at h ⊢; exact h
        | 16 => rw [erg16] at h ⊢; exact h
        | 17 => rw [erg17] at h ⊢; exact h
        | 18 => rw [erg18] at h ⊢; exact h
        | 19 => rw [erg19] at h ⊢; exact h
        | 20 => rw [erg20] at h ⊢; exact h
        | 21 => rw [erg21] at h ⊢; exact h
        | 22 => rw [erg22] at h ⊢; exact h
        | 23 => rw [erg23] at h ⊢; exact h
        | j + 24 => rw [hErg]; trivial
      have crg : Crg (Array.replicate 24 false) wk.drew := by rw [hCrg]; exact (Below.refl _ _).drew
      have brg : ∀ L w w1, Crg L w → Below w.heap.size w w1 → Crg L w1 := by
        intro L w w1 h hb
        rw [hCrg] at h ⊢
        exact h.trans (hb.mono h.size)
      have xbrg : ∀ w w1, Below w.heap.size w w1 → Xrg w w1 := by
        intro w w1 hb
        rw [hXrg]
        exact hb
      have Hrgb := Lib.hid brg
      have Hrgxb := Lib.hid xbrg
      clear brg xbrg
      clear hErg
      have Hrgk := Lib.hid krg
      have Hrgx := Lib.hid xrg
      have Hrgst := Lib.hid strg
      have Hrgc := Lib.hid crg
      have HrghC := Lib.hid hCrg
      have HrghX := Lib.hid hXrg
      have Hrge0 := Lib.hid erg0
      have Hrge1 := Lib.hid erg1
      have Hrge2 := Lib.hid erg2
      have Hrge3 := Lib.hid erg3
      have Hrge4 := Lib.hid erg4
      have Hrge5 := Lib.hid erg5
      have Hrge6 := Lib.hid erg6
      have Hrge7 := Lib.hid erg7
      have Hrge8 := Lib.hid erg8
      have Hrge9 := Lib.hid erg9
      have Hrge10 := Lib.hid erg10
      have Hrge11 := Lib.hid erg11
      have Hrge12 := Lib.hid erg12
      have Hrge13 := Lib.hid erg13
      have Hrge14 := Lib.hid erg14
      have Hrge15 := Lib.hid erg15
      have Hrge16 := Lib.hid erg16
      have Hrge17 := Lib.hid erg17
      have Hrge18 := Lib.hid erg18
      have Hrge19 := Lib.hid erg19
      have Hrge20 := Lib.hid erg20
      have Hrge21 := Lib.hid erg21
      have Hrge22 := Lib.hid erg22
      have Hrge23 := Lib.hid erg23
      clear krg xrg strg crg hCrg hXrg erg0 erg1 erg2 erg3 erg4 erg5 erg6 erg7 erg8 erg9 erg10 erg11 erg12 erg13 erg14 erg15 erg16 erg17 erg18 erg19 erg20 erg21 erg22 erg23
      go_wp2_with fail
      refine Reg.regionF Erg Crg Xrg Hrgst.out (by kernel_rfl) (by kernel_rfl) (by kernel_rfl) Hrgc.out (fun Frg hFrg => ?_)
      simp only [Reg.frame, Reg.dsts, List.map_cons, List.map_nil, Mix.put_lit, List.set_cons_succ, List.set_cons_zero, Nat.zero_add, Nat.reduceAdd] at hFrg
      refine ⟨?_, ?_⟩
      · refine ⟨?_, ?_, ?_, ?_, ?_, ?_, ?_, ?_, ?_, ?_, ?_, ?_, ?_, ?_, ?_, ?_, ?_, ?_, ?_, ?_, ?_, ?_, ?_, ?_, trivial⟩
        · intro Lq wq xq hh
          simp only [hFrg]
          refine .inl ⟨rfl, ?_⟩
          unfold Reg.upon
          have hk := Hrgk.out 0 Lq wq  hh.cls
          have hx := Hrgx.out wq
          have he : Erg 0 (.slice (some ⟨g4, o4, none⟩) m ca) wq := by rw [Hrge0.out]
          have HK := Lib.hid (And.intro hk (And.intro he hx))
          clear hk hx he
          go_simp
          exact HK.out
        · intro Lq wq xq hh
          simp only [hFrg]
          refine .inl ⟨rfl, ?_⟩
          unfold Reg.upon
          have hk := Hrgk.out 1 Lq wq  hh.cls
          have hx := Hrgx.out wq
          have he : Erg 1 (.int .i64 (k : Int)) wq := by rw [Hrge1.out]
          have HK := Lib.hid (And.intro hk (And.intro he hx))
          clear hk hx he
          go_simp
          exact HK.out
        · intro Lq wq xq hh
          have d0 : Erg 0 (xq 0) wq := hh.val 0 (by kernel_rfl) (by kernel_rfl)
          rw [Hrge0.out] at d0
          have d1 : Erg 1 (xq 1) wq := hh.val 1 (by kernel_rfl) (by kernel_rfl)
          rw [Hrge1.out] at d1
          simp only [hFrg, d0, d1]
          clear d0 d1
          refine .inl ⟨rfl, ?_⟩
          unfold Reg.upon
          have hk := Hrgk.out 2 Lq wq  hh.cls
          have hx := Hrgx.out wq
          have he : Erg 2 (.pointer (some ⟨g4, o4 + k, none⟩)) wq := by rw [Hrge2.out]
          have HK := Lib.hid (And.intro hk (And.intro he hx))
          clear hk hx he
          go_simp
          exact HK.out
        · intro Lq wq xq hh
          have d2 : Erg 2 (xq 2) wq := hh.val 2 (by kernel_rfl) (by kernel_rfl)
          rw [Hrge2.out] at d2
          simp only [hFrg, d2]
          clear d2
          refine .inl ⟨rfl, ?_⟩
          unfold Reg.upon
          have hc : Crg Lq wq := hh.cls
          rw [HrghC.out] at hc
          have q1 := (hc.cell (p := ⟨g4, o4 + k, none⟩) HG4.out).trans HD4.out
          clear hc
          have hk := Hrgk.out 3 Lq wq  hh.cls
          have hx := Hrgx.out wq
          have he : Erg 3 (.slice p4 tl r4) wq := by rw [Hrge3.out]
          have HK := Lib.hid (And.intro hk (And.intro he hx))
          clear hk hx he
          go_simp
          exact HK.out
        · intro Lq wq xq hh
          have d3 : Erg 3 (xq 3) wq := hh.val 3 (by kernel_rfl) (by kernel_rfl)
          rw [Hrge3.out] at d3
          simp only [hFrg, d3]
          clear d3
          refine .inl ⟨rfl, ?_⟩
          unfold Reg.upon
          have hc : Crg Lq wq := hh.cls
          rw [HrghC.out] at hc
          have q1 := HQ4.out wq hc
          clear hc
          have hk := Hrgk.out 4 Lq wq  hh.cls
          have hx := Hrgx.out wq
          have he : Erg 4 (.string S) wq := by rw [Hrge4.out]
          have HK := Lib.hid (And.intro hk (And.intro he hx))
          clear hk hx he
          go_simp
          exact HK.out
        · intro Lq wq xq hh
          simp only [hFrg]
          refine .inl ⟨rfl, ?_⟩
          unfold Reg.upon
          have hk := Hrgk.out 5 Lq wq  hh.cls
          have hx := Hrgx.out wq
          have he : Erg 5 (.slice (some ⟨g5, o5, none⟩) m cb) wq := by rw [Hrge5.out]
          have HK := Lib.hid (And.intro hk (And.intro he hx))
          clear hk hx he
          go_simp
          exact HK.out
        · intro Lq wq xq hh
          simp only [hFrg]
          refine .inl ⟨rfl, ?_⟩
          unfold Reg.upon
          have hk := Hrgk.out 6 Lq wq  hh.cls
          have hx := Hrgx.out wq
          have he : Erg 6 (.int .i64 (k : Int)) wq := by rw [Hrge6.out]
          have HK := Lib.hid (And.intro hk (And.intro he hx))
          clear hk hx he
          go_simp
          exact HK.out
        · intro Lq wq xq hh
          have d5 : Erg 5 (xq 5) wq := hh.val 5 (by kernel_rfl) (by kernel_rfl)
          rw [Hrge5.out] at d5
          have d6 : Erg 6 (xq 6) wq := hh.val 6 (by kernel_rfl) (by kernel_rfl)
          rw [Hrge6.out] at d6
          simp only [hFrg, d5, d6]
          clear d5 d6
          refine .inl ⟨rfl, ?_⟩
          unfold Reg.upon
          have hk := Hrgk.out 7 Lq wq  hh.cls
          have hx := Hrgx.out wq
          have he : Erg 7 (.pointer (some ⟨g5, o5 + k, none⟩)) wq := by rw [Hrge7.out]
          have HK := Lib.hid (And.intro hk (And.intro he hx))
          clear hk hx he
          go_simp
          exact HK.out
        · intro Lq wq xq hh
          have d7 : Erg 7 (xq 7) wq := hh.val 7 (by kernel_rfl) (by kernel_rfl)
          rw [Hrge7.out] at d7
          simp only [hFrg, d7]
          clear d7
          refine .inl ⟨rfl, ?_⟩
          unfold Reg.upon
          have hc : Crg Lq wq := hh.cls
          rw [HrghC.out] at hc
          have q1 := (hc.cell (p := ⟨g5, o5 + k, none⟩) HG5.out).trans HD5.out
          clear hc
          have hk := Hrgk.out 8 Lq wq  hh.cls
          have hx := Hrgx.out wq
          have he : Erg 8 (.slice p5 tl r5) wq := by rw [Hrge8.out]
          have HK := Lib.hid (And.intro hk (And.intro he hx))
          clear hk hx he
          go_simp
          exact HK.out
        · intro Lq wq xq hh
          have d8 : Erg 8 (xq 8) wq := hh.val 8 (by kernel_rfl) (by kernel_rfl)
          rw [Hrge8.out] at d8
          simp only [hFrg, d8]
          clear d8
          refine .inl ⟨rfl, ?_⟩
          unfold Reg.upon
          have hc : Crg Lq wq := hh.cls
          rw [HrghC.out] at hc
          have q1 := HQ5.out wq hc
          clear hc
          have hk := Hrgk.out 9 Lq wq  hh.cls
          have hx := Hrgx.out wq
          have he : Erg 9 (.string S) wq := by rw [Hrge9.out]
          have HK := Lib.hid (And.intro hk (And.intro he hx))
          clear hk hx he
          go_simp
          exact HK.out
        · intro Lq wq xq hh
          have d4 : Erg 4 (xq 4) wq := hh.val 4 (by kernel_rfl) (by kernel_rfl)
          rw [Hrge4.out] at d4
          have d9 : Erg 9 (xq 9) wq := hh.val 9 (by kernel_rfl) (by kernel_rfl)
          rw [Hrge9.out] at d9
          simp only [hFrg, d4, d9]
          clear d4 d9
          refine .inl ⟨rfl, ?_⟩
          unfold Reg.upon
          have hk := Hrgk.out 10 Lq wq  hh.cls
          have hx := Hrgx.out wq
          have he : Erg 10 (.bool false) wq := by rw [Hrge10.out]
          have HK := Lib.hid (And.intro hk (And.intro he hx))
          clear hk hx he
          go_simp
          exact HK.out
        · intro Lq wq xq hh
          have d10 : Erg 10 (xq 10) wq := hh.val 10 (by kernel_rfl) (by kernel_rfl)
          rw [Hrge10.out] at d10
          simp only [hFrg, d10]
          clear d10
          refine .inl ⟨rfl, ?_⟩
          unfold Reg.upon
          have hk := Hrgk.out 11 Lq wq  hh.cls
          have hx := Hrgx.out wq
          have he : Erg 11 (.bool false) wq := by rw [Hrge11.out]
          have HK := Lib.hid (And.intro hk (And.intro he hx))
          clear hk hx he
          go_simp
          exact HK.out
        · intro Lq wq xq hh
          have d11 : Erg 11 (xq 11) wq := hh.val 11 (by kernel_rfl) (by kernel_rfl)
          rw [Hrge11.out] at d11
          simp only [hFrg, d11]
          clear d11
          refine .inl ⟨rfl, ?_⟩
          unfold Reg.upon
          have hk := Hrgk.out 12 Lq wq  hh.cls
          have hx := Hrgx.out wq
          have he : Erg 12 (.slice (some ⟨g4, o4, none⟩) m ca) wq := by rw [Hrge12.out]
          have HK := Lib.hid (And.intro hk (And.intro he hx))
          clear hk hx he
          go_simp
          exact HK.out
        · intro Lq wq xq hh
          have d11 : Erg 11 (xq 11) wq := hh.val 11 (by kernel_rfl) (by kernel_rfl)
          rw [Hrge11.out] at d11
          simp only [hFrg, d11]
          clear d11
          refine .inl ⟨rfl, ?_⟩
          unfold Reg.upon
          have hk := Hrgk.out 13 Lq wq  hh.cls
          have hx := Hrgx.out wq
          have he : Erg 13 (.int .i64 (k : Int)) wq := by rw [Hrge13.out]
          have HK := Lib.hid (And.intro hk (And.intro he hx))
          clear hk hx he
          go_simp
          exact HK.out
        · intro Lq wq xq hh
          have d11 : Erg 11 (xq 11) wq := hh.val 11 (by kernel_rfl) (by kernel_rfl)
          rw [Hrge11.out] at d11
          have d12 : Erg 12 (xq 12) wq := hh.val 12 (by kernel_rfl) (by kernel_rfl)
          rw [Hrge12.out] at d12
          have d13 : Erg 13 (xq 13) wq := hh.val 13 (by kernel_rfl) (by kernel_rfl)
          rw [Hrge13.out] at d13
          simp only [hFrg, d11, d12, d13]
          clear d11 d12 d13
          refine .inl ⟨rfl, ?_⟩
          unfold Reg.upon
          have hk := Hrgk.out 14 Lq wq  hh.cls
          have hx := Hrgx.out wq
          have he : Erg 14 (.pointer (some ⟨g4, o4 + k, none⟩)) wq := by rw [Hrge14.out]
          have HK := Lib.hid (And.intro hk (And.intro he hx))
          clear hk hx he
          go_simp
          exact HK.out
        · intro Lq wq xq hh
          have d11 : Erg 11 (xq 11) wq := hh.val 11 (by kernel_rfl) (by kernel_rfl)
          rw [Hrge11.out] at d11
          have d14 : Erg 14 (xq 14) wq := hh.val 14 (by kernel_rfl) (by kernel_rfl)
          rw [Hrge14.out] at d14
          simp only [hFrg, d11, d14]
          clear d11 d14
          refine .inl ⟨rfl, ?_⟩
          unfold Reg.upon
          have hc : Crg Lq wq := hh.cls
          rw [HrghC.out] at hc
          have q1 := (hc.cell (p := ⟨g4, o4 + k, none⟩) HG4.out).trans HD4.out
          clear hc
          have hk := Hrgk.out 15 Lq wq  hh.cls
          have hx := Hrgx.out wq
          have he : Erg 15 (.slice p4 tl r4) wq := by rw [Hrge15.out]
          have HK := Lib.hid (And.intro hk (And.intro he hx))
          clear hk hx he
          go_simp
          exact HK.out
        · intro Lq wq xq hh
          have d11 : Erg 11 (xq 11) wq := hh.val 11 (by kernel_rfl) (by kernel_rfl)
          rw [Hrge11.out] at d11
          have d15 : Erg 15 (xq 15) wq := hh.val 15 (by kernel_rfl) (by kernel_rfl)
          rw [Hrge15.out] at d15
          simp only [hFrg, d11, d15]
          clear d11 d15
          refine .inl ⟨rfl, ?_⟩
          unfold Reg.upon
          have hk := Hrgk.out 16 Lq wq  hh.cls
          have hx := Hrgx.out wq
          have he : Erg 16 (.int .i64 (tl : Int)) wq := by rw [Hrge16.out]
          have HK := Lib.hid (And.intro hk (And.intro he hx))
          clear hk hx he
          go_simp
          exact HK.out
        · intro Lq wq xq hh
          have d11 : Erg 11 (xq 11) wq := hh.val 11 (by kernel_rfl) (by kernel_rfl)
          rw [Hrge11.out] at d11
          simp only [hFrg, d11]
          clear d11
          refine .inl ⟨rfl, ?_⟩
          unfold Reg.upon
          have hk := Hrgk.out 17 Lq wq  hh.cls
          have hx := Hrgx.out wq
          have he : Erg 17 (.slice (some ⟨g5, o5, none⟩) m cb) wq := by rw [Hrge17.out]
          have HK := Lib.hid (And.intro hk (And.intro he hx))
          clear hk hx he
          go_simp
          exact HK.out
        · intro Lq wq xq hh
          have d11 : Erg 11 (xq 11) wq := hh.val 11 (by kernel_rfl) (by kernel_rfl)
          rw [Hrge11.out] at d11
          simp only [hFrg, d11]
          clear d11
          refine .inl ⟨rfl, ?_⟩
          unfold Reg.upon
          have hk := Hrgk.out 18 Lq wq  hh.cls
          have hx := Hrgx.out wq
          have he : Erg 18 (.int .i64 (k : Int)) wq := by rw [Hrge18.out]
          have HK := Lib.hid (And.intro hk (And.intro he hx))
          clear hk hx he
          go_simp
          exact HK.out
        · intro Lq wq xq hh
          have d11 : Erg 11 (xq 11) wq := hh.val 11 (by kernel_rfl) (by kernel_rfl)
          rw [Hrge11.out] at d11
          have d17 : Erg 17 (xq 17) wq := hh.val 17 (by kernel_rfl) (by kernel_rfl)
          rw [Hrge17.out] at d17
          have d18 : Erg 18 (xq 18) wq := hh.val 18 (by kernel_rfl) (by kernel_rfl)
          rw [Hrge18.out] at d18
          simp only [hFrg, d11, d17, d18]
          clear d11 d17 d18
          refine .inl ⟨rfl, ?_⟩
          unfold Reg.upon
          have hk := Hrgk.out 19 Lq wq  hh.cls
          have hx := Hrgx.out wq
          have he : Erg 19 (.pointer (some ⟨g5, o5 + k, none⟩)) wq := by rw [Hrge19.out]
          have HK := Lib.hid (And.intro hk (And.intro he hx))
          clear hk hx he
          go_simp
          exact HK.out
        · intro Lq wq xq hh
          have d11 : Erg 11 (xq 11) wq := hh.val 11 (by kernel_rfl) (by kernel_rfl)
          rw [Hrge11.out] at d11
          have d19 : Erg 19 (xq 19) wq := hh.val 19 (by kernel_rfl) (by kernel_rfl)
          rw [Hrge19.out] at d19
          simp only [hFrg, d11, d19]
          clear d11 d19
          refine .inl ⟨rfl, ?_⟩
          unfold Reg.upon
          have hc : Crg Lq wq := hh.cls
          rw [HrghC.out] at hc
          have q1 := (hc.cell (p := ⟨g5, o5 + k, none⟩) HG5.out).trans HD5.out
          clear hc
          have hk := Hrgk.out 20 Lq wq  hh.cls
          have hx := Hrgx.out wq
          have he : Erg 20 (.slice p5 tl r5) wq := by rw [Hrge20.out]
          have HK := Lib.hid (And.intro hk (And.intro he hx))
          clear hk hx he
          go_simp
          exact HK.out
        · intro Lq wq xq hh
          have d11 : Erg 11 (xq 11) wq := hh.val 11 (by kernel_rfl) (by kernel_rfl)
          rw [Hrge11.out] at d11
          have d20 : Erg 20 (xq 20) wq := hh.val 20 (by kernel_rfl) (by kernel_rfl)
          rw [Hrge20.out] at d20
          simp only [hFrg, d11, d20]
          clear d11 d20
          refine .inl ⟨rfl, ?_⟩
          unfold Reg.upon
          have hk := Hrgk.out 21 Lq wq  hh.cls
          have hx := Hrgx.out wq
          have he : Erg 21 (.int .i64 (tl : Int)) wq := by rw [Hrge21.out]
          have HK := Lib.hid (And.intro hk (And.intro he hx))
          clear hk hx he
          go_simp
          exact HK.out
        · intro Lq wq xq hh
          have d11 : Erg 11 (xq 11) wq := hh.val 11 (by kernel_rfl) (by kernel_rfl)
          rw [Hrge11.out] at d11
          have d16 : Erg 16 (xq 16) wq := hh.val 16 (by kernel_rfl) (by kernel_rfl)
          rw [Hrge16.out] at d16
          have d21 : Erg 21 (xq 21) wq := hh.val 21 (by kernel_rfl) (by kernel_rfl)
          rw [Hrge21.out] at d21
          simp only [hFrg, d11, d16, d21]
          clear d11 d16 d21
          refine .inl ⟨rfl, ?_⟩
          unfold Reg.upon
          have hk := Hrgk.out 22 Lq wq  hh.cls
          have hx := Hrgx.out wq
          have he : Erg 22 (.bool false) wq := by rw [Hrge22.out]
          have HK := Lib.hid (And.intro hk (And.intro he hx))
          clear hk hx he
          go_simp
          exact HK.out
        · intro Lq wq xq hh
          have d11 : Erg 11 (xq 11) wq := hh.val 11 (by kernel_rfl) (by kernel_rfl)
          rw [Hrge11.out] at d11
          have d22 : Erg 22 (xq 22) wq := hh.val 22 (by kernel_rfl) (by kernel_rfl)
          rw [Hrge22.out] at d22
          simp only [hFrg, d11, d22]
          clear d11 d22
          refine .inl ⟨rfl, ?_⟩
          unfold Reg.upon
          have hk := Hrgk.out 23 Lq wq  hh.cls
          have hx := Hrgx.out wq
          have he : Erg 23 (.bool false) wq := by rw [Hrge23.out]
          have HK := Lib.hid (And.intro hk (And.intro he hx))
          clear hk hx he
          go_simp
          exact HK.out
      intro xq wrg hcrg hvrg
      rw [HrghC.out] at hcrg
      simp only [hFrg]
      have vrg23 : Erg 23 (xq 23) wrg := hvrg 23 (by decide)
      rw [Hrge23.out] at vrg23
      rw [vrg23]
      clear hvrg hFrg Hrgk Hrgx Hrgst Hrgc HrghC HrghX Hrgb Hrgxb Hrge0 Hrge1 Hrge2 Hrge3 Hrge4 Hrge5 Hrge6 Hrge7 Hrge8 Hrge9 Hrge10 Hrge11 Hrge12 Hrge13 Hrge14 Hrge15 Hrge16 Hrge17 Hrge18 Hrge19 Hrge20 Hrge21 Hrge22 Hrge23
      have HE := Lib.hid (HB.out.trans (hcrg.mono HB.out.size))
      clear hcrg
      go_wp2
      go_roundw
      case rel => exact ⟨k + 1, by omega, by go_num, HE.out⟩
      case measure => simp [intOf]; omega
    · obtain rfl : k = m := by omega
      go_wp2
      go_ret
      exact ⟨(ret_eq (by first | rfl | (simp <;> omega))), HB.out⟩
end Go.Proofs.Ytgkcobmbdpgceaa
