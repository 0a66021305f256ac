/- slices.Repeat of one blank. -/
import Derived.Test.YtkpmmkokfllafaaMg1
import Derived.Laws.CopyOwn
import Derived.Lib.MinMax
namespace Go.Proofs.Ytkpmmkokfllafaa
open Go.RowKit Go.ChangeShapes Go.WideShapes
attribute [local go_sem] Oper.semAt_some
theorem made_repR (z : Value) (n : Nat) : madeCells #[z] n = (List.replicate n z).toArray := by
  apply Array.ext
  · simp [madeCells]
  · intro i h1 h2
    simp [madeCells, Nat.mod_one]
/-- The cells, k of which are blanks. -/
def repC (N k : Nat) : List Value := List.replicate k (.int .i32 32) ++ List.replicate (N - k) (.int .i32 0)
theorem repC_len (N k : Nat) (h : k ≤ N) : (repC N k).length = N := by unfold repC; simp; omega
theorem repC_zero (N : Nat) : repC N 0 = List.replicate N (.int .i32 0) := by unfold repC; simp
theorem repC_all (N : Nat) : repC N N = (List.replicate N (32 : Int)).map (Value.int .i32) := by unfold repC; simp
theorem repC_put (N k c : Nat) (h : k + c ≤ N) : (repC N k).take k ++ List.replicate c (.int .i32 32) ++ (repC N k).drop (k + c) = repC N (k + c) := by
  unfold repC
  rw [List.take_left' (by simp), List.drop_append, List.drop_eq_nil_of_le (by simp), List.nil_append, List.length_replicate, List.drop_replicate]
  rw [show List.replicate k (Value.int .i32 32) ++ List.replicate c (.int .i32 32) = List.replicate (k + c) (.int .i32 32) from by simp]
  congr 2
  omega
theorem repC_at (N k j : Nat) (h : j < k) : (repC N k)[j]? = some (.int .i32 32) := by
  unfold repC
  rw [List.getElem?_append_left (by simpa using h)]
  simp [h]
theorem repC_splice (N k c : Nat) (h : k + c ≤ N) : splice (repC N k) k (List.replicate c (.int .i32 32)) = repC N (k + c) := by
  unfold splice
  rw [← repC_put N k c h, List.append_assoc, List.length_replicate]
theorem info_sz : (Try.prog.info? 21).map (·.size) = some 1 := by kernel_rfl
theorem exec_cpy {P : Program} {ρ : Operand → Value} {o : Oper} {s x : Operand} {t t2 : TypeId} {w w' : World} {v u v' : Value} (ho : o.op = .call { callee := .builtin .copy, args := #[s, x], argTypes := #[t, t2] }) (hs : ρ s = v) (hx : ρ x = u)
    (hr : (Builtin.copy_ #[t, t2] o.type #[v, u]).run P w = .ok v' w') : (execOp ρ o).run P w = .ok (.value v') w' := by
  unfold execOp
  simp only [ho, resolve, invoke, builtin, Sem.run_bind, Sem.run_pure, Result.andThen_ok, List.map_toArray, List.map_cons, List.map_nil, hs, hx, hr]
theorem has_of_own {w : World} {B g N ty : Nat} {xs : List Value} (h : w.ownsRow B ty 1 (.slice (some ⟨g, 0, none⟩) N N) N xs) : Has w g xs ty := by
  rcases h.2 with ⟨e, _⟩ | ⟨g', cap, cur, e, _, hg, _, _, hs, ht⟩
  · cases e
  · cases e
    have e2 : cur = xs.toArray := by
      rw [List.take_of_length_le (by rw [Array.length_toList, hs]; exact Nat.le_refl _)] at ht
      rw [← ht]
    rw [e2] at hg
    exact hg
theorem has_setRow {w : World} {g ty : Nat} {xs ys : List Value} (h : Has w g xs ty) : Has (w.setRow g ys.toArray) g ys ty := setRow_heap w g _ _ ty _ h
set_option maxRecDepth 100000 in
set_option maxHeartbeats 3000000 in
theorem rep_any (g : Nat) (N : Nat) (w : World) (hg : Has w g [.int .i32 32] 21) (hN : N ≤ 1024) : Calls Try.prog 40 #[.slice (some ⟨g, 0, none⟩) 1 1, .int .i64 (N : Int)] w (CatOk w (List.replicate N 32)) := by
  have hmul := bits_Mul 1 N (by decide) (by omega) w
  rw [show 1 * N / 18446744073709551616 = 0 from by omega, show 1 * N % 18446744073709551616 = N from by omega] at hmul
  have HMUL := Lib.hid hmul
  have HG := Lib.hid hg
  obtain ⟨i0, hi, hz0, hz1, hz2⟩ := info_parts info_r3
  have hu1 : IntKind.u64.wrap (N : Int) = (N : Int) := by rw [IntKind.wrap_u64]; omega
  have hu2 : IntKind.i64.wrap (N : Int) = (N : Int) := by rw [IntKind.wrap_i64]; omega
  have hn0 : decide ((N : Int) < 0) = false := by rw [decide_eq_false_iff_not]; omega
  have hn1 : decide ((9223372036854775807 : Int) < (N : Int)) = false := by rw [decide_eq_false_iff_not]; omega
  clear hmul hg
  go_enter Try.func40, Try.ntmps40
  go_wp2_with fail
  refine HMUL.out.mono ?_
  rintro e w1 ⟨rfl, rfl⟩
  clear HMUL
  go_wp2_with (at_make; refine wpList_make_full w1 rfl (.tmp 29) (.tmp 29) 28 rfl w1.heap.size 21 i0 (.int .i32 0) 1 Try.underlying28 hi hz0 hz1 .i64 .i64 _ _ N rfl rfl rfl rfl (by rw [hz2]; omega) (by unfold maxLen; omega) (Nat.le_refl _) ?_)
  intro w2 hown2 hg2
  have hh2 := has_of_own hown2
  have hcl : (Value.int .i32 0).cells = #[Value.int .i32 0] := by kernel_rfl
  rw [made_repR, List.toList_toArray, ← repC_zero] at hh2
  have hb2 : Below w1.heap.size w1 w2 := (Below.refl _ _).grown hg2 (Nat.le_refl _) (by intro k hk; cases hk)
  have hgl := HG.out.lt
  have hsrc := (HG.out.below hb2 hgl).cell 0 _ rfl
  obtain ⟨g2, hg2e⟩ : ∃ g2, g2 = w1.heap.size := ⟨_, rfl⟩
  have HG2 := Lib.hid hg2e
  rw [← hg2e] at hh2 ⊢
  obtain ⟨c0, hc0⟩ : ∃ c0, c0 = min 1 N := ⟨_, rfl⟩
  have HC0 := Lib.hid hc0
  obtain ⟨cs, hcs⟩ : ∃ cs, cs = List.replicate c0 (Value.int .i32 32) := ⟨_, rfl⟩
  have hcsl : cs.length = c0 := by rw [hcs]; simp
  have HSP := Lib.hid (repC_splice N 0 c0 (by omega))
  rw [← hcs, Nat.zero_add] at HSP
  have HR0 := Lib.hid hh2
  have HB2 := Lib.hid hb2
  have HL0 := Lib.hid (repC_len N 0 (Nat.zero_le _))
  have HCL := Lib.hid hcsl
  have HCE := Lib.hid (show ∀ (j : Nat) (v : Value), cs[j]? = some v → j = 0 ∧ v = .int .i32 32 from fun j v h => by
    rw [hcs, List.getElem?_replicate] at h
    by_cases hj : j < c0
    · rw [if_pos hj] at h
      exact ⟨by omega, by cases h; rfl⟩
    · rw [if_neg hj] at h; cases h)
  have HONE := Lib.hid (show ∀ v ∈ cs, v.oneCell' = true from fun v hv => by rw [hcs] at hv; rw [(List.mem_replicate.1 hv).2]; rfl)
  have HSRC := Lib.hid hsrc
  clear hown2 hg2 hh2 hb2 hcl hsrc hcs hcsl hc0 hg2e hgl
  go_wp2_with (refine wpList_copy_splice rfl (.tmp 31) (.tmp 32) 28 28 rfl 21 Try.underlying28 info_sz _ _ _ _ _ _ rfl rfl g2 0 (repC N 0) 21 HR0.out cs (by rw [HCL.out]; exact HC0.out) (fun _ => ⟨rfl, _, rfl, fun j v h => by obtain ⟨rfl, rfl⟩ := HCE.out j v h; exact HSRC.out⟩) (by rw [HL0.out, HCL.out]; have := HC0.out; omega) HONE.out w1.heap.size w1 HB2.out (by rw [HG2.out]; exact Nat.le_refl _) ?_)
  intro w3 hg3 hb3
  rw [HSP.out] at hg3
  rw [HCL.out]
  have HR3 := Lib.hid (show Has w3 g2 (repC N c0) 21 from hg3.out)
  have HB3 := Lib.hid hb3
  clear hg3 hb3
  go_wp2
  go_loopw [8] (fun nv wr => ∃ k : Nat, k ≤ N ∧ (0 < N → 0 < k) ∧ nv = .int .i64 k ∧ Has wr g2 (repC N k) 21 ∧ Below w1.heap.size w1 wr) (fun nv _ => N - (intOf nv).toNat)
  case atStart => exact ⟨c0, by have := HC0.out; omega, fun h => by have := HC0.out; omega, rfl, HR3.out, HB3.out⟩
  case round =>
    obtain ⟨k, hk, hkp, rfl, hrow, hbw⟩ := hrel
    obtain ⟨wk, hwk⟩ : ∃ wk, wk = wr := ⟨_, rfl⟩
    subst hwk
    have HROW := Lib.hid hrow
    have HBW := Lib.hid hbw
    clear hrow hbw
    by_cases hlt : k < N
    · have hk0 := hkp (by omega)
      obtain ⟨c, hc⟩ : ∃ c, c = min k (N - k) := ⟨_, rfl⟩
      have HC := Lib.hid hc
      have hcb : 0 < c ∧ c ≤ k ∧ k + c ≤ N := by omega
      have hki : (k : Int) < (N : Int) := by omega
      have hwr : IntKind.i64.wrap ((k : Int) + (c : Int)) = (k : Int) + (c : Int) := by rw [IntKind.wrap_i64]; omega
      have HCB := Lib.hid hcb
      have hz3 : N - k ≠ 0 := by omega
      have hz4 : ((N - k == 0) = false) := by rw [beq_eq_false_iff_ne]; exact hz3
      have hz5 : N ≠ k := by omega
      have hz6 : k ≤ N := by omega
      have hz7 : (k : Int) ≤ N := by omega
      have hz8 : k ≠ 0 := by omega
      have HLR := Lib.hid (repC_len N k hk)
      have HNX := Lib.hid (repC_put N k c hcb.2.2)
      have HAT := Lib.hid (repC_at N k)
      have HKG := Lib.hid (show w1.heap.size ≤ g2 from by rw [HG2.out]; exact Nat.le_refl _)
      have HLT := Lib.hid HROW.out.lt
      clear hc hcb
      go_wp2
      obtain ⟨Erg, hErg⟩ : ∃ EE : Nat → Value → World → Prop, EE = fun jj xx ww => match jj with
          | 0 => xx = .int .i64 (k : Int)
          | 1 => xx = .slice (some ⟨g2, 0, none⟩) N N
          | 2 => xx = .int .i64 (k : Int)
          | 3 => xx = .slice (some ⟨g2, k, none⟩) (N - k) (N - k)
          | 4 => xx = .slice (some ⟨g2, 0, none⟩) N N
          | 5 => xx = .int .i64 (k : Int)
          | 6 => xx = .slice (some ⟨g2, 0, none⟩) k N
          | 7 => xx = .int .i64 (c : Int)
          | 8 => xx = .int .i64 ((k : Int) + (c : Int))
          | 9 => xx = .int .i64 ((k : Int) + (c : Int))
          | _ => True := ⟨_, rfl⟩
      have erg0 : ∀ xx ww, Erg 0 xx ww = (xx = .int .i64 (k : Int)) := fun xx ww => congrFun (congrFun (congrFun hErg 0) xx) ww
      have erg1 : ∀ xx ww, Erg 1 xx ww = (xx = .slice (some ⟨g2, 0, none⟩) N N) := fun xx ww => congrFun (congrFun (congrFun hErg 1) xx) ww
      have erg2 : ∀ xx ww, Erg 2 xx ww = (xx = .int .i64 (k : Int)) := fun xx ww => congrFun (congrFun (congrFun hErg 2) xx) ww
      have erg3 : ∀ xx ww, Erg 3 xx ww = (xx = .slice (some ⟨g2, k, none⟩) (N - k) (N - k)) := fun xx ww => congrFun (congrFun (congrFun hErg 3) xx) ww
      have erg4 : ∀ xx ww, Erg 4 xx ww = (xx = .slice (some ⟨g2, 0, none⟩) N N) := fun xx ww => congrFun (congrFun (congrFun hErg 4) xx) ww
      have erg5 : ∀ xx ww, Erg 5 xx ww = (xx = .int .i64 (k : Int)) := fun xx ww => congrFun (congrFun (congrFun hErg 5) xx) ww
      have erg6 : ∀ xx ww, Erg 6 xx ww = (xx = .slice (some ⟨g2, 0, none⟩) k N) := fun xx ww => congrFun (congrFun (congrFun hErg 6) xx) ww
      have erg7 : ∀ xx ww, Erg 7 xx ww = (xx = .int .i64 (c : Int)) := fun xx ww => congrFun (congrFun (congrFun hErg 7) xx) ww
      have erg8 : ∀ xx ww, Erg 8 xx ww = (xx = .int .i64 ((k : Int) + (c : Int))) := fun xx ww => congrFun (congrFun (congrFun hErg 8) xx) ww
      have erg9 : ∀ xx ww, Erg 9 xx ww = (xx = .int .i64 ((k : Int) + (c : Int))) := fun xx ww => congrFun (congrFun (congrFun hErg 9) xx) ww
      obtain ⟨Crg, hCrg⟩ : ∃ CC : Array Bool → World → Prop, CC = fun L8 w' => (Mix.one L8 7 = 0 → Below wk.heap.size wk w') ∧ (Mix.one L8 7 = 1 → Has w' g2 (repC N (k + c)) 21 ∧ Below w1.heap.size w1 w') := ⟨_, rfl⟩
      have krg : ∀ i L w, i ≠ 7 →  Crg L w → Crg (L.setIfInBounds i true) w := by
        intro i L w q7 h
        rw [hCrg] at h ⊢
        simp only [Mix.one_ne q7]; exact h
      obtain ⟨Xrg, hXrg⟩ : ∃ XX : World → World → Prop, XX = fun x y => True := ⟨_, rfl⟩
      have xrg : ∀ w, Xrg w w := fun w => by rw [hXrg]; exact trivial
      have strg : ∀ j x w w1, Xrg w w1 → Erg j x w → Erg j x w1 := by
        intro j x w w1 hx h
        rw [hXrg] at hx
        match j with
        | 0 => rw [erg0] at h ⊢; exact h
        | 1 => rw [erg1] at h ⊢; exact h
        | 2 => rw [erg2] at h ⊢; exact h
        | 3 => rw [erg3] at h ⊢; exact h
        | 4 => rw [erg4] at h ⊢; exact h
        | 5 => rw [erg5] at h ⊢; exact h
        | 6 => rw [erg6] at h ⊢; exact h
        | 7 => rw [erg7] at h ⊢; exact h
        | 8 => rw [erg8] at h ⊢; exact h
        | 9 => rw [erg9] at h ⊢; exact h
        | j + 10 => rw [hErg]; trivial
      have crg : Crg (Array.replicate 10 false) wk.drew := by rw [hCrg]; exact ⟨fun _ => (Below.refl _ _).drew, fun e => absurd e (by decide)⟩
      have brg : ∀ L w w1, Crg L w → Below w.heap.size w w1 → Crg L w1 := by
        intro L w w1 h hb
        rw [hCrg] at h ⊢
        (obtain ⟨q1, q2⟩ := h; exact ⟨fun e => (q1 e).trans (hb.mono (q1 e).size), fun e => ⟨(q2 e).1.below hb (q2 e).1.lt, (q2 e).2.trans (hb.mono (q2 e).2.size)⟩⟩)
      have xbrg : ∀ w w1, Below w.heap.size w w1 → Xrg w w1 := by
        intro w w1 hb
        rw [hXrg]
        trivial
      have Hrgb := Lib.hid brg
      have Hrgxb := Lib.hid xbrg
      clear brg xbrg
      clear hErg
      have Hrgk := Lib.hid krg
      have Hrgx := Lib.hid xrg
      have Hrgst := Lib.hid strg
      have Hrgc := Lib.hid crg
      have HrghC := Lib.hid hCrg
      have HrghX := Lib.hid hXrg
      have Hrge0 := Lib.hid erg0
      have Hrge1 := Lib.hid erg1
      have Hrge2 := Lib.hid erg2
      have Hrge3 := Lib.hid erg3
      have Hrge4 := Lib.hid erg4
      have Hrge5 := Lib.hid erg5
      have Hrge6 := Lib.hid erg6
      have Hrge7 := Lib.hid erg7
      have Hrge8 := Lib.hid erg8
      have Hrge9 := Lib.hid erg9
      clear krg xrg strg crg hCrg hXrg erg0 erg1 erg2 erg3 erg4 erg5 erg6 erg7 erg8 erg9
      go_wp2_with fail
      refine Reg.regionF Erg Crg Xrg Hrgst.out (by kernel_rfl) (by kernel_rfl) (by kernel_rfl) Hrgc.out (fun Frg hFrg => ?_)
      simp only [Reg.frame, Reg.dsts, List.map_cons, List.map_nil, Mix.put_lit, List.set_cons_succ, List.set_cons_zero, Nat.zero_add, Nat.reduceAdd] at hFrg
      refine ⟨?_, ?_⟩
      · refine ⟨?_, ?_, ?_, ?_, ?_, ?_, ?_, ?_, ?_, ?_, trivial⟩
        · intro Lq wq xq hh
          have d9 := hh.old 9 (by kernel_rfl)
          simp only [hFrg, d9]
          clear d9
          refine .inl ⟨rfl, ?_⟩
          unfold Reg.upon
          have hk := Hrgk.out 0 Lq wq (by decide)  hh.cls
          have hx := Hrgx.out wq
          have he : Erg 0 (.int .i64 (k : Int)) wq := by rw [Hrge0.out]
          have HK := Lib.hid (And.intro hk (And.intro he hx))
          clear hk hx he
          go_simp
          exact HK.out
        · intro Lq wq xq hh
          simp only [hFrg]
          refine .inl ⟨rfl, ?_⟩
          unfold Reg.upon
          have hk := Hrgk.out 1 Lq wq (by decide)  hh.cls
          have hx := Hrgx.out wq
          have he : Erg 1 (.slice (some ⟨g2, 0, none⟩) N N) wq := by rw [Hrge1.out]
          have HK := Lib.hid (And.intro hk (And.intro he hx))
          clear hk hx he
          go_simp
          exact HK.out
        · intro Lq wq xq hh
          have d9 := hh.old 9 (by kernel_rfl)
          simp only [hFrg, d9]
          clear d9
          refine .inl ⟨rfl, ?_⟩
          unfold Reg.upon
          have hk := Hrgk.out 2 Lq wq (by decide)  hh.cls
          have hx := Hrgx.out wq
          have he : Erg 2 (.int .i64 (k : Int)) wq := by rw [Hrge2.out]
          have HK := Lib.hid (And.intro hk (And.intro he hx))
          clear hk hx he
          go_simp
          exact HK.out
        · intro Lq wq xq hh
          have d1 : Erg 1 (xq 1) wq := hh.val 1 (by kernel_rfl) (by kernel_rfl)
          rw [Hrge1.out] at d1
          have d2 : Erg 2 (xq 2) wq := hh.val 2 (by kernel_rfl) (by kernel_rfl)
          rw [Hrge2.out] at d2
          simp only [hFrg, d1, d2]
          clear d1 d2
          refine .inl ⟨rfl, ?_⟩
          unfold Reg.upon
          have hk := Hrgk.out 3 Lq wq (by decide)  hh.cls
          have hx := Hrgx.out wq
          have he : Erg 3 (.slice (some ⟨g2, k, none⟩) (N - k) (N - k)) wq := by rw [Hrge3.out]
          have HK := Lib.hid (And.intro hk (And.intro he hx))
          clear hk hx he
          go_simp
          exact HK.out
        · intro Lq wq xq hh
          simp only [hFrg]
          refine .inl ⟨rfl, ?_⟩
          unfold Reg.upon
          have hk := Hrgk.out 4 Lq wq (by decide)  hh.cls
          have hx := Hrgx.out wq
          have he : Erg 4 (.slice (some ⟨g2, 0, none⟩) N N) wq := by rw [Hrge4.out]
          have HK := Lib.hid (And.intro hk (And.intro he hx))
          clear hk hx he
          go_simp
          exact HK.out
        · intro Lq wq xq hh
          have d9 := hh.old 9 (by kernel_rfl)
          simp only [hFrg, d9]
          clear d9
          refine .inl ⟨rfl, ?_⟩
          unfold Reg.upon
          have hk := Hrgk.out 5 Lq wq (by decide)  hh.cls
          have hx := Hrgx.out wq
          have he : Erg 5 (.int .i64 (k : Int)) wq := by rw [Hrge5.out]
          have HK := Lib.hid (And.intro hk (And.intro he hx))
          clear hk hx he
          go_simp
          exact HK.out
        · intro Lq wq xq hh
          have d4 : Erg 4 (xq 4) wq := hh.val 4 (by kernel_rfl) (by kernel_rfl)
          rw [Hrge4.out] at d4
          have d5 : Erg 5 (xq 5) wq := hh.val 5 (by kernel_rfl) (by kernel_rfl)
          rw [Hrge5.out] at d5
          simp only [hFrg, d4, d5]
          clear d4 d5
          refine .inl ⟨rfl, ?_⟩
          unfold Reg.upon
          have hk := Hrgk.out 6 Lq wq (by decide)  hh.cls
          have hx := Hrgx.out wq
          have he : Erg 6 (.slice (some ⟨g2, 0, none⟩) k N) wq := by rw [Hrge6.out]
          have HK := Lib.hid (And.intro hk (And.intro he hx))
          clear hk hx he
          go_simp
          exact HK.out
        · intro Lq wq xq hh
          have d3 : Erg 3 (xq 3) wq := hh.val 3 (by kernel_rfl) (by kernel_rfl)
          rw [Hrge3.out] at d3
          have d6 : Erg 6 (xq 6) wq := hh.val 6 (by kernel_rfl) (by kernel_rfl)
          rw [Hrge6.out] at d6
          simp only [hFrg, d3, d6]
          clear d3 d6
          refine .inl ⟨rfl, ?_⟩
          unfold Reg.upon
          have hc : Crg Lq wq := hh.cls
          rw [HrghC.out] at hc
          have hc7 := hc.1 hh.un
          have hrow := HROW.out.below hc7 HLT.out
          have hr := run_copy_row (P := Try.prog) wq 28 28 3 21 g2 k (N - k) (N - k) ⟨g2, 0, none⟩ k N _ 21 (List.replicate c (.int .i32 32)) Try.underlying28 info_sz hrow (by rw [List.length_replicate]; exact HC.out) (fun j v h => by
              rw [List.getElem?_replicate] at h
              by_cases hj : j < c
              · rw [if_pos hj] at h
                cases h
                have := HCB.out
                have h9 := hrow.cell j _ (HAT.out j (by omega))
                rw [Addr.add_lit, Nat.zero_add]
                exact h9
              · rw [if_neg hj] at h; cases h) (by rw [List.length_replicate]; simp only [List.size_toArray]; rw [HLR.out]; exact HCB.out.2.2) (fun v hv => by rw [(List.mem_replicate.1 hv).2]; rfl)
          rw [List.length_replicate, List.toList_toArray, HNX.out] at hr
          rw [exec_cpy rfl rfl rfl hr]
          refine ⟨?_, by rw [Hrge7.out]; rfl, by rw [HrghX.out]; trivial⟩
          rw [HrghC.out]
          refine ⟨fun e => ?_, fun _ => ⟨has_setRow hrow, below_setRow (HBW.out.trans (hc7.mono HBW.out.size)) HKG.out _⟩⟩
          rw [Mix.one_set (by rw [hh.size]; decide)] at e; exact absurd e (by decide)
        · intro Lq wq xq hh
          have d0 : Erg 0 (xq 0) wq := hh.val 0 (by kernel_rfl) (by kernel_rfl)
          rw [Hrge0.out] at d0
          have d7 : Erg 7 (xq 7) wq := hh.val 7 (by kernel_rfl) (by kernel_rfl)
          rw [Hrge7.out] at d7
          simp only [hFrg, d0, d7]
          clear d0 d7
          refine .inl ⟨rfl, ?_⟩
          unfold Reg.upon
          have hk := Hrgk.out 8 Lq wq (by decide)  hh.cls
          have hx := Hrgx.out wq
          have he : Erg 8 (.int .i64 ((k : Int) + (c : Int))) wq := by rw [Hrge8.out]
          have HK := Lib.hid (And.intro hk (And.intro he hx))
          clear hk hx he
          go_simp
          exact HK.out
        · intro Lq wq xq hh
          have d8 : Erg 8 (xq 8) wq := hh.val 8 (by kernel_rfl) (by kernel_rfl)
          rw [Hrge8.out] at d8
          simp only [hFrg, d8]
          clear d8
          refine .inl ⟨rfl, ?_⟩
          unfold Reg.upon
          have hk := Hrgk.out 9 Lq wq (by decide)  hh.cls
          have hx := Hrgx.out wq
          have he : Erg 9 (.int .i64 ((k : Int) + (c : Int))) wq := by rw [Hrge9.out]
          have HK := Lib.hid (And.intro hk (And.intro he hx))
          clear hk hx he
          go_simp
          exact HK.out
      intro xq wrg hcrg hvrg
      rw [HrghC.out] at hcrg
      simp only [hFrg]
      have vrg9 : Erg 9 (xq 9) wrg := hvrg 9 (by decide)
      rw [Hrge9.out] at vrg9
      rw [vrg9]
      clear hvrg hFrg Hrgk Hrgx Hrgst Hrgc HrghC HrghX Hrgb Hrgxb Hrge0 Hrge1 Hrge2 Hrge3 Hrge4 Hrge5 Hrge6 Hrge7 Hrge8 Hrge9
      obtain ⟨k3, k4⟩ := hcrg.2 (by kernel_rfl)
      have HF1 := Lib.hid k3
      have HF2 := Lib.hid k4
      clear k3 k4 hcrg
      go_wp2
      go_roundw
      case rel => exact ⟨k + c, HCB.out.2.2, fun _ => by omega, by go_num, HF1.out, HF2.out⟩
      case measure => have := HCB.out; simp [intOf] <;> omega
    · obtain rfl : k = N := by omega
      have hrow := HROW.out
      have hown : wk.ownsRow w1.heap.size 21 1 (.slice (some ⟨g2, 0, none⟩) k k) k ((List.replicate k (32 : Int)).map (Value.int .i32)) := by
        rw [← repC_all]
        exact ⟨by rw [repC_len k k (Nat.le_refl _), Nat.mul_one], .inr ⟨g2, k, _, rfl, by rw [HG2.out]; exact Nat.le_refl _, hrow, Nat.le_refl _, by unfold maxLen; omega, by simp only [List.size_toArray]; rw [repC_len k k (Nat.le_refl _), Nat.mul_one], by rw [List.toList_toArray, List.take_of_length_le (by rw [repC_len k k (Nat.le_refl _), Nat.mul_one]; exact Nat.le_refl _)]⟩⟩
      have HO := Lib.hid hown
      clear hrow hown
      go_wp2
      go_ret
      exact ⟨_, (ret_eq (by first | rfl | (simp <;> omega))), by rw [List.length_replicate]; exact HO.out, HBW.out⟩
end Go.Proofs.Ytkpmmkokfllafaa
