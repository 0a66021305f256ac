/- Grids: Copy, Set; nil grids. -/
import Derived.Test.YtmclmhdlnlcafaaDoorGrdC
namespace Go.Proofs.YtmclmhdlnlcafaaDoor
open Go.RowKit Go.ChangeShapes Go.WideShapes
theorem upon_make {P : Program} {Post : Value → World → Prop} {ρ : Operand → Value} {o : Oper} {w : World} {l c : Operand} {t : TypeId} (hop : o.op = Op.makeSlice t l c)
    (base : Nat) (e : TypeId) (i : TypeInfo) (z : Value) (size : Nat) (h1 : P.underlying t = some (.slice e)) (h2 : P.info? e = some i) (h3 : i.zero = some z) (h4 : i.size = size)
    (kl kc : IntKind) (n : Nat) (hl : ρ l = .int kl n) (hc : ρ c = .int kc n) (b2 : i.bytes * n ≤ 281474976710656) (b3 : n ≤ maxLen) (b4 : base ≤ w.heap.size)
    (hK : ∀ w', w'.ownsRow base e size (.slice (some ⟨w.heap.size, 0, none⟩) n n) n (madeCells z.cells (n * size)).toList → w.grownBy w' none → Post (.slice (some ⟨w.heap.size, 0, none⟩) n n) w') :
    Reg.upon P Post ((execOp ρ o).run P w) := by
  obtain ⟨w', hrun, r1, r2⟩ := run_make_full (P := P) w base t e i z size h1 h2 h3 h4 kl kc n b2 b3 b4
  have hx : (execOp ρ o).run P w = .ok (.value (.slice (some ⟨w.heap.size, 0, none⟩) n n)) w' := by simp [execOp, hop, hl, hc, hrun, Result.andThen]
  rw [hx]
  exact hK w' r1 r2
theorem ptrs_made {w : World} {B g n c : Nat} (h : w.ownsRow B 25 1 (.slice (some ⟨g, 0, none⟩) n c) n (madeCells (Value.pointer none).cells (n * 1)).toList) : OwnE ptrE (fun _ => True) w B 25 (.slice (some ⟨g, 0, none⟩) n c) (List.replicate n none) := own_ptrs (by
  have e := made_flat [Value.pointer none] (by decide) n
  have e2 : (List.replicate n [Value.pointer none]).flatten = (List.replicate n (none : Option Nat)).map ptrV := by rw [← ptr_flat, List.map_replicate]; rfl
  rw [← e2, ← e]
  rw [show (Value.pointer none).cells = [Value.pointer none].toArray from by kernel_rfl] at h
  exact h)
set_option maxRecDepth 100000 in
set_option maxHeartbeats 3000000 in
theorem gcopy_any (B gg gr wd : Nat) (Rs : List Rw) (w : World) (h : GridAt w B gg gr wd Rs) : Calls Tryd.prog 50 #[.pointer (some ⟨gg, 0, none⟩)] w (GridMade w wd (Rs.map lineOf)) := by
  have HG := Lib.hid h
  have HSZ := Lib.hid h.sizes
  obtain ⟨cap, c0, c1, hcap, hc⟩ := h.cells
  have hlt := h.lt
  obtain ⟨i0, hi, hz0, hz1, hz2⟩ := info_parts info_rowp
  have HI := Lib.hid (And.intro hi (And.intro hz0 (And.intro hz1 hz2)))
  obtain ⟨n, hn⟩ : ∃ n, n = Rs.length := ⟨_, rfl⟩
  have HN := Lib.hid hn
  have hn9 : n ≤ 1024 := by rw [hn]; exact h.sizes.2.1
  rw [← hn] at c1 hcap hc
  have HF := Lib.hid (show ∀ w9, Below w.heap.size w w9 → w9.cell? ⟨gg, 0, none⟩ = some (.int .i64 wd) ∧ w9.cell? ⟨gg, 1, none⟩ = some (.slice (some ⟨gr, 0, none⟩) n cap) ∧ ∀ i, i < n → w9.cell? ⟨gr, i, none⟩ = some (.pointer (some ⟨(Rs.getD i r0).g, 0, none⟩)) from fun w9 b => ⟨(b.cell (p := ⟨gg, 0, none⟩) hlt.2.1).trans c0, (b.cell (p := ⟨gg, 1, none⟩) hlt.2.1).trans c1, fun i hi => (b.cell (p := ⟨gr, i, none⟩) hlt.2.2.2.1).trans (hc i hi)⟩)
  obtain ⟨Ls, hLs⟩ : ∃ Ls, Ls = Rs.map lineOf := ⟨_, rfl⟩
  rw [← hLs]
  have HLL := Lib.hid (show Ls.length = n by rw [hLs, hn]; simp)
  have HLA := Lib.hid (show ∀ k, k < n → Ls.getD k zl = ((Rs.getD k r0).L, (Rs.getD k r0).wrap) from fun k hk => by
    rw [hLs]
    rw [hn] at hk
    simp [List.getD, List.getElem?_eq_getElem hk, lineOf])
  clear h c0 c1 hc hlt hi hz0 hz1 hz2 hn hLs
  go_enter Tryd.func50, Tryd.ntmps50
  go_upto_region 3 with (fail)
  obtain ⟨Erg, hErg⟩ : ∃ EE : Nat → Value → World → Prop, EE = fun jj xx ww => match jj with
      | 0 => xx = .pointer (some ⟨gg, 0, none⟩)
      | 1 => xx = .pointer (some ⟨gg, 0, none⟩)
      | 2 => xx = .pointer (some ⟨gg, 0, none⟩)
      | 3 => xx = .int .i64 wd
      | 4 => xx = .pointer (some ⟨gg, 0, none⟩)
      | 5 => xx = .pointer (some ⟨gg, 0, none⟩)
      | 6 => xx = .pointer (some ⟨gg, 1, none⟩)
      | 7 => xx = .slice (some ⟨gr, 0, none⟩) n cap
      | 8 => xx = .int .i64 n
      | 9 => (fun x w' => ∃ g9, x = .slice (some ⟨g9, 0, none⟩) n n ∧ OwnE ptrE (fun _ => True) w' w.heap.size 25 (.slice (some ⟨g9, 0, none⟩) n n) (List.replicate n none)) xx ww
      | 10 => (fun x w' => ∃ g9, x = .agg #[.int .i64 wd, .slice (some ⟨g9, 0, none⟩) n n] ∧ OwnE ptrE (fun _ => True) w' w.heap.size 25 (.slice (some ⟨g9, 0, none⟩) n n) (List.replicate n none)) xx ww
      | 11 => (fun x w' => ∃ g8 g9, x = .pointer (some ⟨g8, 0, none⟩) ∧ Has w' g8 [.int .i64 wd, .slice (some ⟨g9, 0, none⟩) n n] 108 ∧ w.heap.size ≤ g8 ∧ OwnE ptrE (fun _ => True) w' w.heap.size 25 (.slice (some ⟨g9, 0, none⟩) n n) (List.replicate n none)) xx ww
      | 12 => (fun x w' => ∃ g8 g9, x = .pointer (some ⟨g8, 0, none⟩) ∧ Has w' g8 [.int .i64 wd, .slice (some ⟨g9, 0, none⟩) n n] 108 ∧ w.heap.size ≤ g8 ∧ OwnE ptrE (fun _ => True) w' w.heap.size 25 (.slice (some ⟨g9, 0, none⟩) n n) (List.replicate n none)) xx ww
      | _ => True := ⟨_, rfl⟩
  have erg0 : ∀ xx ww, Erg 0 xx ww = (xx = .pointer (some ⟨gg, 0, none⟩)) := fun xx ww => congrFun (congrFun (congrFun hErg 0) xx) ww
  have erg1 : ∀ xx ww, Erg 1 xx ww = (xx = .pointer (some ⟨gg, 0, none⟩)) := fun xx ww => congrFun (congrFun (congrFun hErg 1) xx) ww
  have erg2 : ∀ xx ww, Erg 2 xx ww = (xx = .pointer (some ⟨gg, 0, none⟩)) := fun xx ww => congrFun (congrFun (congrFun hErg 2) xx) ww
  have erg3 : ∀ xx ww, Erg 3 xx ww = (xx = .int .i64 wd) := fun xx ww => congrFun (congrFun (congrFun hErg 3) xx) ww
  have erg4 : ∀ xx ww, Erg 4 xx ww = (xx = .pointer (some ⟨gg, 0, none⟩)) := fun xx ww => congrFun (congrFun (congrFun hErg 4) xx) ww
  have erg5 : ∀ xx ww, Erg 5 xx ww = (xx = .pointer (some ⟨gg, 0, none⟩)) := fun xx ww => congrFun (congrFun (congrFun hErg 5) xx) ww
  have erg6 : ∀ xx ww, Erg 6 xx ww = (xx = .pointer (some ⟨gg, 1, none⟩)) := fun xx ww => congrFun (congrFun (congrFun hErg 6) xx) ww
  have erg7 : ∀ xx ww, Erg 7 xx ww = (xx = .slice (some ⟨gr, 0, none⟩) n cap) := fun xx ww => congrFun (congrFun (congrFun hErg 7) xx) ww
  have erg8 : ∀ xx ww, Erg 8 xx ww = (xx = .int .i64 n) := fun xx ww => congrFun (congrFun (congrFun hErg 8) xx) ww
  have erg9 : ∀ xx ww, Erg 9 xx ww = ((fun x w' => ∃ g9, x = .slice (some ⟨g9, 0, none⟩) n n ∧ OwnE ptrE (fun _ => True) w' w.heap.size 25 (.slice (some ⟨g9, 0, none⟩) n n) (List.replicate n none)) xx ww) := fun xx ww => congrFun (congrFun (congrFun hErg 9) xx) ww
  have erg10 : ∀ xx ww, Erg 10 xx ww = ((fun x w' => ∃ g9, x = .agg #[.int .i64 wd, .slice (some ⟨g9, 0, none⟩) n n] ∧ OwnE ptrE (fun _ => True) w' w.heap.size 25 (.slice (some ⟨g9, 0, none⟩) n n) (List.replicate n none)) xx ww) := fun xx ww => congrFun (congrFun (congrFun hErg 10) xx) ww
  have erg11 : ∀ xx ww, Erg 11 xx ww = ((fun x w' => ∃ g8 g9, x = .pointer (some ⟨g8, 0, none⟩) ∧ Has w' g8 [.int .i64 wd, .slice (some ⟨g9, 0, none⟩) n n] 108 ∧ w.heap.size ≤ g8 ∧ OwnE ptrE (fun _ => True) w' w.heap.size 25 (.slice (some ⟨g9, 0, none⟩) n n) (List.replicate n none)) xx ww) := fun xx ww => congrFun (congrFun (congrFun hErg 11) xx) ww
  have erg12 : ∀ xx ww, Erg 12 xx ww = ((fun x w' => ∃ g8 g9, x = .pointer (some ⟨g8, 0, none⟩) ∧ Has w' g8 [.int .i64 wd, .slice (some ⟨g9, 0, none⟩) n n] 108 ∧ w.heap.size ≤ g8 ∧ OwnE ptrE (fun _ => True) w' w.heap.size 25 (.slice (some ⟨g9, 0, none⟩) n n) (List.replicate n none)) xx ww) := fun xx ww => congrFun (congrFun (congrFun hErg 12) xx) ww
  obtain ⟨Crg, hCrg⟩ : ∃ CC : Array Bool → World → Prop, CC = fun L8 w' => Below w.heap.size w w' := ⟨_, rfl⟩
  have krg : ∀ i L w,  Crg L w → Crg (L.setIfInBounds i true) w := by
    intro i L w  h
    rw [hCrg] at h ⊢
    exact h
  obtain ⟨Xrg, hXrg⟩ : ∃ XX : World → World → Prop, XX = fun x y => Below x.heap.size x y := ⟨_, rfl⟩
  have xrg : ∀ w, Xrg w w := fun w => by rw [hXrg]; exact Below.refl _ _
  have strg : ∀ j x w w1, Xrg w w1 → Erg j x w → Erg j x w1 := by
    intro j x w w1 hx h
    rw [hXrg] at hx
    match j with
    | 0 => rw [erg0] at h ⊢; exact h
    | 1 => rw [erg1] at h ⊢; exact h
    | 2 => rw [erg2] at h ⊢; exact h
    | 3 => rw [erg3] at h ⊢; exact h
    | 4 => rw [erg4] at h ⊢; exact h
    | 5 => rw [erg5] at h ⊢; exact h
    | 6 => rw [erg6] at h ⊢; exact h
    | 7 => rw [erg7] at h ⊢; exact h
    | 8 => rw [erg8] at h ⊢; exact h
    | 9 => rw [erg9] at h ⊢; (first | (obtain ⟨g9, e9, h9⟩ := h; exact ⟨g9, e9, OwnE.below h9 hx⟩) | (obtain ⟨g8, g9, e9, h8, h9, h10⟩ := h; exact ⟨g8, g9, e9, h8.below hx h8.lt, h9, OwnE.below h10 hx⟩))
    | 10 => rw [erg10] at h ⊢; (first | (obtain ⟨g9, e9, h9⟩ := h; exact ⟨g9, e9, OwnE.below h9 hx⟩) | (obtain ⟨g8, g9, e9, h8, h9, h10⟩ := h; exact ⟨g8, g9, e9, h8.below hx h8.lt, h9, OwnE.below h10 hx⟩))
    | 11 => rw [erg11] at h ⊢; (first | (obtain ⟨g9, e9, h9⟩ := h; exact ⟨g9, e9, OwnE.below h9 hx⟩) | (obtain ⟨g8, g9, e9, h8, h9, h10⟩ := h; exact ⟨g8, g9, e9, h8.below hx h8.lt, h9, OwnE.below h10 hx⟩))
    | 12 => rw [erg12] at h ⊢; (first | (obtain ⟨g9, e9, h9⟩ := h; exact ⟨g9, e9, OwnE.below h9 hx⟩) | (obtain ⟨g8, g9, e9, h8, h9, h10⟩ := h; exact ⟨g8, g9, e9, h8.below hx h8.lt, h9, OwnE.below h10 hx⟩))
    | j + 13 => rw [hErg]; trivial
  have crg : Crg (Array.replicate 13 false) w.drew := by rw [hCrg]; exact (Below.refl _ _).drew
  have brg : ∀ L w w1, Crg L w → Below w.heap.size w w1 → Crg L w1 := by
    intro L w w1 h hb
    rw [hCrg] at h ⊢
    exact h.trans (hb.mono h.size)
  have xbrg : ∀ w w1, Below w.heap.size w w1 → Xrg w w1 := by
    intro w w1 hb
    rw [hXrg]
    exact hb
  have Hrgb := Lib.hid brg
  have Hrgxb := Lib.hid xbrg
  clear brg xbrg
  clear hErg
  have Hrgk := Lib.hid krg
  have Hrgx := Lib.hid xrg
  have Hrgst := Lib.hid strg
  have Hrgc := Lib.hid crg
  have HrghC := Lib.hid hCrg
  have HrghX := Lib.hid hXrg
  have Hrge0 := Lib.hid erg0
  have Hrge1 := Lib.hid erg1
  have Hrge2 := Lib.hid erg2
  have Hrge3 := Lib.hid erg3
  have Hrge4 := Lib.hid erg4
  have Hrge5 := Lib.hid erg5
  have Hrge6 := Lib.hid erg6
  have Hrge7 := Lib.hid erg7
  have Hrge8 := Lib.hid erg8
  have Hrge9 := Lib.hid erg9
  have Hrge10 := Lib.hid erg10
  have Hrge11 := Lib.hid erg11
  have Hrge12 := Lib.hid erg12
  clear krg xrg strg crg hCrg hXrg erg0 erg1 erg2 erg3 erg4 erg5 erg6 erg7 erg8 erg9 erg10 erg11 erg12
  go_wp2_with fail
  refine Reg.regionF Erg Crg Xrg Hrgst.out (by kernel_rfl) (by kernel_rfl) (by kernel_rfl) Hrgc.out (fun Frg hFrg => ?_)
  simp only [Reg.frame, Reg.dsts, List.map_cons, List.map_nil, Mix.put_lit, List.set_cons_succ, List.set_cons_zero, Nat.zero_add, Nat.reduceAdd] at hFrg
  refine ⟨?_, ?_⟩
  · refine ⟨?_, ?_, ?_, ?_, ?_, ?_, ?_, ?_, ?_, ?_, ?_, ?_, ?_, trivial⟩
    · intro Lq wq xq hh
      simp only [hFrg]
      refine .inl ⟨rfl, ?_⟩
      unfold Reg.upon
      have hk := Hrgk.out 0 Lq wq  hh.cls
      have hx := Hrgx.out wq
      have he : Erg 0 (.pointer (some ⟨gg, 0, none⟩)) wq := by rw [Hrge0.out]
      have HK := Lib.hid (And.intro hk (And.intro he hx))
      clear hk hx he
      go_simp
      exact HK.out
    · intro Lq wq xq hh
      have d0 : Erg 0 (xq 0) wq := hh.val 0 (by kernel_rfl) (by kernel_rfl)
      rw [Hrge0.out] at d0
      simp only [hFrg, d0]
      clear d0
      refine .inl ⟨rfl, ?_⟩
      unfold Reg.upon
      have hk := Hrgk.out 1 Lq wq  hh.cls
      have hx := Hrgx.out wq
      have he : Erg 1 (.pointer (some ⟨gg, 0, none⟩)) wq := by rw [Hrge1.out]
      have HK := Lib.hid (And.intro hk (And.intro he hx))
      clear hk hx he
      go_simp
      exact HK.out
    · intro Lq wq xq hh
      have d1 : Erg 1 (xq 1) wq := hh.val 1 (by kernel_rfl) (by kernel_rfl)
      rw [Hrge1.out] at d1
      simp only [hFrg, d1]
      clear d1
      refine .inl ⟨rfl, ?_⟩
      unfold Reg.upon
      have hk := Hrgk.out 2 Lq wq  hh.cls
      have hx := Hrgx.out wq
      have he : Erg 2 (.pointer (some ⟨gg, 0, none⟩)) wq := by rw [Hrge2.out]
      have HK := Lib.hid (And.intro hk (And.intro he hx))
      clear hk hx he
      go_simp
      exact HK.out
    · intro Lq wq xq hh
      have d2 : Erg 2 (xq 2) wq := hh.val 2 (by kernel_rfl) (by kernel_rfl)
      rw [Hrge2.out] at d2
      simp only [hFrg, d2]
      clear d2
      refine .inl ⟨rfl, ?_⟩
      unfold Reg.upon
      have hc : Crg Lq wq := hh.cls
      rw [HrghC.out] at hc
      have q3 := (HF.out wq hc).1
      clear hc
      have hk := Hrgk.out 3 Lq wq  hh.cls
      have hx := Hrgx.out wq
      have he : Erg 3 (.int .i64 wd) wq := by rw [Hrge3.out]
      have HK := Lib.hid (And.intro hk (And.intro he hx))
      clear hk hx he
      go_simp
      exact HK.out
    · intro Lq wq xq hh
      simp only [hFrg]
      refine .inl ⟨rfl, ?_⟩
      unfold Reg.upon
      have hk := Hrgk.out 4 Lq wq  hh.cls
      have hx := Hrgx.out wq
      have he : Erg 4 (.pointer (some ⟨gg, 0, none⟩)) wq := by rw [Hrge4.out]
      have HK := Lib.hid (And.intro hk (And.intro he hx))
      clear hk hx he
      go_simp
      exact HK.out
    · intro Lq wq xq hh
      have d4 : Erg 4 (xq 4) wq := hh.val 4 (by kernel_rfl) (by kernel_rfl)
      rw [Hrge4.out] at d4
      simp only [hFrg, d4]
      clear d4
      refine .inl ⟨rfl, ?_⟩
      unfold Reg.upon
      have hk := Hrgk.out 5 Lq wq  hh.cls
      have hx := Hrgx.out wq
      have he : Erg 5 (.pointer (some ⟨gg, 0, none⟩)) wq := by rw [Hrge5.out]
      have HK := Lib.hid (And.intro hk (And.intro he hx))
      clear hk hx he
      go_simp
      exact HK.out
    · intro Lq wq xq hh
      have d5 : Erg 5 (xq 5) wq := hh.val 5 (by kernel_rfl) (by kernel_rfl)
      rw [Hrge5.out] at d5
      simp only [hFrg, d5]
      clear d5
      refine .inl ⟨rfl, ?_⟩
      unfold Reg.upon
      have hk := Hrgk.out 6 Lq wq  hh.cls
      have hx := Hrgx.out wq
      have he : Erg 6 (.pointer (some ⟨gg, 1, none⟩)) wq := by rw [Hrge6.out]
      have HK := Lib.hid (And.intro hk (And.intro he hx))
      clear hk hx he
      go_simp
      exact HK.out
    · intro Lq wq xq hh
      have d6 : Erg 6 (xq 6) wq := hh.val 6 (by kernel_rfl) (by kernel_rfl)
      rw [Hrge6.out] at d6
      simp only [hFrg, d6]
      clear d6
      refine .inl ⟨rfl, ?_⟩
      unfold Reg.upon
      have hc : Crg Lq wq := hh.cls
      rw [HrghC.out] at hc
      have q7 := (HF.out wq hc).2.1
      clear hc
      have hk := Hrgk.out 7 Lq wq  hh.cls
      have hx := Hrgx.out wq
      have he : Erg 7 (.slice (some ⟨gr, 0, none⟩) n cap) wq := by rw [Hrge7.out]
      have HK := Lib.hid (And.intro hk (And.intro he hx))
      clear hk hx he
      go_simp
      exact HK.out
    · intro Lq wq xq hh
      have d7 : Erg 7 (xq 7) wq := hh.val 7 (by kernel_rfl) (by kernel_rfl)
      rw [Hrge7.out] at d7
      simp only [hFrg, d7]
      clear d7
      refine .inl ⟨rfl, ?_⟩
      unfold Reg.upon
      have hk := Hrgk.out 8 Lq wq  hh.cls
      have hx := Hrgx.out wq
      have he : Erg 8 (.int .i64 n) wq := by rw [Hrge8.out]
      have HK := Lib.hid (And.intro hk (And.intro he hx))
      clear hk hx he
      go_simp
      exact HK.out
    · intro Lq wq xq hh
      have d8 : Erg 8 (xq 8) wq := hh.val 8 (by kernel_rfl) (by kernel_rfl)
      rw [Hrge8.out] at d8
      simp only [hFrg, d8]
      clear d8
      refine .inl ⟨rfl, ?_⟩
      unfold Reg.upon
      have hc9 : Crg Lq wq := hh.cls
      rw [HrghC.out] at hc9
      refine upon_make rfl w.heap.size 25 i0 (.pointer none) 1 Tryd.underlying106 HI.out.1 HI.out.2.1 HI.out.2.2.1 .i64 .i64 n rfl rfl (by rw [HI.out.2.2.2]; omega) (by unfold maxLen; omega) hc9.size ?_
      intro w9 r1 r2
      have hb9 : Below wq.heap.size wq w9 := (Below.refl _ _).grown r2 (Nat.le_refl _) (by intro k hk; cases hk)
      refine ⟨Hrgk.out 9 Lq w9 (Hrgb.out Lq wq w9 hh.cls hb9), ?_, Hrgxb.out wq w9 hb9⟩
      rw [Hrge9.out]
      exact ⟨_, rfl, ptrs_made r1⟩
    · intro Lq wq xq hh
      have d3 : Erg 3 (xq 3) wq := hh.val 3 (by kernel_rfl) (by kernel_rfl)
      rw [Hrge3.out] at d3
      have d9 : Erg 9 (xq 9) wq := hh.val 9 (by kernel_rfl) (by kernel_rfl)
      rw [Hrge9.out] at d9
      simp only [hFrg, d3]
      clear d3
      refine .inl ⟨rfl, ?_⟩
      unfold Reg.upon
      obtain ⟨g9, e9, h9⟩ := d9
      rw [e9]
      go_simp
      exact ⟨Hrgk.out 10 Lq wq hh.cls, (by rw [Hrge10.out]; exact ⟨_, rfl, h9⟩), Hrgx.out _⟩
    · intro Lq wq xq hh
      have d10 : Erg 10 (xq 10) wq := hh.val 10 (by kernel_rfl) (by kernel_rfl)
      rw [Hrge10.out] at d10
      simp only [hFrg]
      refine .inl ⟨rfl, ?_⟩
      unfold Reg.upon
      obtain ⟨g9, e9, h9⟩ := d10
      rw [e9]
      have hc11 : Crg Lq wq := hh.cls
      rw [HrghC.out] at hc11
      have hb1 := (Below.refl wq.heap.size wq).alloc (Nat.le_refl _) (.cells #[.int .i64 wd, .slice (some ⟨g9, 0, none⟩) n n] 108)
      have hH := Has.new wq [.int .i64 wd, .slice (some ⟨g9, 0, none⟩) n n] 108
      go_simp
      refine ⟨Hrgk.out 11 Lq _ (Hrgb.out Lq wq _ hh.cls hb1), ?_, Hrgxb.out wq _ hb1⟩
      rw [Hrge11.out]
      exact ⟨_, _, rfl, hH, hc11.size, OwnE.below h9 hb1⟩
    · intro Lq wq xq hh
      have d11 : Erg 11 (xq 11) wq := hh.val 11 (by kernel_rfl) (by kernel_rfl)
      rw [Hrge11.out] at d11
      simp only [hFrg]
      refine .inl ⟨rfl, ?_⟩
      unfold Reg.upon
      go_simp
      exact ⟨Hrgk.out 12 Lq wq hh.cls, (by rw [Hrge12.out]; exact d11), Hrgx.out _⟩
  intro xq wrg hcrg hvrg
  rw [HrghC.out] at hcrg
  simp only [hFrg]
  have vrg12 : Erg 12 (xq 12) wrg := hvrg 12 (by decide)
  rw [Hrge12.out] at vrg12
  clear hvrg hFrg Hrgk Hrgx Hrgst Hrgc HrghC HrghX Hrgb Hrgxb Hrge0 Hrge1 Hrge2 Hrge3 Hrge4 Hrge5 Hrge6 Hrge7 Hrge8 Hrge9 Hrge10 Hrge11 Hrge12
  obtain ⟨g8, g9, e8, hH, hg8, ho9⟩ := vrg12
  rw [e8]
  obtain ⟨w2, hw2⟩ : ∃ w2, w2 = wrg := ⟨_, rfl⟩
  rw [← hw2] at hH ho9 hcrg ⊢
  have HW2 := Lib.hid hcrg
  have HI0 := Lib.hid (show NewInv w w.heap.size g8 g9 wd n Ls 0 w2 from ⟨[], rfl, ⟨fun _ => False, fun b h => h.elim, hH, hg8, ho9, fun h => h, fun b _ h => h, RowsAt.nil _ _ _, fun i hi => absurd hi (Nat.not_lt_zero _)⟩, rfl, hcrg⟩)
  have q1 := (HF.out w2 HW2.out).2.1
  clear hH hg8 ho9 hcrg e8 hw2
  go_upto_region 4 with (fail)
  go_wp2
  clear q1
  go_loopw [25] (fun i wr => ∃ k : Nat, k ≤ n ∧ i = .int .i64 k ∧ NewInv w w.heap.size g8 g9 wd n Ls k wr) (fun i _ => n - (intOf i).toNat)
  case atStart => exact ⟨0, Nat.zero_le _, rfl, HI0.out⟩
  case round =>
    obtain ⟨k, hk, rfl, hinv⟩ := hrel
    have HI1 := Lib.hid hinv
    have hp := hinv
    clear hinv
    obtain ⟨R2, hRl, hp, hRm, hbw⟩ := hp
    by_cases hlt : k < n
    · have HBW := Lib.hid hbw
      obtain ⟨Z, k1, k2, k3, k4, _⟩ := hp
      have hlg : g8 < wr.heap.size ∧ g9 < wr.heap.size := ⟨k2.lt, (k4.lt _ rfl).2⟩
      have HC0 := Lib.hid (show ∀ w9, Below wr.heap.size wr w9 → w9.cell? ⟨g8, 1, none⟩ = some (.slice (some ⟨g9, 0, none⟩) n n) from fun w9 b => (b.cell (p := ⟨g8, 1, none⟩) hlg.1).trans (k2.cell 1 _ rfl))
      have hr := (HG.out.below HBW.out).row (i := k) (by rw [← HN.out]; exact hlt)
      have hll := HG.out.sizes.2.2.2.2 k (by rw [← HN.out]; exact hlt)
      have hln := HLA.out k hlt
      have cr := (HF.out wr HBW.out).2.2 k hlt
      obtain ⟨⟨p, pc, L, wrap⟩, hrr⟩ : ∃ r, r = Rs.getD k r0 := ⟨_, rfl⟩
      rw [← hrr] at hr hll hln cr
      simp only at hr hll hln cr
      have HR := Lib.hid hr
      have HLW := Lib.hid hll
      have HLN := Lib.hid hln
      clear k1 k2 k3 k4 hRl hRm hbw hln hll hr hrr
      go_upto_region 7 with (fail)
      clear cr
      obtain ⟨Ergb, hErgb⟩ : ∃ EE : Nat → Value → World → Prop, EE = fun jj xx ww => match jj with
          | 0 => xx = .pointer (some ⟨g8, 0, none⟩)
          | 1 => xx = .pointer (some ⟨g8, 0, none⟩)
          | 2 => xx = .pointer (some ⟨g8, 1, none⟩)
          | 3 => xx = .slice (some ⟨g9, 0, none⟩) n n
          | 4 => xx = .int .i64 k
          | 5 => xx = .pointer (some ⟨p, 0, none⟩)
          | 6 => (fun x w' => ∃ g7 gc7, x = .pointer (some ⟨g7, 0, none⟩) ∧ RowAt (fun b => wr.heap.size ≤ b) w' wr.heap.size g7 gc7 L wrap) xx ww
          | 7 => xx = .pointer (some ⟨g9, k, none⟩)
          | 8 => xx = undef
          | _ => True := ⟨_, rfl⟩
      have ergb0 : ∀ xx ww, Ergb 0 xx ww = (xx = .pointer (some ⟨g8, 0, none⟩)) := fun xx ww => congrFun (congrFun (congrFun hErgb 0) xx) ww
      have ergb1 : ∀ xx ww, Ergb 1 xx ww = (xx = .pointer (some ⟨g8, 0, none⟩)) := fun xx ww => congrFun (congrFun (congrFun hErgb 1) xx) ww
      have ergb2 : ∀ xx ww, Ergb 2 xx ww = (xx = .pointer (some ⟨g8, 1, none⟩)) := fun xx ww => congrFun (congrFun (congrFun hErgb 2) xx) ww
      have ergb3 : ∀ xx ww, Ergb 3 xx ww = (xx = .slice (some ⟨g9, 0, none⟩) n n) := fun xx ww => congrFun (congrFun (congrFun hErgb 3) xx) ww
      have ergb4 : ∀ xx ww, Ergb 4 xx ww = (xx = .int .i64 k) := fun xx ww => congrFun (congrFun (congrFun hErgb 4) xx) ww
      have ergb5 : ∀ xx ww, Ergb 5 xx ww = (xx = .pointer (some ⟨p, 0, none⟩)) := fun xx ww => congrFun (congrFun (congrFun hErgb 5) xx) ww
      have ergb6 : ∀ xx ww, Ergb 6 xx ww = ((fun x w' => ∃ g7 gc7, x = .pointer (some ⟨g7, 0, none⟩) ∧ RowAt (fun b => wr.heap.size ≤ b) w' wr.heap.size g7 gc7 L wrap) xx ww) := fun xx ww => congrFun (congrFun (congrFun hErgb 6) xx) ww
      have ergb7 : ∀ xx ww, Ergb 7 xx ww = (xx = .pointer (some ⟨g9, k, none⟩)) := fun xx ww => congrFun (congrFun (congrFun hErgb 7) xx) ww
      have ergb8 : ∀ xx ww, Ergb 8 xx ww = (xx = undef) := fun xx ww => congrFun (congrFun (congrFun hErgb 8) xx) ww
      obtain ⟨Crgb, hCrgb⟩ : ∃ CC : Array Bool → World → Prop, CC = fun L8 w' => (Mix.one L8 8 = 0 → Below wr.heap.size wr w') ∧ (Mix.one L8 8 ≠ 0 → NewInv w w.heap.size g8 g9 wd n Ls (k + 1) w') := ⟨_, rfl⟩
      have krgb : ∀ i L w, i ≠ 8 →  Crgb L w → Crgb (L.setIfInBounds i true) w := by
        intro i L w q8 h
        rw [hCrgb] at h ⊢
        simp only [Mix.one_ne q8]; exact h
      obtain ⟨Xrgb, hXrgb⟩ : ∃ XX : World → World → Prop, XX = fun x y => Upd (fun b => b = g9) x y := ⟨_, rfl⟩
      have xrgb : ∀ w, Xrgb w w := fun w => by rw [hXrgb]; exact Upd.refl _ _
      have strgb : ∀ j x w w1, Xrgb w w1 → Ergb j x w → Ergb j x w1 := by
        intro j x w w1 hx h
        rw [hXrgb] at hx
        match j with
        | 0 => rw [ergb0] at h ⊢; exact h
        | 1 => rw [ergb1] at h ⊢; exact h
        | 2 => rw [ergb2] at h ⊢; exact h
        | 3 => rw [ergb3] at h ⊢; exact h
        | 4 => rw [ergb4] at h ⊢; exact h
        | 5 => rw [ergb5] at h ⊢; exact h
        | 6 => rw [ergb6] at h ⊢; ((obtain ⟨g7, gc7, e9, h9⟩ := h; have := h9.lt; exact ⟨g7, gc7, e9, h9.upd hx (fun b hb e => by omega) (fun e => by omega) (fun e => by omega)⟩))
        | 7 => rw [ergb7] at h ⊢; exact h
        | 8 => rw [ergb8] at h ⊢; exact h
        | j + 9 => rw [hErgb]; trivial
      have crgb : Crgb (Array.replicate 9 false) wr.drew := by rw [hCrgb]; exact ⟨fun _ => (Below.refl _ _).drew, fun e => absurd (Mix.one_none _ _) e⟩
      have brgb : ∀ L w w1, Crgb L w → Below w.heap.size w w1 → Crgb L w1 := by
        intro L w w1 h hb
        rw [hCrgb] at h ⊢
        exact ⟨fun e => (h.1 e).trans (hb.mono (h.1 e).size), fun e => by obtain ⟨R9, q1, q2, q3, q4⟩ := h.2 e; exact ⟨R9, q1, q2.below hb, q3, q4.trans (hb.mono q4.size)⟩⟩
      have xbrgb : ∀ w w1, Below w.heap.size w w1 → Xrgb w w1 := by
        intro w w1 hb
        rw [hXrgb]
        exact .ofBelow hb
      have Hrgbb := Lib.hid brgb
      have Hrgbxb := Lib.hid xbrgb
      clear brgb xbrgb
      clear hErgb
      have Hrgbk := Lib.hid krgb
      have Hrgbx := Lib.hid xrgb
      have Hrgbst := Lib.hid strgb
      have Hrgbc := Lib.hid crgb
      have HrgbhC := Lib.hid hCrgb
      have HrgbhX := Lib.hid hXrgb
      have Hrgbe0 := Lib.hid ergb0
      have Hrgbe1 := Lib.hid ergb1
      have Hrgbe2 := Lib.hid ergb2
      have Hrgbe3 := Lib.hid ergb3
      have Hrgbe4 := Lib.hid ergb4
      have Hrgbe5 := Lib.hid ergb5
      have Hrgbe6 := Lib.hid ergb6
      have Hrgbe7 := Lib.hid ergb7
      have Hrgbe8 := Lib.hid ergb8
      clear krgb xrgb strgb crgb hCrgb hXrgb ergb0 ergb1 ergb2 ergb3 ergb4 ergb5 ergb6 ergb7 ergb8
      go_wp2_with fail
      refine Reg.regionF Ergb Crgb Xrgb Hrgbst.out (by kernel_rfl) (by kernel_rfl) (by kernel_rfl) Hrgbc.out (fun Frgb hFrgb => ?_)
      simp only [Reg.frame, Reg.dsts, List.map_cons, List.map_nil, Mix.put_lit, Reg.put_none, List.set_cons_succ, List.set_cons_zero, Nat.zero_add, Nat.reduceAdd] at hFrgb
      refine ⟨?_, ?_⟩
      · refine ⟨?_, ?_, ?_, ?_, ?_, ?_, ?_, ?_, ?_, trivial⟩
        · intro Lq wq xq hh
          simp only [hFrgb]
          refine .inl ⟨rfl, ?_⟩
          unfold Reg.upon
          have hk := Hrgbk.out 0 Lq wq (by decide)  hh.cls
          have hx := Hrgbx.out wq
          have he : Ergb 0 (.pointer (some ⟨g8, 0, none⟩)) wq := by rw [Hrgbe0.out]
          have HK := Lib.hid (And.intro hk (And.intro he hx))
          clear hk hx he
          go_simp
          exact HK.out
        · intro Lq wq xq hh
          have d0 : Ergb 0 (xq 0) wq := hh.val 0 (by kernel_rfl) (by kernel_rfl)
          rw [Hrgbe0.out] at d0
          simp only [hFrgb, d0]
          clear d0
          refine .inl ⟨rfl, ?_⟩
          unfold Reg.upon
          have hk := Hrgbk.out 1 Lq wq (by decide)  hh.cls
          have hx := Hrgbx.out wq
          have he : Ergb 1 (.pointer (some ⟨g8, 0, none⟩)) wq := by rw [Hrgbe1.out]
          have HK := Lib.hid (And.intro hk (And.intro he hx))
          clear hk hx he
          go_simp
          exact HK.out
        · intro Lq wq xq hh
          have d1 : Ergb 1 (xq 1) wq := hh.val 1 (by kernel_rfl) (by kernel_rfl)
          rw [Hrgbe1.out] at d1
          simp only [hFrgb, d1]
          clear d1
          refine .inl ⟨rfl, ?_⟩
          unfold Reg.upon
          have hk := Hrgbk.out 2 Lq wq (by decide)  hh.cls
          have hx := Hrgbx.out wq
          have he : Ergb 2 (.pointer (some ⟨g8, 1, none⟩)) wq := by rw [Hrgbe2.out]
          have HK := Lib.hid (And.intro hk (And.intro he hx))
          clear hk hx he
          go_simp
          exact HK.out
        · intro Lq wq xq hh
          have d2 : Ergb 2 (xq 2) wq := hh.val 2 (by kernel_rfl) (by kernel_rfl)
          rw [Hrgbe2.out] at d2
          simp only [hFrgb, d2]
          clear d2
          refine .inl ⟨rfl, ?_⟩
          unfold Reg.upon
          have hc : Crgb Lq wq := hh.cls
          rw [HrgbhC.out] at hc
          have q3 := HC0.out wq (hc.1 (Mix.one_un (hh.notYet 8 (by kernel_rfl))))
          clear hc
          have hk := Hrgbk.out 3 Lq wq (by decide)  hh.cls
          have hx := Hrgbx.out wq
          have he : Ergb 3 (.slice (some ⟨g9, 0, none⟩) n n) wq := by rw [Hrgbe3.out]
          have HK := Lib.hid (And.intro hk (And.intro he hx))
          clear hk hx he
          go_simp
          exact HK.out
        · intro Lq wq xq hh
          simp only [hFrgb]
          refine .inl ⟨rfl, ?_⟩
          unfold Reg.upon
          have hk := Hrgbk.out 4 Lq wq (by decide)  hh.cls
          have hx := Hrgbx.out wq
          have he : Ergb 4 (.int .i64 k) wq := by rw [Hrgbe4.out]
          have HK := Lib.hid (And.intro hk (And.intro he hx))
          clear hk hx he
          go_simp
          exact HK.out
        · intro Lq wq xq hh
          simp only [hFrgb]
          refine .inl ⟨rfl, ?_⟩
          unfold Reg.upon
          have hk := Hrgbk.out 5 Lq wq (by decide)  hh.cls
          have hx := Hrgbx.out wq
          have he : Ergb 5 (.pointer (some ⟨p, 0, none⟩)) wq := by rw [Hrgbe5.out]
          have HK := Lib.hid (And.intro hk (And.intro he hx))
          clear hk hx he
          go_simp
          exact HK.out
        · intro Lq wq xq hh
          have d5 : Ergb 5 (xq 5) wq := hh.val 5 (by kernel_rfl) (by kernel_rfl)
          rw [Hrgbe5.out] at d5
          simp only [hFrgb, d5]
          clear d5
          refine .inl ⟨rfl, ?_⟩
          unfold Reg.upon
          have hc : Crgb Lq wq := hh.cls
          rw [HrgbhC.out] at hc
          have hc6 := hc.1 (Mix.one_un (hh.notYet 8 (by kernel_rfl)))
          go_simp
          refine (rcopy_any _ B p pc L wrap wq (HR.out.below hc6)).mono ?_
          rintro e w3 ⟨g7, gc7, rfl, h7, hb⟩
          refine ⟨_, rfl, Hrgbk.out 6 Lq w3 (by decide) (Hrgbb.out Lq wq w3 hh.cls hb), ?_, Hrgbxb.out wq w3 hb⟩
          rw [Hrgbe6.out]
          exact ⟨g7, gc7, rfl, (h7.base hc6.size).keep (.refl _ _) (fun b _ hz => Nat.le_trans hc6.size hz)⟩
        · intro Lq wq xq hh
          have d3 : Ergb 3 (xq 3) wq := hh.val 3 (by kernel_rfl) (by kernel_rfl)
          rw [Hrgbe3.out] at d3
          have d4 : Ergb 4 (xq 4) wq := hh.val 4 (by kernel_rfl) (by kernel_rfl)
          rw [Hrgbe4.out] at d4
          simp only [hFrgb, d3, d4]
          clear d3 d4
          refine .inl ⟨rfl, ?_⟩
          unfold Reg.upon
          have hk := Hrgbk.out 7 Lq wq (by decide)  hh.cls
          have hx := Hrgbx.out wq
          have he : Ergb 7 (.pointer (some ⟨g9, k, none⟩)) wq := by rw [Hrgbe7.out]
          have HK := Lib.hid (And.intro hk (And.intro he hx))
          clear hk hx he
          go_simp
          exact HK.out
        · intro Lq wq xq hh
          have d6 : Ergb 6 (xq 6) wq := hh.val 6 (by kernel_rfl) (by kernel_rfl)
          rw [Hrgbe6.out] at d6
          have d7 : Ergb 7 (xq 7) wq := hh.val 7 (by kernel_rfl) (by kernel_rfl)
          rw [Hrgbe7.out] at d7
          simp only [hFrgb, d7]
          clear d7
          refine .inl ⟨rfl, ?_⟩
          unfold Reg.upon
          obtain ⟨g7, gc7, e7, h7⟩ := d6
          have hc8 : Crgb Lq wq := hh.cls
          rw [HrgbhC.out] at hc8
          obtain ⟨hst, hus, ⟨q, hq⟩, hfz⟩ := NewInv.step HI1.out hlt HLL.out HLW.out HLN.out h7 (hc8.1 hh.un)
          rw [exec_store_ptr (b := g9) (off := k) rfl rfl (some g7) e7 q hq hfz (by kernel_rfl)]
          refine ⟨?_, (by rw [Hrgbe8.out]), (by rw [HrgbhX.out]; exact hus)⟩
          rw [HrgbhC.out]
          exact ⟨fun e => (by rw [Mix.one_set (by rw [hh.size]; decide)] at e; cases e), fun _ => hst⟩
      intro xq wrgb hcrgb hvrgb
      rw [HrgbhC.out] at hcrgb
      simp only [hFrgb]
      clear hvrgb hFrgb Hrgbk Hrgbx Hrgbst Hrgbc HrgbhC HrgbhX Hrgbb Hrgbxb Hrgbe0 Hrgbe1 Hrgbe2 Hrgbe3 Hrgbe4 Hrgbe5 Hrgbe6 Hrgbe7 Hrgbe8
      have HMN := Lib.hid (hcrgb.2 (by rw [Mix.one_all (by decide)]; decide))
      clear hcrgb
      go_wp2
      go_roundw
      case rel => exact ⟨k + 1, by omega, by go_num, HMN.out⟩
      case measure => simp [intOf] <;> omega
    · obtain rfl : k = n := by omega
      rw [Nat.sub_self, List.replicate_zero, List.append_nil] at hp
      obtain ⟨gr2, hg2⟩ := hp.full (by have := HSZ.out.1; rw [← HN.out] at this; omega) (by omega)
      rw [List.take_of_length_le (by rw [HLL.out]; exact Nat.le_refl _)] at hRm
      have HFF := Lib.hid (And.intro hg2 (And.intro hRm hbw))
      clear hp hg2 hRm hbw hRl
      go_wp2
      go_ret
      exact ⟨g8, gr2, R2, rfl, HFF.out.1, HFF.out.2.1, HFF.out.2.2⟩
theorem gcopy_nil (w : World) : Calls Tryd.prog 50 #[.pointer none] w fun e w' => e = .returned (.pointer none) ∧ w = w' := by
  go_enter Tryd.func50, Tryd.ntmps50
  go_wp2
  go_ret
  exact ⟨(ret_eq (by first | rfl | (simp <;> omega))), rfl⟩
end Go.Proofs.YtmclmhdlnlcafaaDoor
