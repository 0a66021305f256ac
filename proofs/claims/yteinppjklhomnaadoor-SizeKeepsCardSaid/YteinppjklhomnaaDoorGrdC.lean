/- Grids that are being made; New. -/
import Derived.Test.YteinppjklhomnaaDoorGrdB
namespace Go.Proofs.YteinppjklhomnaaDoor
open Go.RowKit Go.ChangeShapes Go.WideShapes
theorem exec_store_ptr {P : Program} {ρ : Operand → Value} {o : Oper} {w : World} {ty : TypeId} {x y : Operand} {b off : Nat} (ho : o.op = .store ty x y) (hx : ρ x = .pointer (some ⟨b, off, none⟩)) (p : Option Nat) (hy : ρ y = ptrV p) (u : Value) (hc : w.cell? ⟨b, off, none⟩ = some u) (hf : w.frozen? ⟨b, off, none⟩ = false) (hi : (P.info? ty).map (·.size) = some 1) : (execOp ρ o).run P w = .ok .skip (w.setCell ⟨b, off, none⟩ (ptrV p)) := by
  obtain ⟨i, hi1, hi2⟩ := Option.map_eq_some_iff.1 hi
  have hce : 1 = P.cellsOf ty := by unfold Program.cellsOf; rw [hi1]; exact hi2.symm
  unfold execOp
  unfold ptrV at hy ⊢
  simp [ho, hx, hy, go_sem, hc, hf, run_sizeOf, hi1, hi2]
  exact hce
/-- A grid on its way: its rows' slice is v, which holds the pointers Xs; the rows that are there. -/
def PartAt (w : World) (B gg wd : Nat) (v : Value) (Xs : List (Option Nat)) (Rs : List Rw) : Prop :=
  ∃ Z : Zone, (∀ b, Z b → B ≤ b ∧ b < w.heap.size) ∧ Has w gg [.int .i64 wd, v] 102 ∧ B ≤ gg ∧ OwnE ptrE (fun _ => True) w B 86 v Xs ∧ ¬ Z gg ∧ (∀ b, v.ownBlock = some b → ¬ Z b) ∧ RowsAt Z w B Rs ∧ ∀ i, i < Rs.length → (Rs.getD i r0).L.length = wd
section
variable {w w' : World} {B gg wd : Nat} {v : Value} {Xs : List (Option Nat)} {Rs : List Rw}
/-- The pointers' block is of its own type. -/
theorem own_type {Z : Zone} {ty : TypeId} (h : OwnE ptrE Z w B ty v Xs) {b : Nat} (hb : v.ownBlock = some b) : ∃ C, w.heap[b]? = some (.cells C ty (0, 0)) := by
  rcases h.ptrs.2 with ⟨rfl, _⟩ | ⟨g', cap', cur, rfl, _, hg, _⟩
  · cases hb
  · have : g' = b := by simpa [Value.ownBlock] using hb
    subst this
    exact ⟨cur, hg⟩
theorem other_type {b : Nat} {C D : Array Value} {t u : TypeId} (h : w.heap[b]? = some (.cells C t (0, 0))) (k : w.heap[b]? = some (.cells D u (0, 0))) (hn : t ≠ u) : False := by
  rw [h] at k
  simp only [Option.some.injEq, Obj.cells.injEq] at k
  exact hn k.2.1
theorem PartAt.apart (h : PartAt w B gg wd v Xs Rs) {b : Nat} (hb : v.ownBlock = some b) : gg ≠ b ∧ ∀ i, i < Rs.length → (Rs.getD i r0).g ≠ b ∧ (Rs.getD i r0).gc ≠ b := by
  obtain ⟨Z, h1, h2, h3, h4, h5, h6, h7, h8⟩ := h
  obtain ⟨C, hC⟩ := own_type h4 hb
  refine ⟨fun e => by subst e; exact other_type h2 hC (by decide), fun i hi => ?_⟩
  obtain ⟨⟨D, hD⟩, D', hD'⟩ := (h7.row i hi).types
  exact ⟨fun e => by rw [← e] at hC; exact other_type hD hC (by decide), fun e => by rw [← e] at hC; exact other_type hD' hC (by decide)⟩
theorem PartAt.gapart (h : PartAt w B gg wd v Xs Rs) : ∀ i, i < Rs.length → (Rs.getD i r0).g ≠ gg ∧ (Rs.getD i r0).gc ≠ gg := by
  obtain ⟨Z, h1, h2, h3, h4, h5, h6, h7, h8⟩ := h
  intro i hi
  obtain ⟨⟨D, hD⟩, D', hD'⟩ := (h7.row i hi).types
  exact ⟨fun e => by rw [e] at hD; exact other_type hD h2 (by decide), fun e => by rw [e] at hD'; exact other_type hD' h2 (by decide)⟩
theorem PartAt.below (h : PartAt w B gg wd v Xs Rs) (hb : Below w.heap.size w w') : PartAt w' B gg wd v Xs Rs := by
  obtain ⟨Z, h1, h2, h3, h4, h5, h6, h7, h8⟩ := h
  exact ⟨Z, fun b hz => ⟨(h1 b hz).1, Nat.lt_of_lt_of_le (h1 b hz).2 hb.size⟩, h2.below hb h2.lt, h3, h4.below hb, h5, h6, h7.below hb, h8⟩
theorem PartAt.lt (h : PartAt w B gg wd v Xs Rs) : B ≤ gg ∧ gg < w.heap.size ∧ ∀ b, v.ownBlock = some b → B ≤ b ∧ b < w.heap.size := by
  obtain ⟨Z, h1, h2, h3, h4, h5, h6, h7, h8⟩ := h
  exact ⟨h3, h2.lt, h4.lt⟩
theorem PartAt.next (h : PartAt w B gg wd v Xs Rs) {g gc : Nat} {L : List Cl} {wrap : Bool} (hr : RowAt (fun b => w.heap.size ≤ b) w' w.heap.size g gc L wrap) (hl : L.length = wd) (hb : Below w.heap.size w w') : PartAt w' B gg wd v Xs (Rs ++ [⟨g, gc, L, wrap⟩]) := by
  obtain ⟨Z, h1, h2, h3, h4, h5, h6, h7, h8⟩ := h
  have hlt := h2.lt
  refine ⟨_, fun b hz => ?_, h2.below hb h2.lt, h3, h4.below hb, ?_, fun b hbb => ?_, h7.snoc (fun b hz => (h1 b hz).2) (by omega) (Nat.le_refl _) hr hb, fun i hi => ?_⟩
  · rcases hz with hz | hz
    · have := h1 b hz; have := hb.size; omega
    · omega
  · rintro (hz | hz)
    · exact h5 hz
    · omega
  · have := h4.lt b hbb
    rintro (hz | hz)
    · exact h6 b hbb hz
    · omega
  · rw [getD_app]
    rw [List.length_append, List.length_singleton] at hi
    by_cases e : i < Rs.length
    · rw [if_pos e]; exact h8 i e
    · rw [if_neg e, show i - Rs.length = 0 by omega]
      exact hl
theorem PartAt.put {gr n cap : Nat} (h : PartAt w B gg wd (.slice (some ⟨gr, 0, none⟩) n cap) Xs Rs) (k : Nat) (hk : k < Xs.length) (x : Option Nat) : PartAt (w.setCell ⟨gr, k, none⟩ (ptrV x)) B gg wd (.slice (some ⟨gr, 0, none⟩) n cap) (Xs.set k x) Rs ∧ Upd (fun b => b = gr) w (w.setCell ⟨gr, k, none⟩ (ptrV x)) := by
  have hu := (Upd.refl (fun b => b = gr) w).setCell (p := ⟨gr, k, none⟩) (.inl rfl) (ptrV x)
  have ha := h.apart (b := gr) rfl
  obtain ⟨Z, h1, h2, h3, h4, h5, h6, h7, h8⟩ := h
  refine ⟨⟨Z, fun b hz => ⟨(h1 b hz).1, Nat.lt_of_lt_of_le (h1 b hz).2 hu.size⟩, hu.keep.has h2 ha.1, h3, ptr_put h4 k hk x, h5, h6, h7.upd hu (fun b hz e => h6 gr rfl (e ▸ hz)) ha.2, h8⟩, hu⟩
theorem PartAt.full (h : PartAt w B gg wd v (ptrs Rs) Rs) (h0 : 0 < Rs.length) (h1 : Rs.length ≤ 1024) : ∃ gr, GridAt w B gg gr wd Rs := by
  obtain ⟨Z, k1, k2, k3, k4, k5, k6, k7, k8⟩ := h
  obtain ⟨gr, cap, rfl, hg1, hg2⟩ := k4.some (by rw [ptrs_len]; exact h0)
  rw [ptrs_len] at k2 k4 k6
  exact ⟨gr, Z, cap, k1, k2, k3, k4, k5, k6 gr rfl, k7, k8, h0, h1⟩
end
def GridMade (w : World) (wd : Nat) (Ls : List Ln) (e : Ending) (w' : World) : Prop := ∃ gg gr Rs, e = .returned (.pointer (some ⟨gg, 0, none⟩)) ∧ GridAt w' w.heap.size gg gr wd Rs ∧ Rs.map lineOf = Ls ∧ Below w.heap.size w w'
def NewInv (w : World) (B gg gr W N : Nat) (Ls : List Ln) (k : Nat) (wr : World) : Prop := ∃ Rs : List Rw, Rs.length = k ∧ PartAt wr B gg W (.slice (some ⟨gr, 0, none⟩) N N) (ptrs Rs ++ List.replicate (N - k) none) Rs ∧ Rs.map lineOf = Ls.take k ∧ Below B w wr
theorem NewInv.step {w wr ws : World} {B gg gr W N : Nat} {Ls : List Ln} {k : Nat} (h : NewInv w B gg gr W N Ls k wr) (hk : k < N) (hls : Ls.length = N) {g gc : Nat} {L : List Cl} {wrap : Bool} (hl : L.length = W) (hln : Ls.getD k zl = (L, wrap)) (hr : RowAt (fun b => wr.heap.size ≤ b) ws wr.heap.size g gc L wrap) (hb : Below wr.heap.size wr ws) : NewInv w B gg gr W N Ls (k + 1) (ws.setCell ⟨gr, k, none⟩ (ptrV (some g))) ∧ Upd (fun b => b = gr) ws (ws.setCell ⟨gr, k, none⟩ (ptrV (some g))) ∧ (∃ u, ws.cell? ⟨gr, k, none⟩ = some u) ∧ ws.frozen? ⟨gr, k, none⟩ = false := by
  obtain ⟨Rs, hn, hp, hm, hbw⟩ := h
  have hBg := hp.lt
  have hp2 := hp.next hr hl hb
  have hxl : k < (ptrs Rs ++ List.replicate (N - k) none).length := by rw [List.length_append, ptrs_len, List.length_replicate]; omega
  obtain ⟨h3, hu⟩ := hp2.put k hxl (some g)
  have hpc : OwnE ptrE (fun _ => True) ws B 86 (.slice (some ⟨gr, 0, none⟩) N N) (ptrs Rs ++ List.replicate (N - k) none) := by
    obtain ⟨Z, k1, k2, k3, k4, _⟩ := hp2
    exact k4
  have hcc := ptr_cell hpc k hxl
  refine ⟨⟨Rs ++ [⟨g, gc, L, wrap⟩], by simp [hn], ?_, ?_, ?_⟩, hu, ⟨_, hcc.1⟩, hcc.2⟩
  · have e : (ptrs Rs ++ List.replicate (N - k) none).set k (some g) = ptrs (Rs ++ [⟨g, gc, L, wrap⟩]) ++ List.replicate (N - (k + 1)) none := by
      rw [List.set_append_right _ _ (by rw [ptrs_len]; omega), ptrs_len, hn, Nat.sub_self, show N - k = (N - (k + 1)) + 1 by omega, List.replicate_succ]
      simp [ptrs]
    rw [← e]
    exact h3
  · rw [List.map_append, hm, List.take_succ_eq_append_getElem (by omega)]
    have : Ls[k]'(by omega) = (L, wrap) := by rw [← hln]; simp [List.getD, List.getElem?_eq_getElem (show k < Ls.length by omega)]
    rw [this]
    rfl
  · have hgl := hBg.2.2 gr rfl
    have hbb := hbw.trans (hb.mono (show B ≤ wr.heap.size by omega))
    exact hbb.upd hu (by have := hb.size; omega) (fun x e => by omega)
set_option maxRecDepth 100000 in
set_option maxHeartbeats 3000000 in
theorem gnew_any (a b : Int) (w : World) : Calls Tryd.prog 45 #[.int .i64 a, .int .i64 b] w (GridMade w (rowN a) (List.replicate (rowN b) (List.replicate (rowN a) zc, false))) := by
  have HA := Lib.hid (gside_any a w)
  have HBB := Lib.hid (gside_any b w)
  have hN : 0 < rowN b ∧ rowN b ≤ 1024 := by unfold rowN; omega
  have hW : 0 < rowN a ∧ rowN a ≤ 1024 := by unfold rowN; omega
  have hWW : rowN (rowN a : Int) = rowN a := by unfold rowN; omega
  obtain ⟨i0, hi, hz0, hz1, hz2⟩ := info_parts info_rowp
  obtain ⟨N, hNe⟩ : ∃ N, N = rowN b := ⟨_, rfl⟩
  obtain ⟨W, hWe⟩ : ∃ W, W = rowN a := ⟨_, rfl⟩
  rw [← hNe] at HBB hN ⊢
  rw [← hWe] at HA hW hWW ⊢
  have HWW := Lib.hid hWW
  clear hNe hWe hWW
  obtain ⟨Ls, hLs⟩ : ∃ Ls, Ls = List.replicate N (List.replicate W zc, false) := ⟨_, rfl⟩
  rw [← hLs]
  have HLL := Lib.hid (show Ls.length = N by rw [hLs]; simp)
  have HLA := Lib.hid (show ∀ k, k < N → Ls.getD k zl = (List.replicate W zc, false) from fun k hk => by rw [hLs]; simp [List.getD, List.getElem?_replicate, hk])
  clear hLs
  go_enter Tryd.func45, Tryd.ntmps45
  go_wp2_with fail
  refine HA.out.mono ?_
  rintro e w1 ⟨rfl, rfl⟩
  go_wp2_with fail
  refine HBB.out.mono ?_
  rintro e w1 ⟨rfl, rfl⟩
  go_wp2_with (at_make; refine wpList_make_full w rfl (.tmp 10) (.tmp 10) 100 rfl w.heap.size 86 i0 (.pointer none) 1 Tryd.underlying100 hi hz0 hz1 .i64 .i64 _ _ N rfl rfl rfl rfl (by rw [hz2]; omega) (by unfold maxLen; omega) (Nat.le_refl _) ?_)
  intro w1 hown1 hg1
  have hb1 : Below w.heap.size w w1 := (Below.refl _ _).grown hg1 (Nat.le_refl _) (by intro k hk; cases hk)
  have ho1 : OwnE ptrE (fun _ => True) w1 w.heap.size 86 (.slice (some ⟨w.heap.size, 0, none⟩) N N) (List.replicate N none) := own_ptrs (by
    have e := made_flat [Value.pointer none] (by decide) N
    have e2 : (List.replicate N [Value.pointer none]).flatten = (List.replicate N (none : Option Nat)).map ptrV := by rw [← ptr_flat, List.map_replicate]; rfl
    rw [← e2, ← e]
    simpa using hown1)
  have hb2 : Below w1.heap.size w1 (w1.alloc (.cells #[.int .i64 W, .slice (some ⟨w.heap.size, 0, none⟩) N N] 102)) := (Below.refl _ _).alloc (Nat.le_refl _) _
  have hh2 := Has.new w1 [.int .i64 W, .slice (some ⟨w.heap.size, 0, none⟩) N N] 102
  have hi0 : NewInv w w.heap.size w1.heap.size w.heap.size W N Ls 0 (w1.alloc (.cells #[.int .i64 W, .slice (some ⟨w.heap.size, 0, none⟩) N N] 102)) := ⟨[], rfl, ⟨fun _ => False, fun b h => h.elim, hh2, hb1.size, ho1.below hb2, fun h => h, fun b _ h => h, RowsAt.nil _ _ _, fun i hi => absurd hi (Nat.not_lt_zero _)⟩, rfl, hb1.trans (hb2.mono hb1.size)⟩
  have hgg : w.heap.size < w1.heap.size := (ho1.lt _ rfl).2
  obtain ⟨gr, hgr⟩ : ∃ gr, gr = w.heap.size := ⟨_, rfl⟩
  obtain ⟨gg, hge⟩ : ∃ gg, gg = w1.heap.size := ⟨_, rfl⟩
  have HI0 := Lib.hid hi0
  have d1 := hh2.cell 1 _ rfl
  rw [← hge] at d1 hgg
  have HGG := Lib.hid hge
  have HGR := Lib.hid hgr
  obtain ⟨w2, hw2⟩ : ∃ w2, w2 = w1.alloc (.cells #[.int .i64 W, .slice (some ⟨w.heap.size, 0, none⟩) N N] 102) := ⟨_, rfl⟩
  rw [← hw2] at HI0 d1
  have HW2 := Lib.hid hw2
  clear hown1 hg1 hb1 ho1 hb2 hh2 hi0 hi hz0 hz1 hz2 HA HBB hgr hge hw2
  go_upto_region 2 with fail
  rw [← HGG.out, ← HW2.out]
  rw [← HGG.out] at HI0
  go_wp2
  clear d1
  go_loopw [19] (fun i wr => ∃ k : Nat, k ≤ N ∧ i = .int .i64 k ∧ NewInv w w.heap.size gg w.heap.size W N Ls k wr) (fun i _ => N - (intOf i).toNat)
  case atStart => exact ⟨0, Nat.zero_le _, rfl, HI0.out⟩
  case round =>
    obtain ⟨k, hk, rfl, hinv⟩ := hrel
    have HI := Lib.hid hinv
    have hp := hinv
    clear hinv
    obtain ⟨Rs, hRl, hp, hRm, hbw⟩ := hp
    by_cases hlt : k < N
    · obtain ⟨Z, k1, k2, k3, k4, _⟩ := hp
      have hlg : gg < wr.heap.size ∧ w.heap.size < wr.heap.size := ⟨k2.lt, (k4.lt _ rfl).2⟩
      have HC0 := Lib.hid (show ∀ w9, Below wr.heap.size wr w9 → w9.cell? ⟨gg, 0, none⟩ = some (.int .i64 W) ∧ w9.cell? ⟨gg, 1, none⟩ = some (.slice (some ⟨w.heap.size, 0, none⟩) N N) from fun w9 b => ⟨(b.cell (p := ⟨gg, 0, none⟩) hlg.1).trans (k2.cell 0 _ rfl), (b.cell (p := ⟨gg, 1, none⟩) hlg.1).trans (k2.cell 1 _ rfl)⟩)
      have hln := HLA.out k hlt
      have HLN := Lib.hid hln
      clear k1 k2 k3 k4 hRl hRm hbw hln
      obtain ⟨gr', hgr'⟩ : ∃ x, x = w.heap.size := ⟨_, rfl⟩
      rw [← hgr'] at hlg HC0 HI ⊢
      have HGX := Lib.hid hgr'
      clear hgr'
      go_wp2
      obtain ⟨Erg, hErg⟩ : ∃ EE : Nat → Value → World → Prop, EE = fun jj xx ww => match jj with
          | 0 => xx = .pointer (some ⟨gg, 0, none⟩)
          | 1 => xx = .pointer (some ⟨gg, 0, none⟩)
          | 2 => xx = .pointer (some ⟨gg, 1, none⟩)
          | 3 => xx = .slice (some ⟨gr', 0, none⟩) N N
          | 4 => xx = .int .i64 k
          | 5 => xx = .pointer (some ⟨gg, 0, none⟩)
          | 6 => xx = .pointer (some ⟨gg, 0, none⟩)
          | 7 => xx = .pointer (some ⟨gg, 0, none⟩)
          | 8 => xx = .int .i64 W
          | 9 => (fun x w' => ∃ g9 gc9, x = .pointer (some ⟨g9, 0, none⟩) ∧ RowAt (fun b => wr.heap.size ≤ b) w' wr.heap.size g9 gc9 (List.replicate W zc) false) xx ww
          | 10 => xx = .pointer (some ⟨gr', k, none⟩)
          | 11 => xx = undef
          | _ => True := ⟨_, rfl⟩
      have erg0 : ∀ xx ww, Erg 0 xx ww = (xx = .pointer (some ⟨gg, 0, none⟩)) := fun xx ww => congrFun (congrFun (congrFun hErg 0) xx) ww
      have erg1 : ∀ xx ww, Erg 1 xx ww = (xx = .pointer (some ⟨gg, 0, none⟩)) := fun xx ww => congrFun (congrFun (congrFun hErg 1) xx) ww
      have erg2 : ∀ xx ww, Erg 2 xx ww = (xx = .pointer (some ⟨gg, 1, none⟩)) := fun xx ww => congrFun (congrFun (congrFun hErg 2) xx) ww
      have erg3 : ∀ xx ww, Erg 3 xx ww = (xx = .slice (some ⟨gr', 0, none⟩) N N) := fun xx ww => congrFun (congrFun (congrFun hErg 3) xx) ww
      have erg4 : ∀ xx ww, Erg 4 xx ww = (xx = .int .i64 k) := fun xx ww => congrFun (congrFun (congrFun hErg 4) xx) ww
      have erg5 : ∀ xx ww, Erg 5 xx ww = (xx = .pointer (some ⟨gg, 0, none⟩)) := fun xx ww => congrFun (congrFun (congrFun hErg 5) xx) ww
      have erg6 : ∀ xx ww, Erg 6 xx ww = (xx = .pointer (some ⟨gg, 0, none⟩)) := fun xx ww => congrFun (congrFun (congrFun hErg 6) xx) ww
      have erg7 : ∀ xx ww, Erg 7 xx ww = (xx = .pointer (some ⟨gg, 0, none⟩)) := fun xx ww => congrFun (congrFun (congrFun hErg 7) xx) ww
      have erg8 : ∀ xx ww, Erg 8 xx ww = (xx = .int .i64 W) := fun xx ww => congrFun (congrFun (congrFun hErg 8) xx) ww
      have erg9 : ∀ xx ww, Erg 9 xx ww = ((fun x w' => ∃ g9 gc9, x = .pointer (some ⟨g9, 0, none⟩) ∧ RowAt (fun b => wr.heap.size ≤ b) w' wr.heap.size g9 gc9 (List.replicate W zc) false) xx ww) := fun xx ww => congrFun (congrFun (congrFun hErg 9) xx) ww
      have erg10 : ∀ xx ww, Erg 10 xx ww = (xx = .pointer (some ⟨gr', k, none⟩)) := fun xx ww => congrFun (congrFun (congrFun hErg 10) xx) ww
      have erg11 : ∀ xx ww, Erg 11 xx ww = (xx = undef) := fun xx ww => congrFun (congrFun (congrFun hErg 11) xx) ww
      obtain ⟨Crg, hCrg⟩ : ∃ CC : Array Bool → World → Prop, CC = fun L8 w' => (Mix.one L8 11 = 0 → Below wr.heap.size wr w') ∧ (Mix.one L8 11 ≠ 0 → NewInv w gr' gg gr' W N Ls (k + 1) w') := ⟨_, rfl⟩
      have krg : ∀ i L w, i ≠ 11 →  Crg L w → Crg (L.setIfInBounds i true) w := by
        intro i L w q11 h
        rw [hCrg] at h ⊢
        simp only [Mix.one_ne q11]; exact h
      obtain ⟨Xrg, hXrg⟩ : ∃ XX : World → World → Prop, XX = fun x y => Upd (fun b => b = gr') x y := ⟨_, rfl⟩
      have xrg : ∀ w, Xrg w w := fun w => by rw [hXrg]; exact Upd.refl _ _
      have strg : ∀ j x w w1, Xrg w w1 → Erg j x w → Erg j x w1 := by
        intro j x w w1 hx h
        rw [hXrg] at hx
        match j with
        | 0 => rw [erg0] at h ⊢; exact h
        | 1 => rw [erg1] at h ⊢; exact h
        | 2 => rw [erg2] at h ⊢; exact h
        | 3 => rw [erg3] at h ⊢; exact h
        | 4 => rw [erg4] at h ⊢; exact h
        | 5 => rw [erg5] at h ⊢; exact h
        | 6 => rw [erg6] at h ⊢; exact h
        | 7 => rw [erg7] at h ⊢; exact h
        | 8 => rw [erg8] at h ⊢; exact h
        | 9 => rw [erg9] at h ⊢; ((obtain ⟨g9, gc9, e9, h9⟩ := h; have := h9.lt; exact ⟨g9, gc9, e9, h9.upd hx (fun b hb e => by omega) (fun e => by omega) (fun e => by omega)⟩))
        | 10 => rw [erg10] at h ⊢; exact h
        | 11 => rw [erg11] at h ⊢; exact h
        | j + 12 => rw [hErg]; trivial
      have crg : Crg (Array.replicate 12 false) wr.drew := by rw [hCrg]; exact ⟨fun _ => (Below.refl _ _).drew, fun e => absurd (Mix.one_none _ _) e⟩
      have brg : ∀ L w w1, Crg L w → Below w.heap.size w w1 → Crg L w1 := by
        intro L w w1 h hb
        rw [hCrg] at h ⊢
        exact ⟨fun e => (h.1 e).trans (hb.mono (h.1 e).size), fun e => by obtain ⟨R9, q1, q2, q3, q4⟩ := h.2 e; exact ⟨R9, q1, q2.below hb, q3, q4.trans (hb.mono (by have := q2.lt; omega))⟩⟩
      have xbrg : ∀ w w1, Below w.heap.size w w1 → Xrg w w1 := by
        intro w w1 hb
        rw [hXrg]
        exact .ofBelow hb
      have Hrgb := Lib.hid brg
      have Hrgxb := Lib.hid xbrg
      clear brg xbrg
      clear hErg
      have Hrgk := Lib.hid krg
      have Hrgx := Lib.hid xrg
      have Hrgst := Lib.hid strg
      have Hrgc := Lib.hid crg
      have HrghC := Lib.hid hCrg
      have HrghX := Lib.hid hXrg
      have Hrge0 := Lib.hid erg0
      have Hrge1 := Lib.hid erg1
      have Hrge2 := Lib.hid erg2
      have Hrge3 := Lib.hid erg3
      have Hrge4 := Lib.hid erg4
      have Hrge5 := Lib.hid erg5
      have Hrge6 := Lib.hid erg6
      have Hrge7 := Lib.hid erg7
      have Hrge8 := Lib.hid erg8
      have Hrge9 := Lib.hid erg9
      have Hrge10 := Lib.hid erg10
      have Hrge11 := Lib.hid erg11
      clear krg xrg strg crg hCrg hXrg erg0 erg1 erg2 erg3 erg4 erg5 erg6 erg7 erg8 erg9 erg10 erg11
      go_wp2_with fail
      refine Reg.regionF Erg Crg Xrg Hrgst.out (by kernel_rfl) (by kernel_rfl) (by kernel_rfl) Hrgc.out (fun Frg hFrg => ?_)
      simp only [Reg.frame, Reg.dsts, List.map_cons, List.map_nil, Mix.put_lit, Reg.put_none, List.set_cons_succ, List.set_cons_zero, Nat.zero_add, Nat.reduceAdd] at hFrg
      refine ⟨?_, ?_⟩
      · refine ⟨?_, ?_, ?_, ?_, ?_, ?_, ?_, ?_, ?_, ?_, ?_, ?_, trivial⟩
        · intro Lq wq xq hh
          simp only [hFrg]
          refine .inl ⟨rfl, ?_⟩
          unfold Reg.upon
          have hk := Hrgk.out 0 Lq wq (by decide)  hh.cls
          have hx := Hrgx.out wq
          have he : Erg 0 (.pointer (some ⟨gg, 0, none⟩)) wq := by rw [Hrge0.out]
          have HK := Lib.hid (And.intro hk (And.intro he hx))
          clear hk hx he
          go_simp
          exact HK.out
        · intro Lq wq xq hh
          have d0 : Erg 0 (xq 0) wq := hh.val 0 (by kernel_rfl) (by kernel_rfl)
          rw [Hrge0.out] at d0
          simp only [hFrg, d0]
          clear d0
          refine .inl ⟨rfl, ?_⟩
          unfold Reg.upon
          have hk := Hrgk.out 1 Lq wq (by decide)  hh.cls
          have hx := Hrgx.out wq
          have he : Erg 1 (.pointer (some ⟨gg, 0, none⟩)) wq := by rw [Hrge1.out]
          have HK := Lib.hid (And.intro hk (And.intro he hx))
          clear hk hx he
          go_simp
          exact HK.out
        · intro Lq wq xq hh
          have d1 : Erg 1 (xq 1) wq := hh.val 1 (by kernel_rfl) (by kernel_rfl)
          rw [Hrge1.out] at d1
          simp only [hFrg, d1]
          clear d1
          refine .inl ⟨rfl, ?_⟩
          unfold Reg.upon
          have hk := Hrgk.out 2 Lq wq (by decide)  hh.cls
          have hx := Hrgx.out wq
          have he : Erg 2 (.pointer (some ⟨gg, 1, none⟩)) wq := by rw [Hrge2.out]
          have HK := Lib.hid (And.intro hk (And.intro he hx))
          clear hk hx he
          go_simp
          exact HK.out
        · intro Lq wq xq hh
          have d2 : Erg 2 (xq 2) wq := hh.val 2 (by kernel_rfl) (by kernel_rfl)
          rw [Hrge2.out] at d2
          simp only [hFrg, d2]
          clear d2
          refine .inl ⟨rfl, ?_⟩
          unfold Reg.upon
          have hc : Crg Lq wq := hh.cls
          rw [HrghC.out] at hc
          have q3 := (HC0.out wq (hc.1 (Mix.one_un (hh.notYet 11 (by kernel_rfl))))).2
          clear hc
          have hk := Hrgk.out 3 Lq wq (by decide)  hh.cls
          have hx := Hrgx.out wq
          have he : Erg 3 (.slice (some ⟨gr', 0, none⟩) N N) wq := by rw [Hrge3.out]
          have HK := Lib.hid (And.intro hk (And.intro he hx))
          clear hk hx he
          go_simp
          exact HK.out
        · intro Lq wq xq hh
          simp only [hFrg]
          refine .inl ⟨rfl, ?_⟩
          unfold Reg.upon
          have hk := Hrgk.out 4 Lq wq (by decide)  hh.cls
          have hx := Hrgx.out wq
          have he : Erg 4 (.int .i64 k) wq := by rw [Hrge4.out]
          have HK := Lib.hid (And.intro hk (And.intro he hx))
          clear hk hx he
          go_simp
          exact HK.out
        · intro Lq wq xq hh
          simp only [hFrg]
          refine .inl ⟨rfl, ?_⟩
          unfold Reg.upon
          have hk := Hrgk.out 5 Lq wq (by decide)  hh.cls
          have hx := Hrgx.out wq
          have he : Erg 5 (.pointer (some ⟨gg, 0, none⟩)) wq := by rw [Hrge5.out]
          have HK := Lib.hid (And.intro hk (And.intro he hx))
          clear hk hx he
          go_simp
          exact HK.out
        · intro Lq wq xq hh
          have d5 : Erg 5 (xq 5) wq := hh.val 5 (by kernel_rfl) (by kernel_rfl)
          rw [Hrge5.out] at d5
          simp only [hFrg, d5]
          clear d5
          refine .inl ⟨rfl, ?_⟩
          unfold Reg.upon
          have hk := Hrgk.out 6 Lq wq (by decide)  hh.cls
          have hx := Hrgx.out wq
          have he : Erg 6 (.pointer (some ⟨gg, 0, none⟩)) wq := by rw [Hrge6.out]
          have HK := Lib.hid (And.intro hk (And.intro he hx))
          clear hk hx he
          go_simp
          exact HK.out
        · intro Lq wq xq hh
          have d6 : Erg 6 (xq 6) wq := hh.val 6 (by kernel_rfl) (by kernel_rfl)
          rw [Hrge6.out] at d6
          simp only [hFrg, d6]
          clear d6
          refine .inl ⟨rfl, ?_⟩
          unfold Reg.upon
          have hk := Hrgk.out 7 Lq wq (by decide)  hh.cls
          have hx := Hrgx.out wq
          have he : Erg 7 (.pointer (some ⟨gg, 0, none⟩)) wq := by rw [Hrge7.out]
          have HK := Lib.hid (And.intro hk (And.intro he hx))
          clear hk hx he
          go_simp
          exact HK.out
        · intro Lq wq xq hh
          have d7 : Erg 7 (xq 7) wq := hh.val 7 (by kernel_rfl) (by kernel_rfl)
          rw [Hrge7.out] at d7
          simp only [hFrg, d7]
          clear d7
          refine .inl ⟨rfl, ?_⟩
          unfold Reg.upon
          have hc : Crg Lq wq := hh.cls
          rw [HrghC.out] at hc
          have q8 := (HC0.out wq (hc.1 (Mix.one_un (hh.notYet 11 (by kernel_rfl))))).1
          clear hc
          have hk := Hrgk.out 8 Lq wq (by decide)  hh.cls
          have hx := Hrgx.out wq
          have he : Erg 8 (.int .i64 W) wq := by rw [Hrge8.out]
          have HK := Lib.hid (And.intro hk (And.intro he hx))
          clear hk hx he
          go_simp
          exact HK.out
        · intro Lq wq xq hh
          have d8 : Erg 8 (xq 8) wq := hh.val 8 (by kernel_rfl) (by kernel_rfl)
          rw [Hrge8.out] at d8
          simp only [hFrg, d8]
          clear d8
          refine .inl ⟨rfl, ?_⟩
          unfold Reg.upon
          have hc : Crg Lq wq := hh.cls
          rw [HrghC.out] at hc
          have hc9 := hc.1 (Mix.one_un (hh.notYet 11 (by kernel_rfl)))
          go_simp
          refine (rnew_any (fun b => wr.heap.size ≤ b) (W : Int) wq).mono ?_
          rintro e w2 ⟨g9, gc9, rfl, h9, hb⟩
          rw [HWW.out] at h9
          refine ⟨_, rfl, Hrgk.out 9 Lq w2 (by decide) (Hrgb.out Lq wq w2 hh.cls hb), ?_, Hrgxb.out wq w2 hb⟩
          rw [Hrge9.out]
          exact ⟨g9, gc9, rfl, h9.base hc9.size⟩
        · intro Lq wq xq hh
          have d3 : Erg 3 (xq 3) wq := hh.val 3 (by kernel_rfl) (by kernel_rfl)
          rw [Hrge3.out] at d3
          have d4 : Erg 4 (xq 4) wq := hh.val 4 (by kernel_rfl) (by kernel_rfl)
          rw [Hrge4.out] at d4
          simp only [hFrg, d3, d4]
          clear d3 d4
          refine .inl ⟨rfl, ?_⟩
          unfold Reg.upon
          have hk := Hrgk.out 10 Lq wq (by decide)  hh.cls
          have hx := Hrgx.out wq
          have he : Erg 10 (.pointer (some ⟨gr', k, none⟩)) wq := by rw [Hrge10.out]
          have HK := Lib.hid (And.intro hk (And.intro he hx))
          clear hk hx he
          go_simp
          exact HK.out
        · intro Lq wq xq hh
          have d9 : Erg 9 (xq 9) wq := hh.val 9 (by kernel_rfl) (by kernel_rfl)
          rw [Hrge9.out] at d9
          have d10 : Erg 10 (xq 10) wq := hh.val 10 (by kernel_rfl) (by kernel_rfl)
          rw [Hrge10.out] at d10
          simp only [hFrg, d10]
          clear d10
          refine .inl ⟨rfl, ?_⟩
          unfold Reg.upon
          obtain ⟨g9, gc9, e9, h9⟩ := d9
          have hc11 : Crg Lq wq := hh.cls
          rw [HrghC.out] at hc11
          obtain ⟨hst, hus, ⟨q, hq⟩, hfz⟩ := NewInv.step HI.out hlt HLL.out (by simp) HLN.out h9 (hc11.1 hh.un)
          rw [exec_store_ptr (b := gr') (off := k) rfl rfl (some g9) e9 q hq hfz (by kernel_rfl)]
          refine ⟨?_, (by rw [Hrge11.out]), (by rw [HrghX.out]; exact hus)⟩
          rw [HrghC.out]
          exact ⟨fun e => (by rw [Mix.one_set (by rw [hh.size]; decide)] at e; cases e), fun _ => hst⟩
      intro xq wrg hcrg hvrg
      rw [HrghC.out] at hcrg
      simp only [hFrg]
      clear hvrg hFrg Hrgk Hrgx Hrgst Hrgc HrghC HrghX Hrgb Hrgxb Hrge0 Hrge1 Hrge2 Hrge3 Hrge4 Hrge5 Hrge6 Hrge7 Hrge8 Hrge9 Hrge10 Hrge11
      have HMN := Lib.hid (hcrg.2 (by rw [Mix.one_all (by decide)]; decide))
      clear hcrg
      go_wp2
      go_roundw
      case rel => exact ⟨k + 1, by omega, by go_num, HMN.out⟩
      case measure => simp [intOf] <;> omega
    · obtain rfl : k = N := by omega
      rw [Nat.sub_self, List.replicate_zero, List.append_nil] at hp
      obtain ⟨gr2, hg2⟩ := hp.full (by omega) (by omega)
      rw [List.take_of_length_le (by rw [HLL.out]; exact Nat.le_refl _)] at hRm
      have HF := Lib.hid (And.intro hg2 (And.intro hRm hbw))
      clear hp hg2 hRm hbw hRl
      go_wp2
      go_ret
      exact ⟨gg, gr2, Rs, rfl, HF.out.1, HF.out.2.1, HF.out.2.2⟩
end Go.Proofs.YteinppjklhomnaaDoor
