/- Grids: Lines, New. -/
import Derived.Test.YteinppjklhomnaaDoorMg4
import Derived.Test.YteinppjklhomnaaDoorRowP
import Derived.Test.YteinppjklhomnaaDoorMg1
namespace Go.Proofs.YteinppjklhomnaaDoor
open Go.RowKit Go.ChangeShapes Go.WideShapes
/-- A list that is filled from the front on. -/
def fillL {α : Type} (f : Nat → α) (z : α) (n k : Nat) : List α := (List.range n).map fun i => if i < k then f i else z
theorem fill_len {α : Type} (f : Nat → α) (z : α) (n k : Nat) : (fillL f z n k).length = n := by simp [fillL]
theorem fill_zero {α : Type} (f : Nat → α) (z : α) (n : Nat) : fillL f z n 0 = List.replicate n z := by
  apply List.ext_getElem?
  intro i
  by_cases h : i < n
  · simp [fillL, List.getElem?_replicate, h]
  · rw [List.getElem?_eq_none (by rw [fill_len]; omega), List.getElem?_eq_none (by simp; omega)]
theorem fill_set {α : Type} (f : Nat → α) (z : α) (n k : Nat) (h : k < n) : (fillL f z n k).set k (f k) = fillL f z n (k + 1) := by
  apply List.ext_getElem?
  intro i
  by_cases hi : i < n
  · by_cases e : i = k
    · subst e
      rw [List.getElem?_set_self (by rw [fill_len]; exact hi)]
      simp [fillL, hi]
    · rw [List.getElem?_set_ne (Ne.symm e)]
      simp [fillL, hi]
      by_cases h2 : i < k
      · rw [if_pos h2, if_pos (by omega)]
      · rw [if_neg h2, if_neg (by omega)]
  · rw [List.getElem?_eq_none (by rw [List.length_set, fill_len]; omega), List.getElem?_eq_none (by rw [fill_len]; omega)]
theorem fill_map {α β : Type} (g : α → β) (d : α) (z : β) (l : List α) : fillL (fun i => g (l.getD i d)) z l.length l.length = l.map g := by
  apply List.ext_getElem?
  intro i
  by_cases hi : i < l.length
  · simp [fillL, hi, List.getD, List.getElem?_eq_getElem hi]
  · rw [List.getElem?_eq_none (by rw [fill_len]; omega), List.getElem?_eq_none (by simp; omega)]
theorem zline_rep (Z : Zone) (w : World) : lineE.rep Z w [.slice none 0 0, .bool false] zl := line_rep.2 ⟨_, rfl, HeldE.nil _ _ _⟩
theorem zline_own {Z : Zone} {w : World} {B n : Nat} {v : Value} (h : w.ownsRow B 59 2 v n (madeCells (Value.agg #[.slice none 0 0, .bool false]).cells (n * 2)).toList) : OwnE lineE Z w B 59 v (List.replicate n zl) := by
  have hc : (Value.agg #[.slice none 0 0, .bool false]).cells = [Value.slice none 0 0, .bool false].toArray := by kernel_rfl
  have he := made_flat [Value.slice none 0 0, .bool false] (by decide) n
  rw [hc, show n * 2 = n * [Value.slice none 0 0, .bool false].length from rfl, he] at h
  refine ⟨List.replicate n [.slice none 0 0, .bool false], by rw [List.length_replicate]; exact h, by simp, fun i hi => ?_⟩
  rw [List.length_replicate] at hi
  have e1 : (List.replicate n [Value.slice none 0 0, .bool false]).getD i [] = [.slice none 0 0, .bool false] := by simp [List.getD, List.getElem?_replicate, hi]
  have e2 : (List.replicate n zl).getD i lineE.zero = zl := by simp [List.getD, List.getElem?_replicate, hi]
  rw [e1, e2]
  exact zline_rep _ _
set_option maxRecDepth 100000 in
set_option maxHeartbeats 3000000 in
theorem glines_any (B gg gr wd : Nat) (Rs : List Rw) (w : World) (h : GridAt w B gg gr wd Rs) : Calls Tryd.prog 23 #[.pointer (some ⟨gg, 0, none⟩)] w (MadeE lineE (fun b => w.heap.size ≤ b) 59 w (Rs.map lineOf)) := by
  have HG := Lib.hid h
  have HH := Lib.hid (ghigh_any B gg gr wd Rs w h)
  have HSZ := Lib.hid h.sizes
  have HLT := Lib.hid h.lt
  have hfa := fill_map lineOf r0 zl Rs
  obtain ⟨i0, hi, hz0, hz1, hz2⟩ := info_parts info_line
  obtain ⟨n, hn⟩ : ∃ n, n = Rs.length := ⟨_, rfl⟩
  have HN := Lib.hid hn
  rw [← hn] at HH hfa
  have HFA := Lib.hid hfa
  have hn9 : n ≤ 1024 := by rw [hn]; exact h.sizes.2.1
  clear h hn hfa
  go_enter Tryd.func23, Tryd.ntmps23
  go_wp2_with fail
  refine HH.out.mono ?_
  rintro e w1 ⟨rfl, rfl⟩
  go_wp2_with (at_make; refine wpList_make_full w rfl (.tmp 6) (.tmp 6) 27 rfl w.heap.size 59 i0 (.agg #[.slice none 0 0, .bool false]) 2 Tryd.underlying27 hi hz0 hz1 .i64 .i64 _ _ n rfl rfl rfl rfl (by rw [hz2]; omega) (by unfold maxLen; omega) (Nat.le_refl _) ?_)
  intro w1 hown1 hg1
  have hb1 : Below w.heap.size w w1 := (Below.refl _ _).grown hg1 (Nat.le_refl _) (by intro k hk; cases hk)
  have ho1 : OwnE lineE (fun b => w.heap.size ≤ b) w1 w.heap.size 59 (.slice (some ⟨w.heap.size, 0, none⟩) n n) (fillL (fun i => lineOf (Rs.getD i r0)) zl n 0) := by rw [fill_zero]; exact zline_own hown1
  have HO1 := Lib.hid ho1
  have HB1 := Lib.hid hb1
  generalize hgn : w.heap.size = g at HO1
  have HGN := Lib.hid hgn
  clear hown1 hg1 hb1 ho1 hi hz0 hz1 hz2 hgn HH
  go_wp2
  go_loopw [10] (fun i wr => ∃ k : Nat, k ≤ n ∧ i = .int .i64 k ∧ OwnE lineE (fun b => g ≤ b) wr g 59 (.slice (some ⟨g, 0, none⟩) n n) (fillL (fun i => lineOf (Rs.getD i r0)) zl n k) ∧ Below w.heap.size w wr) (fun i _ => n - (intOf i).toNat)
  case atStart => exact ⟨0, Nat.zero_le _, rfl, HO1.out, HB1.out⟩
  case round =>
    obtain ⟨k, hk, rfl, hown, hbw⟩ := hrel
    have HBW := Lib.hid hbw
    have HO := Lib.hid hown
    clear hbw hown
    by_cases hlt : k < n
    · have hg := HG.out.below HBW.out
      obtain ⟨cap, c0, c1, hcap, hc⟩ := hg.cells
      have cr := hc k (by rw [← HN.out]; exact hlt)
      have hr := hg.row (i := k) (by rw [← HN.out]; exact hlt)
      rw [← HN.out] at c1 hcap
      have hfs := fill_set (fun i => lineOf (Rs.getD i r0)) zl n k hlt
      obtain ⟨r, hrr⟩ : ∃ r, r = Rs.getD k r0 := ⟨_, rfl⟩
      rw [← hrr] at cr hr
      try simp only at hfs
      rw [← hrr] at hfs
      obtain ⟨p, pc, L, wrap⟩ := r
      simp only at cr hr
      have HFS := Lib.hid hfs
      have HR := Lib.hid hr
      have hlg : gg < wr.heap.size ∧ gr < wr.heap.size := ⟨hg.lt.2.1, hg.lt.2.2.2.1⟩
      have hgl : g < wr.heap.size ∧ g ≤ wr.heap.size := ⟨(HO.out.lt g rfl).2, Nat.le_of_lt (HO.out.lt g rfl).2⟩
      have HC1 := Lib.hid (show ∀ w2, Below wr.heap.size wr w2 → w2.cell? ⟨gg, 1, none⟩ = some (.slice (some ⟨gr, 0, none⟩) n cap) from fun w2 b => (b.cell (p := ⟨gg, 1, none⟩) hlg.1).trans c1)
      have HCR := Lib.hid (show ∀ w2, Below wr.heap.size wr w2 → w2.cell? ⟨gr, k, none⟩ = some (.pointer (some ⟨p, 0, none⟩)) from fun w2 b => (b.cell (p := ⟨gr, k, none⟩) hlg.2).trans cr)
      have HFL := Lib.hid (fill_len (fun i => lineOf (Rs.getD i r0)) zl n k)
      obtain ⟨F, hF⟩ : ∃ F, F = fillL (fun i => lineOf (Rs.getD i r0)) zl n k := ⟨_, rfl⟩
      rw [← hF] at HO HFS HFL
      clear hc hg cr c0 c1 hr hrr hfs hF
      go_wp2
      obtain ⟨Erg, hErg⟩ : ∃ EE : Nat → Value → World → Prop, EE = fun jj xx ww => match jj with
          | 0 => xx = .slice (some ⟨g, 0, none⟩) n n
          | 1 => xx = .int .i64 k
          | 2 => xx = .pointer (some ⟨gg, 0, none⟩)
          | 3 => xx = .pointer (some ⟨gg, 0, none⟩)
          | 4 => xx = .pointer (some ⟨gg, 1, none⟩)
          | 5 => xx = .slice (some ⟨gr, 0, none⟩) n cap
          | 6 => xx = .int .i64 k
          | 7 => xx = .pointer (some ⟨gr, k, none⟩)
          | 8 => xx = .pointer (some ⟨p, 0, none⟩)
          | 9 => (fun x w' => HeldE cellE (fun b => wr.heap.size ≤ b) w' x L) xx ww
          | 10 => xx = .pointer (some ⟨gg, 0, none⟩)
          | 11 => xx = .pointer (some ⟨gg, 0, none⟩)
          | 12 => xx = .pointer (some ⟨gg, 1, none⟩)
          | 13 => xx = .slice (some ⟨gr, 0, none⟩) n cap
          | 14 => xx = .int .i64 k
          | 15 => xx = .pointer (some ⟨gr, k, none⟩)
          | 16 => xx = .pointer (some ⟨p, 0, none⟩)
          | 17 => xx = .bool wrap
          | 18 => (fun x w' => ∃ v9, x = .agg #[v9, .bool wrap] ∧ HeldE cellE (fun b => wr.heap.size ≤ b) w' v9 L) xx ww
          | 19 => xx = .pointer (some ⟨g, k * 2, none⟩)
          | 20 => xx = undef
          | _ => True := ⟨_, rfl⟩
      have erg0 : ∀ xx ww, Erg 0 xx ww = (xx = .slice (some ⟨g, 0, none⟩) n n) := fun xx ww => congrFun (congrFun (congrFun hErg 0) xx) ww
      have erg1 : ∀ xx ww, Erg 1 xx ww = (xx = .int .i64 k) := fun xx ww => congrFun (congrFun (congrFun hErg 1) xx) ww
      have erg2 : ∀ xx ww, Erg 2 xx ww = (xx = .pointer (some ⟨gg, 0, none⟩)) := fun xx ww => congrFun (congrFun (congrFun hErg 2) xx) ww
      have erg3 : ∀ xx ww, Erg 3 xx ww = (xx = .pointer (some ⟨gg, 0, none⟩)) := fun xx ww => congrFun (congrFun (congrFun hErg 3) xx) ww
      have erg4 : ∀ xx ww, Erg 4 xx ww = (xx = .pointer (some ⟨gg, 1, none⟩)) := fun xx ww => congrFun (congrFun (congrFun hErg 4) xx) ww
      have erg5 : ∀ xx ww, Erg 5 xx ww = (xx = .slice (some ⟨gr, 0, none⟩) n cap) := fun xx ww => congrFun (congrFun (congrFun hErg 5) xx) ww
      have erg6 : ∀ xx ww, Erg 6 xx ww = (xx = .int .i64 k) := fun xx ww => congrFun (congrFun (congrFun hErg 6) xx) ww
      have erg7 : ∀ xx ww, Erg 7 xx ww = (xx = .pointer (some ⟨gr, k, none⟩)) := fun xx ww => congrFun (congrFun (congrFun hErg 7) xx) ww
      have erg8 : ∀ xx ww, Erg 8 xx ww = (xx = .pointer (some ⟨p, 0, none⟩)) := fun xx ww => congrFun (congrFun (congrFun hErg 8) xx) ww
      have erg9 : ∀ xx ww, Erg 9 xx ww = ((fun x w' => HeldE cellE (fun b => wr.heap.size ≤ b) w' x L) xx ww) := fun xx ww => congrFun (congrFun (congrFun hErg 9) xx) ww
      have erg10 : ∀ xx ww, Erg 10 xx ww = (xx = .pointer (some ⟨gg, 0, none⟩)) := fun xx ww => congrFun (congrFun (congrFun hErg 10) xx) ww
      have erg11 : ∀ xx ww, Erg 11 xx ww = (xx = .pointer (some ⟨gg, 0, none⟩)) := fun xx ww => congrFun (congrFun (congrFun hErg 11) xx) ww
      have erg12 : ∀ xx ww, Erg 12 xx ww = (xx = .pointer (some ⟨gg, 1, none⟩)) := fun xx ww => congrFun (congrFun (congrFun hErg 12) xx) ww
      have erg13 : ∀ xx ww, Erg 13 xx ww = (xx = .slice (some ⟨gr, 0, none⟩) n cap) := fun xx ww => congrFun (congrFun (congrFun hErg 13) xx) ww
      have erg14 : ∀ xx ww, Erg 14 xx ww = (xx = .int .i64 k) := fun xx ww => congrFun (congrFun (congrFun hErg 14) xx) ww
      have erg15 : ∀ xx ww, Erg 15 xx ww = (xx = .pointer (some ⟨gr, k, none⟩)) := fun xx ww => congrFun (congrFun (congrFun hErg 15) xx) ww
      have erg16 : ∀ xx ww, Erg 16 xx ww = (xx = .pointer (some ⟨p, 0, none⟩)) := fun xx ww => congrFun (congrFun (congrFun hErg 16) xx) ww
      have erg17 : ∀ xx ww, Erg 17 xx ww = (xx = .bool wrap) := fun xx ww => congrFun (congrFun (congrFun hErg 17) xx) ww
      have erg18 : ∀ xx ww, Erg 18 xx ww = ((fun x w' => ∃ v9, x = .agg #[v9, .bool wrap] ∧ HeldE cellE (fun b => wr.heap.size ≤ b) w' v9 L) xx ww) := fun xx ww => congrFun (congrFun (congrFun hErg 18) xx) ww
      have erg19 : ∀ xx ww, Erg 19 xx ww = (xx = .pointer (some ⟨g, k * 2, none⟩)) := fun xx ww => congrFun (congrFun (congrFun hErg 19) xx) ww
      have erg20 : ∀ xx ww, Erg 20 xx ww = (xx = undef) := fun xx ww => congrFun (congrFun (congrFun hErg 20) xx) ww
      obtain ⟨Crg, hCrg⟩ : ∃ CC : Array Bool → World → Prop, CC = fun L8 w' => (Mix.one L8 20 = 0 → Below wr.heap.size wr w') ∧ (Mix.one L8 20 ≠ 0 → OwnE lineE (fun b => g ≤ b) w' g 59 (.slice (some ⟨g, 0, none⟩) n n) (fillL (fun i => lineOf (Rs.getD i r0)) zl n (k + 1)) ∧ Below w.heap.size w w') := ⟨_, rfl⟩
      have krg : ∀ i L w, i ≠ 20 →  Crg L w → Crg (L.setIfInBounds i true) w := by
        intro i L w q20 h
        rw [hCrg] at h ⊢
        simp only [Mix.one_ne q20]; exact h
      obtain ⟨Xrg, hXrg⟩ : ∃ XX : World → World → Prop, XX = fun x y => Upd (fun b => b = g) x y := ⟨_, rfl⟩
      have xrg : ∀ w, Xrg w w := fun w => by rw [hXrg]; exact Upd.refl _ _
      have strg : ∀ j x w w1, Xrg w w1 → Erg j x w → Erg j x w1 := by
        intro j x w w1 hx h
        rw [hXrg] at hx
        match j with
        | 0 => rw [erg0] at h ⊢; exact h
        | 1 => rw [erg1] at h ⊢; exact h
        | 2 => rw [erg2] at h ⊢; exact h
        | 3 => rw [erg3] at h ⊢; exact h
        | 4 => rw [erg4] at h ⊢; exact h
        | 5 => rw [erg5] at h ⊢; exact h
        | 6 => rw [erg6] at h ⊢; exact h
        | 7 => rw [erg7] at h ⊢; exact h
        | 8 => rw [erg8] at h ⊢; exact h
        | 9 => rw [erg9] at h ⊢; (first | exact HeldE.upd h hx (fun b hb e => by omega) | (obtain ⟨v9, e9, h9⟩ := h; exact ⟨v9, e9, HeldE.upd h9 hx (fun b hb e => by omega)⟩))
        | 10 => rw [erg10] at h ⊢; exact h
        | 11 => rw [erg11] at h ⊢; exact h
        | 12 => rw [erg12] at h ⊢; exact h
        | 13 => rw [erg13] at h ⊢; exact h
        | 14 => rw [erg14] at h ⊢; exact h
        | 15 => rw [erg15] at h ⊢; exact h
        | 16 => rw [erg16] at h ⊢; exact h
        | 17 => rw [erg17] at h ⊢; exact h
        | 18 => rw [erg18] at h ⊢; (first | exact HeldE.upd h hx (fun b hb e => by omega) | (obtain ⟨v9, e9, h9⟩ := h; exact ⟨v9, e9, HeldE.upd h9 hx (fun b hb e => by omega)⟩))
        | 19 => rw [erg19] at h ⊢; exact h
        | 20 => rw [erg20] at h ⊢; exact h
        | j + 21 => rw [hErg]; trivial
      have crg : Crg (Array.replicate 21 false) wr.drew := by rw [hCrg]; exact ⟨fun _ => (Below.refl _ _).drew, fun e => absurd (Mix.one_none _ _) e⟩
      have brg : ∀ L w w1, Crg L w → Below w.heap.size w w1 → Crg L w1 := by
        intro L w w1 h hb
        rw [hCrg] at h ⊢
        exact ⟨fun e => (h.1 e).trans (hb.mono (h.1 e).size), fun e => ⟨(h.2 e).1.below hb, (h.2 e).2.trans (hb.mono (h.2 e).2.size)⟩⟩
      have xbrg : ∀ w w1, Below w.heap.size w w1 → Xrg w w1 := by
        intro w w1 hb
        rw [hXrg]
        exact .ofBelow hb
      have Hrgb := Lib.hid brg
      have Hrgxb := Lib.hid xbrg
      clear brg xbrg
      clear hErg
      have Hrgk := Lib.hid krg
      have Hrgx := Lib.hid xrg
      have Hrgst := Lib.hid strg
      have Hrgc := Lib.hid crg
      have HrghC := Lib.hid hCrg
      have HrghX := Lib.hid hXrg
      have Hrge0 := Lib.hid erg0
      have Hrge1 := Lib.hid erg1
      have Hrge2 := Lib.hid erg2
      have Hrge3 := Lib.hid erg3
      have Hrge4 := Lib.hid erg4
      have Hrge5 := Lib.hid erg5
      have Hrge6 := Lib.hid erg6
      have Hrge7 := Lib.hid erg7
      have Hrge8 := Lib.hid erg8
      have Hrge9 := Lib.hid erg9
      have Hrge10 := Lib.hid erg10
      have Hrge11 := Lib.hid erg11
      have Hrge12 := Lib.hid erg12
      have Hrge13 := Lib.hid erg13
      have Hrge14 := Lib.hid erg14
      have Hrge15 := Lib.hid erg15
      have Hrge16 := Lib.hid erg16
      have Hrge17 := Lib.hid erg17
      have Hrge18 := Lib.hid erg18
      have Hrge19 := Lib.hid erg19
      have Hrge20 := Lib.hid erg20
      clear krg xrg strg crg hCrg hXrg erg0 erg1 erg2 erg3 erg4 erg5 erg6 erg7 erg8 erg9 erg10 erg11 erg12 erg13 erg14 erg15 erg16 erg17 erg18 erg19 erg20
      go_wp2_with fail
      refine Reg.regionF Erg Crg Xrg Hrgst.out (by kernel_rfl) (by kernel_rfl) (by kernel_rfl) Hrgc.out (fun Frg hFrg => ?_)
      simp only [Reg.frame, Reg.dsts, List.map_cons, List.map_nil, Mix.put_lit, Reg.put_none, List.set_cons_succ, List.set_cons_zero, Nat.zero_add, Nat.reduceAdd] at hFrg
      refine ⟨?_, ?_⟩
      · refine ⟨?_, ?_, ?_, ?_, ?_, ?_, ?_, ?_, ?_, ?_, ?_, ?_, ?_, ?_, ?_, ?_, ?_, ?_, ?_, ?_, ?_, trivial⟩
        · intro Lq wq xq hh
          simp only [hFrg]
          refine .inl ⟨rfl, ?_⟩
          unfold Reg.upon
          have hk := Hrgk.out 0 Lq wq (by decide)  hh.cls
          have hx := Hrgx.out wq
          have he : Erg 0 (.slice (some ⟨g, 0, none⟩) n n) wq := by rw [Hrge0.out]
          have HK := Lib.hid (And.intro hk (And.intro he hx))
          clear hk hx he
          go_simp
          exact HK.out
        · intro Lq wq xq hh
          simp only [hFrg]
          refine .inl ⟨rfl, ?_⟩
          unfold Reg.upon
          have hk := Hrgk.out 1 Lq wq (by decide)  hh.cls
          have hx := Hrgx.out wq
          have he : Erg 1 (.int .i64 k) wq := by rw [Hrge1.out]
          have HK := Lib.hid (And.intro hk (And.intro he hx))
          clear hk hx he
          go_simp
          exact HK.out
        · intro Lq wq xq hh
          simp only [hFrg]
          refine .inl ⟨rfl, ?_⟩
          unfold Reg.upon
          have hk := Hrgk.out 2 Lq wq (by decide)  hh.cls
          have hx := Hrgx.out wq
          have he : Erg 2 (.pointer (some ⟨gg, 0, none⟩)) wq := by rw [Hrge2.out]
          have HK := Lib.hid (And.intro hk (And.intro he hx))
          clear hk hx he
          go_simp
          exact HK.out
        · intro Lq wq xq hh
          have d2 : Erg 2 (xq 2) wq := hh.val 2 (by kernel_rfl) (by kernel_rfl)
          rw [Hrge2.out] at d2
          simp only [hFrg, d2]
          clear d2
          refine .inl ⟨rfl, ?_⟩
          unfold Reg.upon
          have hk := Hrgk.out 3 Lq wq (by decide)  hh.cls
          have hx := Hrgx.out wq
          have he : Erg 3 (.pointer (some ⟨gg, 0, none⟩)) wq := by rw [Hrge3.out]
          have HK := Lib.hid (And.intro hk (And.intro he hx))
          clear hk hx he
          go_simp
          exact HK.out
        · intro Lq wq xq hh
          have d3 : Erg 3 (xq 3) wq := hh.val 3 (by kernel_rfl) (by kernel_rfl)
          rw [Hrge3.out] at d3
          simp only [hFrg, d3]
          clear d3
          refine .inl ⟨rfl, ?_⟩
          unfold Reg.upon
          have hk := Hrgk.out 4 Lq wq (by decide)  hh.cls
          have hx := Hrgx.out wq
          have he : Erg 4 (.pointer (some ⟨gg, 1, none⟩)) wq := by rw [Hrge4.out]
          have HK := Lib.hid (And.intro hk (And.intro he hx))
          clear hk hx he
          go_simp
          exact HK.out
        · intro Lq wq xq hh
          have d4 : Erg 4 (xq 4) wq := hh.val 4 (by kernel_rfl) (by kernel_rfl)
          rw [Hrge4.out] at d4
          simp only [hFrg, d4]
          clear d4
          refine .inl ⟨rfl, ?_⟩
          unfold Reg.upon
          have hc : Crg Lq wq := hh.cls
          rw [HrghC.out] at hc
          have q5 := HC1.out wq (hc.1 (Mix.one_un (hh.notYet 20 (by kernel_rfl))))
          clear hc
          have hk := Hrgk.out 5 Lq wq (by decide)  hh.cls
          have hx := Hrgx.out wq
          have he : Erg 5 (.slice (some ⟨gr, 0, none⟩) n cap) wq := by rw [Hrge5.out]
          have HK := Lib.hid (And.intro hk (And.intro he hx))
          clear hk hx he
          go_simp
          exact HK.out
        · intro Lq wq xq hh
          simp only [hFrg]
          refine .inl ⟨rfl, ?_⟩
          unfold Reg.upon
          have hk := Hrgk.out 6 Lq wq (by decide)  hh.cls
          have hx := Hrgx.out wq
          have he : Erg 6 (.int .i64 k) wq := by rw [Hrge6.out]
          have HK := Lib.hid (And.intro hk (And.intro he hx))
          clear hk hx he
          go_simp
          exact HK.out
        · intro Lq wq xq hh
          have d5 : Erg 5 (xq 5) wq := hh.val 5 (by kernel_rfl) (by kernel_rfl)
          rw [Hrge5.out] at d5
          have d6 : Erg 6 (xq 6) wq := hh.val 6 (by kernel_rfl) (by kernel_rfl)
          rw [Hrge6.out] at d6
          simp only [hFrg, d5, d6]
          clear d5 d6
          refine .inl ⟨rfl, ?_⟩
          unfold Reg.upon
          have hk := Hrgk.out 7 Lq wq (by decide)  hh.cls
          have hx := Hrgx.out wq
          have he : Erg 7 (.pointer (some ⟨gr, k, none⟩)) wq := by rw [Hrge7.out]
          have HK := Lib.hid (And.intro hk (And.intro he hx))
          clear hk hx he
          go_simp
          exact HK.out
        · intro Lq wq xq hh
          have d7 : Erg 7 (xq 7) wq := hh.val 7 (by kernel_rfl) (by kernel_rfl)
          rw [Hrge7.out] at d7
          simp only [hFrg, d7]
          clear d7
          refine .inl ⟨rfl, ?_⟩
          unfold Reg.upon
          have hc : Crg Lq wq := hh.cls
          rw [HrghC.out] at hc
          have q8 := HCR.out wq (hc.1 (Mix.one_un (hh.notYet 20 (by kernel_rfl))))
          clear hc
          have hk := Hrgk.out 8 Lq wq (by decide)  hh.cls
          have hx := Hrgx.out wq
          have he : Erg 8 (.pointer (some ⟨p, 0, none⟩)) wq := by rw [Hrge8.out]
          have HK := Lib.hid (And.intro hk (And.intro he hx))
          clear hk hx he
          go_simp
          exact HK.out
        · intro Lq wq xq hh
          have d8 : Erg 8 (xq 8) wq := hh.val 8 (by kernel_rfl) (by kernel_rfl)
          rw [Hrge8.out] at d8
          simp only [hFrg, d8]
          clear d8
          refine .inl ⟨rfl, ?_⟩
          unfold Reg.upon
          have hc : Crg Lq wq := hh.cls
          rw [HrghC.out] at hc
          have hc9 := hc.1 (Mix.one_un (hh.notYet 20 (by kernel_rfl)))
          go_simp
          refine (rcells_any _ B p pc L wrap wq (HR.out.below hc9)).mono ?_
          rintro e w2 ⟨v2, rfl, ho, hb⟩
          refine ⟨_, rfl, Hrgk.out 9 Lq w2 (by decide) (Hrgb.out Lq wq w2 hh.cls hb), ?_, Hrgxb.out wq w2 hb⟩
          rw [Hrge9.out]
          exact (ho.held (fun b h _ => h)).zone (fun b _ h => Nat.le_trans hc9.size h)
        · intro Lq wq xq hh
          simp only [hFrg]
          refine .inl ⟨rfl, ?_⟩
          unfold Reg.upon
          have hk := Hrgk.out 10 Lq wq (by decide)  hh.cls
          have hx := Hrgx.out wq
          have he : Erg 10 (.pointer (some ⟨gg, 0, none⟩)) wq := by rw [Hrge10.out]
          have HK := Lib.hid (And.intro hk (And.intro he hx))
          clear hk hx he
          go_simp
          exact HK.out
        · intro Lq wq xq hh
          have d10 : Erg 10 (xq 10) wq := hh.val 10 (by kernel_rfl) (by kernel_rfl)
          rw [Hrge10.out] at d10
          simp only [hFrg, d10]
          clear d10
          refine .inl ⟨rfl, ?_⟩
          unfold Reg.upon
          have hk := Hrgk.out 11 Lq wq (by decide)  hh.cls
          have hx := Hrgx.out wq
          have he : Erg 11 (.pointer (some ⟨gg, 0, none⟩)) wq := by rw [Hrge11.out]
          have HK := Lib.hid (And.intro hk (And.intro he hx))
          clear hk hx he
          go_simp
          exact HK.out
        · intro Lq wq xq hh
          have d11 : Erg 11 (xq 11) wq := hh.val 11 (by kernel_rfl) (by kernel_rfl)
          rw [Hrge11.out] at d11
          simp only [hFrg, d11]
          clear d11
          refine .inl ⟨rfl, ?_⟩
          unfold Reg.upon
          have hk := Hrgk.out 12 Lq wq (by decide)  hh.cls
          have hx := Hrgx.out wq
          have he : Erg 12 (.pointer (some ⟨gg, 1, none⟩)) wq := by rw [Hrge12.out]
          have HK := Lib.hid (And.intro hk (And.intro he hx))
          clear hk hx he
          go_simp
          exact HK.out
        · intro Lq wq xq hh
          have d12 : Erg 12 (xq 12) wq := hh.val 12 (by kernel_rfl) (by kernel_rfl)
          rw [Hrge12.out] at d12
          simp only [hFrg, d12]
          clear d12
          refine .inl ⟨rfl, ?_⟩
          unfold Reg.upon
          have hc : Crg Lq wq := hh.cls
          rw [HrghC.out] at hc
          have q5 := HC1.out wq (hc.1 (Mix.one_un (hh.notYet 20 (by kernel_rfl))))
          clear hc
          have hk := Hrgk.out 13 Lq wq (by decide)  hh.cls
          have hx := Hrgx.out wq
          have he : Erg 13 (.slice (some ⟨gr, 0, none⟩) n cap) wq := by rw [Hrge13.out]
          have HK := Lib.hid (And.intro hk (And.intro he hx))
          clear hk hx he
          go_simp
          exact HK.out
        · intro Lq wq xq hh
          simp only [hFrg]
          refine .inl ⟨rfl, ?_⟩
          unfold Reg.upon
          have hk := Hrgk.out 14 Lq wq (by decide)  hh.cls
          have hx := Hrgx.out wq
          have he : Erg 14 (.int .i64 k) wq := by rw [Hrge14.out]
          have HK := Lib.hid (And.intro hk (And.intro he hx))
          clear hk hx he
          go_simp
          exact HK.out
        · intro Lq wq xq hh
          have d13 : Erg 13 (xq 13) wq := hh.val 13 (by kernel_rfl) (by kernel_rfl)
          rw [Hrge13.out] at d13
          have d14 : Erg 14 (xq 14) wq := hh.val 14 (by kernel_rfl) (by kernel_rfl)
          rw [Hrge14.out] at d14
          simp only [hFrg, d13, d14]
          clear d13 d14
          refine .inl ⟨rfl, ?_⟩
          unfold Reg.upon
          have hk := Hrgk.out 15 Lq wq (by decide)  hh.cls
          have hx := Hrgx.out wq
          have he : Erg 15 (.pointer (some ⟨gr, k, none⟩)) wq := by rw [Hrge15.out]
          have HK := Lib.hid (And.intro hk (And.intro he hx))
          clear hk hx he
          go_simp
          exact HK.out
        · intro Lq wq xq hh
          have d15 : Erg 15 (xq 15) wq := hh.val 15 (by kernel_rfl) (by kernel_rfl)
          rw [Hrge15.out] at d15
          simp only [hFrg, d15]
          clear d15
          refine .inl ⟨rfl, ?_⟩
          unfold Reg.upon
          have hc : Crg Lq wq := hh.cls
          rw [HrghC.out] at hc
          have q8 := HCR.out wq (hc.1 (Mix.one_un (hh.notYet 20 (by kernel_rfl))))
          clear hc
          have hk := Hrgk.out 16 Lq wq (by decide)  hh.cls
          have hx := Hrgx.out wq
          have he : Erg 16 (.pointer (some ⟨p, 0, none⟩)) wq := by rw [Hrge16.out]
          have HK := Lib.hid (And.intro hk (And.intro he hx))
          clear hk hx he
          go_simp
          exact HK.out
        · intro Lq wq xq hh
          have d16 : Erg 16 (xq 16) wq := hh.val 16 (by kernel_rfl) (by kernel_rfl)
          rw [Hrge16.out] at d16
          simp only [hFrg, d16]
          clear d16
          refine .inl ⟨rfl, ?_⟩
          unfold Reg.upon
          have hc : Crg Lq wq := hh.cls
          rw [HrghC.out] at hc
          have hc17 := hc.1 (Mix.one_un (hh.notYet 20 (by kernel_rfl)))
          go_simp
          refine (rwrap_any _ B p pc L wrap wq (HR.out.below hc17)).mono ?_
          rintro e w2 ⟨rfl, rfl⟩
          exact ⟨_, rfl, Hrgk.out 17 Lq wq (by decide) hh.cls, (by rw [Hrge17.out]), Hrgx.out _⟩
        · intro Lq wq xq hh
          have d9 : Erg 9 (xq 9) wq := hh.val 9 (by kernel_rfl) (by kernel_rfl)
          rw [Hrge9.out] at d9
          have d17 : Erg 17 (xq 17) wq := hh.val 17 (by kernel_rfl) (by kernel_rfl)
          rw [Hrge17.out] at d17
          simp only [hFrg, d17]
          clear d17
          refine .inl ⟨rfl, ?_⟩
          unfold Reg.upon
          obtain ⟨a9, c9, e9⟩ := d9.len
          rw [e9] at d9 ⊢
          go_simp
          exact ⟨Hrgk.out 18 Lq wq (by decide) hh.cls, (by rw [Hrge18.out]; exact ⟨_, rfl, d9⟩), Hrgx.out _⟩
        · intro Lq wq xq hh
          have d0 : Erg 0 (xq 0) wq := hh.val 0 (by kernel_rfl) (by kernel_rfl)
          rw [Hrge0.out] at d0
          have d1 : Erg 1 (xq 1) wq := hh.val 1 (by kernel_rfl) (by kernel_rfl)
          rw [Hrge1.out] at d1
          simp only [hFrg, d0, d1]
          clear d0 d1
          refine .inl ⟨rfl, ?_⟩
          unfold Reg.upon
          have hk := Hrgk.out 19 Lq wq (by decide)  hh.cls
          have hx := Hrgx.out wq
          have he : Erg 19 (.pointer (some ⟨g, k * 2, none⟩)) wq := by rw [Hrge19.out]
          have HK := Lib.hid (And.intro hk (And.intro he hx))
          clear hk hx he
          go_simp
          exact HK.out
        · intro Lq wq xq hh
          have d18 : Erg 18 (xq 18) wq := hh.val 18 (by kernel_rfl) (by kernel_rfl)
          rw [Hrge18.out] at d18
          have d19 : Erg 19 (xq 19) wq := hh.val 19 (by kernel_rfl) (by kernel_rfl)
          rw [Hrge19.out] at d19
          simp only [hFrg, d19]
          clear d19
          refine .inl ⟨rfl, ?_⟩
          unfold Reg.upon
          obtain ⟨v9, e9, h9⟩ := d18
          obtain ⟨a9, c9, e8⟩ := h9.len
          rw [e9]
          subst e8
          have hc20 : Crg Lq wq := hh.cls
          rw [HrghC.out] at hc20
          have hcb := hc20.1 hh.un
          have hown := HO.out.below hcb
          have hidx : k < F.length := by rw [HFL.out]; exact hlt
          have hr9 : lineE.rep (fun b => g ≤ b ∧ b ≠ g) wq [.slice a9 L.length c9, .bool wrap] (L, wrap) := line_rep.2 ⟨_, rfl, h9.zone (fun b _ hz => ⟨by omega, by omega⟩)⟩
          have hth := hown.each.there hidx
          obtain ⟨ho9, hu9⟩ := hown.each.put (Y := fun b => g ≤ b) hidx _ (L, wrap) hr9
          rw [exec_store_mid (b := g) (off := k * 2) rfl rfl [.slice a9 L.length c9, .bool wrap] rfl hth (by kernel_rfl) (lineE.one hr9)]
          refine ⟨?_, (by rw [Hrge20.out]), (by rw [HrghX.out]; exact hu9)⟩
          rw [HrghC.out]
          refine ⟨fun e => (by rw [Mix.one_set (by rw [hh.size]; decide)] at e; cases e), fun _ => ⟨?_, ?_⟩⟩
          rw [← HFS.out]
          exact OwnI.all ho9 (fun j b _ _ q => by split at q <;> exact q)
          exact (HBW.out.trans (hcb.mono HBW.out.size)).upd hu9 (HBW.out.trans (hcb.mono HBW.out.size)).size (fun x e => by have := HGN.out; omega)
      intro xq wrg hcrg hvrg
      rw [HrghC.out] at hcrg
      simp only [hFrg]
      clear hvrg hFrg Hrgk Hrgx Hrgst Hrgc HrghC HrghX Hrgb Hrgxb Hrge0 Hrge1 Hrge2 Hrge3 Hrge4 Hrge5 Hrge6 Hrge7 Hrge8 Hrge9 Hrge10 Hrge11 Hrge12 Hrge13 Hrge14 Hrge15 Hrge16 Hrge17 Hrge18 Hrge19 Hrge20
      have HMN := Lib.hid (hcrg.2 (by rw [Mix.one_all (by decide)]; decide))
      clear hcrg
      go_wp2
      go_roundw
      case rel => exact ⟨k + 1, by omega, by go_num, HMN.out.1, HMN.out.2⟩
      case measure => simp [intOf] <;> omega
    · obtain rfl : k = n := by omega
      rw [HFA.out] at HO
      go_wp2
      go_ret
      exact ⟨_, rfl, by rw [HGN.out]; exact HO.out, HBW.out⟩
end Go.Proofs.YteinppjklhomnaaDoor
