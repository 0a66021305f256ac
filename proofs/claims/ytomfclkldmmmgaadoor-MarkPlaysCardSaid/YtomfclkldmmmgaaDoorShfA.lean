/- The library's Grow and Concat of cells. -/
import Derived.Test.YtomfclkldmmmgaaDoorCloneD
import Derived.Lib.AppendZeros
namespace Go.Proofs.YtomfclkldmmmgaaDoor
open Go.RowKit Go.ChangeShapes Go.WideShapes
set_option maxRecDepth 100000 in
theorem cgrow_none (Z : Zone) (N : Nat) (hN : N ≤ 1000000) (w : World) : Calls Tryd.prog 106 #[.slice none 0 0, .int .i64 N] w (MadeE cellE Z 27 w []) := by
  rcases Nat.eq_zero_or_pos N with rfl | hp
  · go_enter Tryd.func106, Tryd.ntmps106
    go_wp2
    go_ret
    exact ⟨_, rfl, OwnE.nil _ _ _ _ _, Below.refl _ _⟩
  · obtain ⟨i0, hi, hz0, hz1, hz2⟩ := info_parts info_cell
    obtain ⟨C, hC⟩ : ∃ C, C = grownCap w N 0 27 := ⟨_, rfl⟩
    have hr := Go.Lib.run_append_nil_zeros (P := Tryd.prog) w 22 3 22 27 i0 (.agg #[.int .i64 0, .slice none 0 0]) .i64 .i64 Tryd.underlying22 Tryd.underlying3 hi hz0 N hp (by rw [hz1]; decide) (by omega) (by rw [hz2]; omega)
    rw [← hC] at hr
    have hge : N ≤ C := by rw [hC]; exact grownCap_ge w N 0 27
    have hle : C ≤ maxLen := by rw [hC]; exact grownCap_le_maxLen w N 0 27 (by unfold maxLen; omega)
    have HLE := Lib.hid hle
    have HO := Lib.hid (show (w.drew.alloc (.cells (Builtin.zeroCells (Value.agg #[.int .i64 0, .slice none 0 0]).cells N ++ Builtin.zeroCells (Value.agg #[.int .i64 0, .slice none 0 0]).cells (C - N)) 27)).ownsRow w.heap.size 27 2 (.slice (some ⟨w.heap.size, 0, none⟩) 0 C) 0 [] from by
      refine ⟨rfl, .inr ⟨w.heap.size, _, _, rfl, Nat.le_refl _, heap_alloc_new w.drew _, Nat.zero_le _, hle, ?_, by simp⟩⟩
      simp [Builtin.zeroCells, Value.cells]
      omega)
    have HB := Lib.hid ((Below.refl w.heap.size w).drew.alloc (Nat.le_refl _) (.cells (Builtin.zeroCells (Value.agg #[.int .i64 0, .slice none 0 0]).cells N ++ Builtin.zeroCells (Value.agg #[.int .i64 0, .slice none 0 0]).cells (C - N)) 27))
    generalize (w.drew.alloc (.cells (Builtin.zeroCells (Value.agg #[.int .i64 0, .slice none 0 0]).cells N ++ Builtin.zeroCells (Value.agg #[.int .i64 0, .slice none 0 0]).cells (C - N)) 27)) = w1 at hr HO HB
    clear hC hi hz0 hz1 hz2 hle
    go_enter Tryd.func106, Tryd.ntmps106
    go_wp2_with (at_builtin; refine Go.Lib.wpList_append_run _ rfl (.tmp 20) (.tmp 21) _ _ rfl _ _ rfl rfl _ _ hr ?_)
    go_wp2
    go_ret
    exact ⟨_, rfl, OwnE.empty HO.out, HB.out⟩
def flatG {α : Type} (L : List (List α)) (k : Nat) : List α := (L.take k).flatten
theorem flatG_succ {α : Type} (L : List (List α)) (k : Nat) (h : k < L.length) : flatG L (k + 1) = flatG L k ++ L.getD k [] := by
  unfold flatG
  rw [List.take_succ_eq_append_getElem h, List.flatten_append]
  simp [List.getD, List.getElem?_eq_getElem h]
theorem flatG_le {α : Type} (L : List (List α)) : ∀ k, k ≤ L.length → (flatG L k).length ≤ (flatG L L.length).length := by
  have h : ∀ d k, k + d = L.length → (flatG L k).length ≤ (flatG L L.length).length := by
    intro d
    induction d with
    | zero => intro k e; have : k = L.length := by omega
              subst this; exact Nat.le_refl _
    | succ d ih =>
      intro k e
      have h1 := ih (k + 1) (by omega)
      rw [flatG_succ L k (by omega), List.length_append] at h1
      omega
  intro k hk
  exact h (L.length - k) k (by omega)
theorem flatG_all {α : Type} (L : List (List α)) : flatG L L.length = L.flatten := by unfold flatG; rw [List.take_length]
theorem slots_at {Z : Zone} {w : World} {ao : Option Addr} {n cap : Nat} {L : List (List Cl)} (h : HeldE cellsE Z w (.slice ao n cap) L) : n = L.length ∧ n ≤ cap ∧ ∀ i, i < L.length → ∃ b off u, ao = some ⟨b, off, none⟩ ∧ b < w.heap.size ∧ w.cell? ⟨b, off + i, none⟩ = some u ∧ HeldE cellE Z w u (L.getD i []) := by
  obtain ⟨h1, h2, h3⟩ := h.spots
  refine ⟨h1, h2, fun i hi => ?_⟩
  obtain ⟨b, off, rfl, hb, hz, C, hC, u, rfl, hr⟩ := h3 i hi
  have hc := hC 0 (by decide)
  rw [show off + i * cellsE.size + 0 = off + i from by show off + i * 1 + 0 = _; omega] at hc
  exact ⟨b, off, u, rfl, hb, hc, hr⟩
set_option maxRecDepth 100000 in
set_option maxHeartbeats 1000000 in
theorem cconcat_any (Z : Zone) (v : Value) (L : List (List Cl)) (w : World) (hh : HeldE cellsE Z w v L) (hl : L.length ≤ 1000000) (ht : L.flatten.length ≤ 1000000) : Calls Tryd.prog 91 #[v] w (MadeE cellE Z 27 w L.flatten) := by
  have hh := hh.zone (Y := fun b => Z b ∧ b < w.heap.size) (fun b hb hz => ⟨hz, hb⟩)
  obtain ⟨ao, cap, rfl⟩ := hh.len
  obtain ⟨_, _, hs⟩ := slots_at hh
  have HH := Lib.hid hs
  have HLE := Lib.hid (flatG_le L)
  have HFA := Lib.hid (flatG_all L)
  rw [← flatG_all L] at ht ⊢
  clear hh hs
  go_enter Tryd.func91, Tryd.ntmps91
  go_wp2
  go_loopw [3, 11] (fun sv iv wr => ∃ k s : Nat, k ≤ L.length ∧ iv = .int .i64 k ∧ sv = .int .i64 s ∧ Go.RowKit.Hid (s = (flatG L k).length) ∧ wr = w) (fun _ iv _ => L.length - (intOf iv).toNat)
  case atStart => exact ⟨0, 0, Nat.zero_le _, rfl, rfl, Lib.hid rfl, rfl⟩
  case round =>
    obtain ⟨k, s, hk, rfl, rfl, HS, rfl⟩ := hrel
    obtain ⟨wo, hwo⟩ : ∃ wo, wo = wr := ⟨_, rfl⟩
    subst hwo
    have hsl : s ≤ 1000000 := by have := HLE.out k hk; have := HS.out; omega
    by_cases hlt : k < L.length
    · obtain ⟨b, off, u, rfl, hb, c0, hu⟩ := HH.out k hlt
      have hfs := flatG_succ L k hlt
      have hle2 := HLE.out (k + 1) (by omega)
      obtain ⟨T, hT⟩ : ∃ T, T = L.getD k [] := ⟨_, rfl⟩
      rw [← hT] at hu hfs
      obtain ⟨uo, uc, rfl⟩ := hu.len
      rw [hfs, List.length_append] at hle2
      have hs2 : s + T.length ≤ 1000000 := by have := HS.out; omega
      have hs3 : s + T.length = (flatG L (k + 1)).length := by rw [hfs, List.length_append, HS.out]
      have HS3 := Lib.hid hs3
      have d1 : decide ((s : Int) + (T.length : Int) < 0) = false := decide_eq_false (by omega)
      clear hfs hT hu hs3 hle2
      go_wp2
      go_roundw
      case rel => exact ⟨k + 1, s + T.length, by omega, by go_num, by go_num, HS3, trivial⟩
      case measure => simp [intOf] <;> omega
    · obtain rfl : k = L.length := by omega
      have HG := Lib.hid (cgrow_none Z s hsl wo)
      go_wp2_with fail
      refine HG.out.mono ?_
      rintro e w1 ⟨v1, rfl, ho1, b1⟩
      have HO1 := Lib.hid ho1
      have HB1 := Lib.hid b1
      clear ho1 b1 HG HS hsl hlt
      go_wp2
      go_loopw [6, 27] (fun nv iv w2 => ∃ k : Nat, k ≤ L.length ∧ iv = .int .i64 k ∧ OwnE cellE Z w2 wo.heap.size 27 nv (flatG L k) ∧ Below wo.heap.size wo w2) (fun _ iv _ => L.length - (intOf iv).toNat)
      case atStart => exact ⟨0, Nat.zero_le _, rfl, HO1.out, HB1.out⟩
      case round =>
        obtain ⟨k, hk, rfl, hown, hbw⟩ := hrel
        have HOW := Lib.hid hown
        have HBW := Lib.hid hbw
        clear hown hbw
        by_cases hlt : k < L.length
        · obtain ⟨b, off, u, rfl, hb, c0, hu⟩ := HH.out k hlt
          have c0 := (HBW.out.cell (p := ⟨b, off + k, none⟩) hb).trans c0
          have hfs := flatG_succ L k hlt
          have hle2 := HLE.out (k + 1) (by omega)
          obtain ⟨T, hT⟩ : ∃ T, T = L.getD k [] := ⟨_, rfl⟩
          rw [← hT] at hu hfs
          obtain ⟨uo, uc, rfl⟩ := hu.len
          rw [hfs, List.length_append] at hle2
          obtain ⟨P0, hP⟩ : ∃ P0, P0 = flatG L k := ⟨_, rfl⟩
          rw [← hP] at hfs HOW hle2
          have HFS := Lib.hid hfs
          have hlo := HOW.out.lt
          have HU := Lib.hid (show HeldE cellE (fun b => Z b ∧ _ ≠ some b) wr (.slice uo T.length uc) T from (hu.below HBW.out).zone fun b _ hz => ⟨hz.1, fun e => by have := (hlo b e).1; omega⟩)
          have hs2 : P0.length + T.length ≤ 1000000 := by omega
          clear hfs hT hu hle2 hP hlo
          go_wp2_with (at_builtin; refine wpList_append_e (E := cellE) (Z := Z) rfl (.tmp 31) (.tmp 32) 22 rfl (.agg #[.int .i64 0, .slice none 0 0]) 32 Tryd.underlying22 info_cell rfl (by decide) rfl rfl HOW.out HU.out (by omega) (by omega) HBW.out.size ?_)
          intro v2 w2 ho2 hb2 _ _
          have hb3 := HBW.out.trans hb2
          rw [← HFS.out] at ho2
          have H2 := Lib.hid ho2
          have H3 := Lib.hid hb3
          clear ho2 hb2 hb3
          go_wp2
          go_roundw
          case rel => exact ⟨k + 1, by omega, by go_num, H2.out, H3.out⟩
          case measure => simp [intOf] <;> omega
        · obtain rfl : k = L.length := by omega
          go_wp2
          go_ret
          exact ⟨_, rfl, HOW.out, HBW.out⟩
end Go.Proofs.YtomfclkldmmmgaaDoor
