/- The reference's Move, where something is moved (33). -/
import Derived.Test.YtoeggiplcaegoaaGreatDoorMg7
import Derived.Test.YtoeggiplcaegoaaGreatDoorMg1
import Derived.Lib.MinMax
namespace Go.Proofs.YtoeggiplcaegoaaGreatDoor
open Go.RowKit Go.ChangeShapes Go.WideShapes
def moveP (Ls : List Ln) (f t q : Nat) (up : Bool) (k : Nat) : List Ln := (List.range k).map (entM Ls f t q up)
theorem moveP_succ (Ls : List Ln) (f t q : Nat) (up : Bool) (k : Nat) : moveP Ls f t q up (k + 1) = moveP Ls f t q up k ++ [entM Ls f t q up k] := by unfold moveP; rw [List.range_succ, List.map_append]; rfl
theorem moveP_len (Ls : List Ln) (f t q : Nat) (up : Bool) (k : Nat) : (moveP Ls f t q up k).length = k := by simp [moveP]
theorem info_line2 : (Tryz.prog.info? 104).map (·.size) = some 2 := by kernel_rfl
theorem ownE_zone {α : Type} {E : Elem α} {Z Y : Zone} {w : World} {B : Nat} {ty : TypeId} {v : Value} {L : List α} (h : OwnE E Z w B ty v L) (hy : ∀ b, b < w.heap.size → Z b → Y b) : OwnE E Y w B ty v L := h.keep (.refl _ _) hy
set_option maxRecDepth 100000 in
set_option maxHeartbeats 16000000 in
theorem rmove_up (v : Value) (Z : Zone) (Ls : List Ln) (a b k : Int) (f t q : Nat) (w : World) (hv : HeldE lineE Z w v Ls) (hZ : ∀ b, Z b → b < w.heap.size) (hl : Ls.length ≤ 1000) (hLW : ∀ i, i < Ls.length → (Ls.getD i zl).1.length ≤ 1024) (hf : heldF Ls.length a = f) (ht : heldF Ls.length b = t) (hk : heldK Ls.length a b k = (q : Int)) (hq : 0 < q) : Calls Tryz.prog 170 #[v, .int .i64 a, .int .i64 b, .int .i64 k, .bool true] w (MadeE lineE (fun b => Z b ∨ w.heap.size ≤ b) 104 w (moveL Ls f t q true)) := by
  obtain ⟨n, hn⟩ : ∃ n, n = Ls.length := ⟨_, rfl⟩
  have htn : t ≤ n := by rw [hn, ← ht]; exact heldF_le _ _
  rw [← hn] at hl hf ht hk hLW
  have h1 : max 0 (min a (n : Int)) = (f : Int) := by rw [← hf]; unfold heldF; omega
  have h2 : max 0 (min b (n : Int)) = (t : Int) := by rw [← ht]; unfold heldF; omega
  unfold heldK at hk
  rw [hf, ht] at hk
  have hft : f < t := by omega
  have hqt : q ≤ t - f := by omega
  obtain ⟨ao, ca, rfl⟩ := hv.len
  obtain ⟨_, _, hc⟩ := lines_at hv
  obtain ⟨b0, off0, hao⟩ : ∃ b0 off0, ao = some ⟨b0, off0, none⟩ := by
    obtain ⟨b0, off0, _, h, _⟩ := hc 0 (by omega)
    exact ⟨b0, off0, h⟩
  subst hao
  have HC := Lib.hid (show ∀ i, i < n → ∃ v, b0 < w.heap.size ∧ Z b0 ∧ w.cell? ⟨b0, off0 + i * 2, none⟩ = some v ∧ w.cell? ⟨b0, off0 + i * 2 + 1, none⟩ = some (.bool (Ls.getD i zl).2) ∧ HeldE cellE Z w v (Ls.getD i zl).1 from fun i hi => by
    obtain ⟨b, off, v, e, r⟩ := hc i (by rw [← hn]; exact hi)
    cases e
    exact ⟨v, r⟩)
  have HLW := Lib.hid hLW
  have HZ := Lib.hid hZ
  have HTN := Lib.hid htn
  have HFIN := Lib.hid (show moveP Ls f t q true n = moveL Ls f t q true from by unfold moveP moveL; rw [hn])
  rw [← hn]
  obtain ⟨i0, hi, hz0, hz1, hz2⟩ := info_parts info_cell
  have HI := Lib.hid (And.intro hi (And.intro hz0 (And.intro hz1 hz2)))
  have d1 : decide ((t : Int) ≤ f) = false := by rw [decide_eq_false_iff_not]; omega
  have d1n : decide (t ≤ f) = false := by rw [decide_eq_false_iff_not]; omega
  have d2 : decide (k < 1) = false := by rw [decide_eq_false_iff_not]; omega
  have d3 : IntKind.i64.wrap ((t : Int) - f) = (t : Int) - f := by rw [IntKind.wrap_i64]; omega
  clear hi hz0 hz1 hz2 hn hc hv hLW hZ hf ht
  go_enter Tryz.func170, Tryz.ntmps170
  go_wp2
  try rw [hk]
  go_loopw [12, 13] (fun o i wr => ∃ k : Nat, k ≤ n ∧ i = .int .i64 k ∧ OwnE lineE (fun b => Z b ∨ w.heap.size ≤ b) wr w.heap.size 104 o (moveP Ls f t q true k) ∧ Below w.heap.size w wr) (fun _ i _ => n - (intOf i).toNat)
  case atStart => exact ⟨0, Nat.zero_le _, rfl, OwnE.nil _ _ _ _ _, Below.refl _ _⟩
  case round =>
    obtain ⟨i, hi, rfl, hown, hbw⟩ := hrel
    have HBW := Lib.hid hbw
    obtain ⟨ov, hov⟩ : ∃ ov, ov = u12 := ⟨_, rfl⟩
    rw [← hov] at hown ⊢
    clear hov hbw d1 d1n d2 d3 h1 h2 hk
    by_cases hlt : i < n
    · by_cases hw1 : i < f
      · by_cases hw2 : i + 1 = f
        · obtain ⟨lv, hb0, hz0, c0, c1, hh⟩ := HC.out i hlt
          have hxm := HLW.out i hlt
          obtain ⟨⟨X, wb⟩, hX⟩ : ∃ y, y = Ls.getD i zl := ⟨_, rfl⟩
          rw [← hX] at c1 hh hxm
          simp only at c1 hh hxm
          have HXE := Lib.hid hX
          obtain ⟨a1, x1, rfl⟩ := hh.len
          obtain ⟨m, hm⟩ : ∃ m, m = X.length := ⟨_, rfl⟩
          rw [← hm] at c0 hxm
          have HM := Lib.hid hm
          have HCW := Lib.hid (show ∀ w9, Below w.heap.size w w9 → w9.cell? ⟨b0, off0 + i * 2, none⟩ = some (.slice a1 m x1) from fun w9 h => (h.cell (p := ⟨b0, off0 + i * 2, none⟩) hb0).trans c0)
          have c0 := HCW.out wr HBW.out
          have c1 := (HBW.out.cell (p := ⟨b0, off0 + i * 2 + 1, none⟩) hb0).trans c1
          have HLO := Lib.hid (show ∀ b, ov.ownBlock = some b → w.heap.size ≤ b ∧ b < wr.heap.size from hown.lt)
          obtain ⟨gb, hgb⟩ : ∃ gb, gb = wr.heap.size := ⟨_, rfl⟩
          rw [← hgb] at HLO
          obtain ⟨W1, hW1⟩ : ∃ W1, W1 = wr.alloc (.cells #[.slice a1 m x1, .bool wb] 104) := ⟨_, rfl⟩
          have hb1 : Below wr.heap.size wr W1 := by rw [hW1]; exact (Below.refl _ _).alloc (Nat.le_refl _) _
          have HO1 := Lib.hid (show OwnE lineE (fun b => (Z b ∨ w.heap.size ≤ b) ∧ b < gb) W1 w.heap.size 104 ov (moveP Ls f t q true i) from (hown.zone (fun b hb hz => ⟨hz, by rw [hgb]; exact hb⟩)).below hb1)
          have HGB := Lib.hid hgb
          have HGB2 := Lib.hid (show w.heap.size ≤ gb from by rw [hgb]; exact HBW.out.size)
          have HH := Lib.hid (show Has W1 gb [.slice a1 m x1, .bool wb] 104 by rw [hW1, hgb]; exact Has.new wr _ _)
          have HB1 := Lib.hid (HBW.out.trans (hb1.mono HBW.out.size))
          have HV1 := Lib.hid (show HeldE cellE (fun b => (Z b ∨ w.heap.size ≤ b) ∧ b ≠ gb ∧ ov.ownBlock ≠ some b) W1 (.slice a1 m x1) X from by rw [hm]; exact (hh.below HB1.out).zone (fun b _ hz => ⟨.inl hz, fun e => by have := HZ.out b hz; have := HGB2.out; omega, fun e => by have := HZ.out b hz; have := (HLO.out b e).1; omega⟩))
          have HNX := Lib.hid (moveP_succ Ls f t q true i)
          have HLN := Lib.hid (moveP_len Ls f t q true i)
          obtain ⟨MP, hMP⟩ : ∃ MP, MP = moveP Ls f t q true i := ⟨_, rfl⟩
          rw [← hMP] at HO1 HNX HLN
          clear hown hh hX hm hb1 hgb hb0 hz0 hMP
          go_upto_region 11 with (fail)
          go_upto_region 12 with (fail)
          rw [← HGB.out, ← hW1]
          clear hW1 c0 c1
          have t1 : decide ((f : Int) ≤ i) = false := by rw [decide_eq_false_iff_not]; omega
          have t1n : decide (f ≤ i) = false := by rw [decide_eq_false_iff_not]; omega
          go_upto_region 19 with (fail)
          obtain ⟨Wm, hWm⟩ : ∃ Wm, Wm = W1 := ⟨_, rfl⟩
          obtain ⟨VV, hVV⟩ : ∃ VV, VV = Value.slice a1 m x1 := ⟨_, rfl⟩
          obtain ⟨VL, hVL⟩ : ∃ VL, VL = X := ⟨_, rfl⟩
          obtain ⟨wm_, hwm⟩ : ∃ wm_, wm_ = wb := ⟨_, rfl⟩
          have HBOX := Lib.hid (show Has Wm gb [VV, .bool wm_] 104 from by rw [hWm, hVV, hwm]; exact HH.out)
          have HVM := Lib.hid (show HeldE cellE (fun b => (Z b ∨ w.heap.size ≤ b) ∧ b ≠ gb ∧ ov.ownBlock ≠ some b) Wm VV VL from by rw [hWm, hVV, hVL]; exact HV1.out)
          have HOM := Lib.hid (show OwnE lineE (fun b => (Z b ∨ w.heap.size ≤ b) ∧ b < gb) Wm w.heap.size 104 ov MP from by rw [hWm]; exact HO1.out)
          have HBM := Lib.hid (show Below w.heap.size w Wm from by rw [hWm]; exact HB1.out)
          rw [← hWm]
          have OFFP : i + 1 = f ∨ (true = false ∧ i + 1 = t) := .inl (by omega)
          have HENT := Lib.hid (show entM Ls f t q true i = (VL, false) from by
            unfold entM srcM
            rw [if_neg (show ¬ (f ≤ i ∧ i < t) by omega), ← HXE.out, hVL, if_pos OFFP])
          clear hVV hVL hwm hWm
          clear OFFP
          have s1 : (((i : Nat) : Int) + 1 == (f : Int)) = true := by rw [beq_iff_eq]; omega
          have s1n : (i + 1 == f) = true := by rw [beq_iff_eq]; omega
          go_upto_region 20 with (fail)
          have q1 := HBOX.out.cell 1 _ rfl
          have q1f := HBOX.out.free 1
          go_upto_region 21 with (fail)
          clear q1 q1f
          obtain ⟨W5, hW5⟩ : ∃ W5, W5 = Wm.setCell ⟨gb, 1, none⟩ (.bool false) := ⟨_, rfl⟩
          have HBX5 := Lib.hid (show Has W5 gb [VV, .bool false] 104 from by rw [hW5]; exact HBOX.out.set 1 (.bool false))
          have u5 : Upd (fun b => b = gb) Wm W5 := by rw [hW5]; exact (Upd.refl (fun b => b = gb) Wm).setCell (p := ⟨gb, 1, none⟩) (.inl rfl) (.bool false)
          have HV5 := Lib.hid (HVM.out.upd u5 (fun b hz => hz.2.1))
          have HO5 := Lib.hid (HOM.out.upd u5 (fun b hz => by rcases hz with hz | hz; exact Nat.ne_of_lt hz.2; exact Nat.ne_of_lt (HLO.out b hz).2))
          have HB5 := Lib.hid (HBM.out.upd u5 HBM.out.size (fun b e => by subst e; exact HGB2.out))
          rw [← hW5]
          clear hW5 u5
          have q0 := HBX5.out.cell 0 _ rfl
          have q1 := HBX5.out.cell 1 _ rfl
          have HLO5 := Lib.hid HO5.out.lt
          have hb6 : Below W5.heap.size W5 (W5.alloc (.cells [VV, .bool false].toArray 104)) := (Below.refl _ _).alloc (Nat.le_refl _) _
          have HX := Lib.hid (show HeldE lineE (fun b => (Z b ∨ w.heap.size ≤ b) ∧ ov.ownBlock ≠ some b) (W5.alloc (.cells [VV, .bool false].toArray 104)) (.slice (some ⟨W5.heap.size, 0, none⟩) 1 1) [entM Ls f t q true i] from by
            rw [HENT.out]
            exact heldE_one (Y := fun b => (Z b ∨ w.heap.size ≤ b) ∧ b ≠ gb ∧ ov.ownBlock ≠ some b) [VV, .bool false] (VL, false) (line_rep.2 ⟨_, rfl, HV5.out⟩) (fun b _ h => ⟨h.1, h.2.2⟩) ⟨.inr HB5.out.size, fun e => by have := (HLO5.out _ e).2; omega⟩)
          have HO6 := Lib.hid ((HO5.out.zone (Y := fun b => Z b ∨ w.heap.size ≤ b) (fun b _ h => h.1)).below hb6)
          have HB6 := Lib.hid (HB5.out.trans (hb6.mono HB5.out.size))
          clear hb6
          obtain ⟨av, cv, hav⟩ := HV5.out.len
          subst hav
          go_wp2_with (at_builtin; refine wpList_append_e (E := lineE) (Z := fun b => Z b ∨ w.heap.size ≤ b) rfl (.tmp 99) (.tmp 101) 22 rfl (.agg #[.slice none 0 0, .bool false]) 32 Tryz.underlying22 info_line rfl (by decide) rfl rfl HO6.out HX.out (by rw [HLN.out]; simp only [List.length_singleton]; omega) (by rw [HLN.out]; simp only [List.length_singleton]; omega) HB6.out.size ?_)
          intro v9 w9 ho9 hb9 _ _
          rw [← HNX.out] at ho9
          have H2 := Lib.hid ho9
          have H3 := Lib.hid (HB6.out.trans hb9)
          clear ho9 hb9 q0 q1
          go_wp2
          go_roundw
          case rel => exact ⟨i + 1, by omega, by go_num, H2.out, H3.out⟩
          case measure => simp [intOf] <;> omega
        · obtain ⟨lv, hb0, hz0, c0, c1, hh⟩ := HC.out i hlt
          have hxm := HLW.out i hlt
          obtain ⟨⟨X, wb⟩, hX⟩ : ∃ y, y = Ls.getD i zl := ⟨_, rfl⟩
          rw [← hX] at c1 hh hxm
          simp only at c1 hh hxm
          have HXE := Lib.hid hX
          obtain ⟨a1, x1, rfl⟩ := hh.len
          obtain ⟨m, hm⟩ : ∃ m, m = X.length := ⟨_, rfl⟩
          rw [← hm] at c0 hxm
          have HM := Lib.hid hm
          have HCW := Lib.hid (show ∀ w9, Below w.heap.size w w9 → w9.cell? ⟨b0, off0 + i * 2, none⟩ = some (.slice a1 m x1) from fun w9 h => (h.cell (p := ⟨b0, off0 + i * 2, none⟩) hb0).trans c0)
          have c0 := HCW.out wr HBW.out
          have c1 := (HBW.out.cell (p := ⟨b0, off0 + i * 2 + 1, none⟩) hb0).trans c1
          have HLO := Lib.hid (show ∀ b, ov.ownBlock = some b → w.heap.size ≤ b ∧ b < wr.heap.size from hown.lt)
          obtain ⟨gb, hgb⟩ : ∃ gb, gb = wr.heap.size := ⟨_, rfl⟩
          rw [← hgb] at HLO
          obtain ⟨W1, hW1⟩ : ∃ W1, W1 = wr.alloc (.cells #[.slice a1 m x1, .bool wb] 104) := ⟨_, rfl⟩
          have hb1 : Below wr.heap.size wr W1 := by rw [hW1]; exact (Below.refl _ _).alloc (Nat.le_refl _) _
          have HO1 := Lib.hid (show OwnE lineE (fun b => (Z b ∨ w.heap.size ≤ b) ∧ b < gb) W1 w.heap.size 104 ov (moveP Ls f t q true i) from (hown.zone (fun b hb hz => ⟨hz, by rw [hgb]; exact hb⟩)).below hb1)
          have HGB := Lib.hid hgb
          have HGB2 := Lib.hid (show w.heap.size ≤ gb from by rw [hgb]; exact HBW.out.size)
          have HH := Lib.hid (show Has W1 gb [.slice a1 m x1, .bool wb] 104 by rw [hW1, hgb]; exact Has.new wr _ _)
          have HB1 := Lib.hid (HBW.out.trans (hb1.mono HBW.out.size))
          have HV1 := Lib.hid (show HeldE cellE (fun b => (Z b ∨ w.heap.size ≤ b) ∧ b ≠ gb ∧ ov.ownBlock ≠ some b) W1 (.slice a1 m x1) X from by rw [hm]; exact (hh.below HB1.out).zone (fun b _ hz => ⟨.inl hz, fun e => by have := HZ.out b hz; have := HGB2.out; omega, fun e => by have := HZ.out b hz; have := (HLO.out b e).1; omega⟩))
          have HNX := Lib.hid (moveP_succ Ls f t q true i)
          have HLN := Lib.hid (moveP_len Ls f t q true i)
          obtain ⟨MP, hMP⟩ : ∃ MP, MP = moveP Ls f t q true i := ⟨_, rfl⟩
          rw [← hMP] at HO1 HNX HLN
          clear hown hh hX hm hb1 hgb hb0 hz0 hMP
          go_upto_region 11 with (fail)
          go_upto_region 12 with (fail)
          rw [← HGB.out, ← hW1]
          clear hW1 c0 c1
          have t1 : decide ((f : Int) ≤ i) = false := by rw [decide_eq_false_iff_not]; omega
          have t1n : decide (f ≤ i) = false := by rw [decide_eq_false_iff_not]; omega
          go_upto_region 19 with (fail)
          obtain ⟨Wm, hWm⟩ : ∃ Wm, Wm = W1 := ⟨_, rfl⟩
          obtain ⟨VV, hVV⟩ : ∃ VV, VV = Value.slice a1 m x1 := ⟨_, rfl⟩
          obtain ⟨VL, hVL⟩ : ∃ VL, VL = X := ⟨_, rfl⟩
          obtain ⟨wm_, hwm⟩ : ∃ wm_, wm_ = wb := ⟨_, rfl⟩
          have HBOX := Lib.hid (show Has Wm gb [VV, .bool wm_] 104 from by rw [hWm, hVV, hwm]; exact HH.out)
          have HVM := Lib.hid (show HeldE cellE (fun b => (Z b ∨ w.heap.size ≤ b) ∧ b ≠ gb ∧ ov.ownBlock ≠ some b) Wm VV VL from by rw [hWm, hVV, hVL]; exact HV1.out)
          have HOM := Lib.hid (show OwnE lineE (fun b => (Z b ∨ w.heap.size ≤ b) ∧ b < gb) Wm w.heap.size 104 ov MP from by rw [hWm]; exact HO1.out)
          have HBM := Lib.hid (show Below w.heap.size w Wm from by rw [hWm]; exact HB1.out)
          rw [← hWm]
          have OFFN : ¬ (i + 1 = f ∨ (true = false ∧ i + 1 = t)) := by rintro (e | ⟨e, e2⟩) <;> first | omega | exact absurd e (by decide)
          have HENT := Lib.hid (show entM Ls f t q true i = (VL, wm_) from by
            unfold entM srcM
            rw [if_neg (show ¬ (f ≤ i ∧ i < t) by omega), ← HXE.out, hVL, if_neg OFFN, hwm])
          clear hVV hVL hwm hWm
          clear OFFN
          have s1 : (((i : Nat) : Int) + 1 == (f : Int)) = false := by rw [beq_eq_false_iff_ne]; omega
          have s1n : (i + 1 == f) = false := by rw [beq_eq_false_iff_ne]; omega
          go_upto_region 21 with (fail)
          have HBX5 := HBOX
          have HV5 := HVM
          have HO5 := HOM
          have HB5 := HBM
          have q0 := HBX5.out.cell 0 _ rfl
          have q1 := HBX5.out.cell 1 _ rfl
          have HLO5 := Lib.hid HO5.out.lt
          have hb6 : Below Wm.heap.size Wm (Wm.alloc (.cells [VV, .bool wm_].toArray 104)) := (Below.refl _ _).alloc (Nat.le_refl _) _
          have HX := Lib.hid (show HeldE lineE (fun b => (Z b ∨ w.heap.size ≤ b) ∧ ov.ownBlock ≠ some b) (Wm.alloc (.cells [VV, .bool wm_].toArray 104)) (.slice (some ⟨Wm.heap.size, 0, none⟩) 1 1) [entM Ls f t q true i] from by
            rw [HENT.out]
            exact heldE_one (Y := fun b => (Z b ∨ w.heap.size ≤ b) ∧ b ≠ gb ∧ ov.ownBlock ≠ some b) [VV, .bool wm_] (VL, wm_) (line_rep.2 ⟨_, rfl, HV5.out⟩) (fun b _ h => ⟨h.1, h.2.2⟩) ⟨.inr HB5.out.size, fun e => by have := (HLO5.out _ e).2; omega⟩)
          have HO6 := Lib.hid ((HO5.out.zone (Y := fun b => Z b ∨ w.heap.size ≤ b) (fun b _ h => h.1)).below hb6)
          have HB6 := Lib.hid (HB5.out.trans (hb6.mono HB5.out.size))
          clear hb6
          obtain ⟨av, cv, hav⟩ := HV5.out.len
          subst hav
          go_wp2_with (at_builtin; refine wpList_append_e (E := lineE) (Z := fun b => Z b ∨ w.heap.size ≤ b) rfl (.tmp 99) (.tmp 101) 22 rfl (.agg #[.slice none 0 0, .bool false]) 32 Tryz.underlying22 info_line rfl (by decide) rfl rfl HO6.out HX.out (by rw [HLN.out]; simp only [List.length_singleton]; omega) (by rw [HLN.out]; simp only [List.length_singleton]; omega) HB6.out.size ?_)
          intro v9 w9 ho9 hb9 _ _
          rw [← HNX.out] at ho9
          have H2 := Lib.hid ho9
          have H3 := Lib.hid (HB6.out.trans hb9)
          clear ho9 hb9 q0 q1
          go_wp2
          go_roundw
          case rel => exact ⟨i + 1, by omega, by go_num, H2.out, H3.out⟩
          case measure => simp [intOf] <;> omega
      · by_cases hw3 : i < t
        · by_cases hw4 : i + q < t
          · obtain ⟨lv, hb0, hz0, c0, c1, hh⟩ := HC.out i hlt
            have hxm := HLW.out i hlt
            obtain ⟨⟨X, wb⟩, hX⟩ : ∃ y, y = Ls.getD i zl := ⟨_, rfl⟩
            rw [← hX] at c1 hh hxm
            simp only at c1 hh hxm
            have HXE := Lib.hid hX
            obtain ⟨a1, x1, rfl⟩ := hh.len
            obtain ⟨m, hm⟩ : ∃ m, m = X.length := ⟨_, rfl⟩
            rw [← hm] at c0 hxm
            have HM := Lib.hid hm
            have HCW := Lib.hid (show ∀ w9, Below w.heap.size w w9 → w9.cell? ⟨b0, off0 + i * 2, none⟩ = some (.slice a1 m x1) from fun w9 h => (h.cell (p := ⟨b0, off0 + i * 2, none⟩) hb0).trans c0)
            have c0 := HCW.out wr HBW.out
            have c1 := (HBW.out.cell (p := ⟨b0, off0 + i * 2 + 1, none⟩) hb0).trans c1
            have HLO := Lib.hid (show ∀ b, ov.ownBlock = some b → w.heap.size ≤ b ∧ b < wr.heap.size from hown.lt)
            obtain ⟨gb, hgb⟩ : ∃ gb, gb = wr.heap.size := ⟨_, rfl⟩
            rw [← hgb] at HLO
            obtain ⟨W1, hW1⟩ : ∃ W1, W1 = wr.alloc (.cells #[.slice a1 m x1, .bool wb] 104) := ⟨_, rfl⟩
            have hb1 : Below wr.heap.size wr W1 := by rw [hW1]; exact (Below.refl _ _).alloc (Nat.le_refl _) _
            have HO1 := Lib.hid (show OwnE lineE (fun b => (Z b ∨ w.heap.size ≤ b) ∧ b < gb) W1 w.heap.size 104 ov (moveP Ls f t q true i) from (hown.zone (fun b hb hz => ⟨hz, by rw [hgb]; exact hb⟩)).below hb1)
            have HGB := Lib.hid hgb
            have HGB2 := Lib.hid (show w.heap.size ≤ gb from by rw [hgb]; exact HBW.out.size)
            have HH := Lib.hid (show Has W1 gb [.slice a1 m x1, .bool wb] 104 by rw [hW1, hgb]; exact Has.new wr _ _)
            have HB1 := Lib.hid (HBW.out.trans (hb1.mono HBW.out.size))
            have HV1 := Lib.hid (show HeldE cellE (fun b => (Z b ∨ w.heap.size ≤ b) ∧ b ≠ gb ∧ ov.ownBlock ≠ some b) W1 (.slice a1 m x1) X from by rw [hm]; exact (hh.below HB1.out).zone (fun b _ hz => ⟨.inl hz, fun e => by have := HZ.out b hz; have := HGB2.out; omega, fun e => by have := HZ.out b hz; have := (HLO.out b e).1; omega⟩))
            have HNX := Lib.hid (moveP_succ Ls f t q true i)
            have HLN := Lib.hid (moveP_len Ls f t q true i)
            obtain ⟨MP, hMP⟩ : ∃ MP, MP = moveP Ls f t q true i := ⟨_, rfl⟩
            rw [← hMP] at HO1 HNX HLN
            clear hown hh hX hm hb1 hgb hb0 hz0 hMP
            go_upto_region 11 with (fail)
            go_upto_region 12 with (fail)
            rw [← HGB.out, ← hW1]
            clear hW1 c0 c1
            have t1 : decide ((f : Int) ≤ i) = true := by rw [decide_eq_true_eq]; omega
            have t1n : decide (f ≤ i) = true := by rw [decide_eq_true_eq]; omega
            have t2 : decide ((i : Int) < t) = true := by rw [decide_eq_true_eq]; omega
            have t2n : decide (i < t) = true := by rw [decide_eq_true_eq]; omega
            obtain ⟨K, hK⟩ : ∃ K, K = i + q := ⟨_, rfl⟩
            have hk1 : IntKind.i64.wrap ((i : Int) + q) = (K : Int) := by rw [IntKind.wrap_i64]; omega
            have hk2 : (i : Int) + q = (K : Int) := by omega
            have t3 : decide ((f : Int) ≤ K) = true := by rw [decide_eq_true_eq]; omega
            have t3n : decide (f ≤ K) = true := by rw [decide_eq_true_eq]; omega
            have t4 : decide ((K : Int) < t) = true := by rw [decide_eq_true_eq]; omega
            have t4n : decide (K < t) = true := by rw [decide_eq_true_eq]; omega
            have c0 := HCW.out W1 HB1.out
            go_upto_region 16 with (fail)
            have HKQ := Lib.hid hK
            clear hK
            go_wp2_with (at_make; refine wpList_make_full W1 rfl (.tmp 69) (.tmp 69) 102 rfl w.heap.size 147 i0 (.agg #[.int .i64 0, .slice none 0 0]) 2 Tryz.underlying102 HI.out.1 HI.out.2.1 HI.out.2.2.1 .i64 .i64 _ _ m rfl rfl rfl rfl (by rw [HI.out.2.2.2]; omega) (by unfold maxLen; omega) HB1.out.size ?_)
            intro w2 hown2 hg2
            have hb2 : Below W1.heap.size W1 w2 := (Below.refl _ _).grown hg2 (Nat.le_refl _) (by intro k hk; cases hk)
            obtain ⟨g2, hg2v⟩ : ∃ g2, g2 = W1.heap.size := ⟨_, rfl⟩
            rw [← hg2v] at hown2 ⊢
            have HG2 := Lib.hid (show w.heap.size ≤ g2 ∧ gb < g2 from ⟨by rw [hg2v]; exact HB1.out.size, by rw [hg2v]; exact HH.out.lt⟩)
            have HBLK := Lib.hid (blank_held hown2)
            have HBV := Lib.hid hb2
            have HH2 := Lib.hid (HH.out.below hb2 HH.out.lt)
            have HB2 := Lib.hid (HB1.out.trans (hb2.mono HB1.out.size))
            have HO2 := Lib.hid (HO1.out.below hb2)
            clear hown2 hg2 hb2 c0 hg2v
            go_wp2_with (refine wpList_store_has rfl 104 (.tmp 14) (.tmp 71) rfl gb rfl 104 [.slice a1 m x1, .bool wb] [.slice (some ⟨g2, 0, none⟩) m m, .bool false] 2 rfl HH2.out info_line2 rfl rfl (by intro u hu; simp at hu; rcases hu with rfl | rfl <;> rfl) ?_)
            intro w3 hh3 hb3
            have u3 : Upd (fun b => b = gb) w2 w3 := .ofBut hb3
            have HH3 := Lib.hid hh3
            have HB3 := Lib.hid (HB2.out.upd u3 HB2.out.size (fun b e => by subst e; exact HGB2.out))
            have HO3 := Lib.hid (HO2.out.upd u3 (fun b hz => by rcases hz with hz | hz; exact Nat.ne_of_lt hz.2; exact Nat.ne_of_lt (HLO.out b hz).2))
            have HBL3 := Lib.hid (HBLK.out.upd u3 (fun b hz => by have := HG2.out; omega))
            clear hh3 hb3 u3
            go_upto_region 18 with (fail)
            have hKn : K < n := by have := HKQ.out; have := HTN.out; omega
            obtain ⟨kv, hbk, hzk, d0, d1, hhk⟩ := HC.out K hKn
            obtain ⟨⟨XK, wk⟩, hXK⟩ : ∃ y, y = Ls.getD K zl := ⟨_, rfl⟩
            rw [← hXK] at d1 hhk
            simp only at d1 hhk
            have HKE := Lib.hid (show (XK, wk) = Ls.getD (i + q) zl from by rw [hXK, HKQ.out])
            obtain ⟨ak, xk, rfl⟩ := hhk.len
            obtain ⟨mk, hmk⟩ : ∃ mk, mk = XK.length := ⟨_, rfl⟩
            rw [← hmk] at d0
            have d0 := (HB3.out.cell (p := ⟨b0, off0 + K * 2, none⟩) hbk).trans d0
            have d1 := (HB3.out.cell (p := ⟨b0, off0 + K * 2 + 1, none⟩) hbk).trans d1
            have HVK := Lib.hid (show HeldE cellE Z w (.slice ak mk xk) XK from by rw [hmk]; exact hhk)
            clear hXK hmk hhk hbk hzk
            go_wp2_with (refine wpList_store_has rfl 104 (.tmp 14) (.tmp 83) rfl gb rfl 104 [.slice (some ⟨g2, 0, none⟩) m m, .bool false] [.slice ak mk xk, .bool wk] 2 rfl HH3.out info_line2 rfl rfl (by intro u hu; simp at hu; rcases hu with rfl | rfl <;> rfl) ?_)
            intro w4 hh4 hb4
            have u4 : Upd (fun b => b = gb) w3 w4 := .ofBut hb4
            have HH4 := Lib.hid hh4
            have HB4 := Lib.hid (HB3.out.upd u4 HB3.out.size (fun b e => by subst e; exact HGB2.out))
            have HO4 := Lib.hid (HO3.out.upd u4 (fun b hz => by rcases hz with hz | hz; exact Nat.ne_of_lt hz.2; exact Nat.ne_of_lt (HLO.out b hz).2))
            have HV4 := Lib.hid (HVK.out.below HB4.out)
            clear hh4 hb4 u4 d0 d1
            go_upto_region 19 with (fail)
            obtain ⟨Wm, hWm⟩ : ∃ Wm, Wm = w4 := ⟨_, rfl⟩
            obtain ⟨VV, hVV⟩ : ∃ VV, VV = Value.slice ak mk xk := ⟨_, rfl⟩
            obtain ⟨VL, hVL⟩ : ∃ VL, VL = XK := ⟨_, rfl⟩
            obtain ⟨wm_, hwm⟩ : ∃ wm_, wm_ = wk := ⟨_, rfl⟩
            have HBOX := Lib.hid (show Has Wm gb [VV, .bool wm_] 104 from by rw [hWm, hVV, hwm]; exact HH4.out)
            have HVM := Lib.hid (show HeldE cellE (fun b => (Z b ∨ w.heap.size ≤ b) ∧ b ≠ gb ∧ ov.ownBlock ≠ some b) Wm VV VL from by rw [hWm, hVV, hVL]; exact HV4.out.zone (fun b _ hz => ⟨.inl hz, fun e => by have := HZ.out b hz; have := HGB2.out; omega, fun e => by have := HZ.out b hz; have := (HLO.out b e).1; omega⟩))
            have HOM := Lib.hid (show OwnE lineE (fun b => (Z b ∨ w.heap.size ≤ b) ∧ b < gb) Wm w.heap.size 104 ov MP from by rw [hWm]; exact HO4.out)
            have HBM := Lib.hid (show Below w.heap.size w Wm from by rw [hWm]; exact HB4.out)
            rw [← hWm]
            have OFFN : ¬ (i + 1 = f ∨ (true = false ∧ i + 1 = t)) := by rintro (e | ⟨e, e2⟩) <;> first | omega | exact absurd e (by decide)
            have HENT := Lib.hid (show entM Ls f t q true i = (VL, wm_) from by
              unfold entM srcM
              rw [if_pos (show f ≤ i ∧ i < t from ⟨by omega, by omega⟩), if_pos rfl, if_pos (show i + q < t by omega)]
              rw [← HKE.out, hVL, if_neg OFFN, hwm])
            clear hVV hVL hwm hWm
            clear OFFN
            have s1 : (((i : Nat) : Int) + 1 == (f : Int)) = false := by rw [beq_eq_false_iff_ne]; omega
            have s1n : (i + 1 == f) = false := by rw [beq_eq_false_iff_ne]; omega
            go_upto_region 21 with (fail)
            have HBX5 := HBOX
            have HV5 := HVM
            have HO5 := HOM
            have HB5 := HBM
            have q0 := HBX5.out.cell 0 _ rfl
            have q1 := HBX5.out.cell 1 _ rfl
            have HLO5 := Lib.hid HO5.out.lt
            have hb6 : Below Wm.heap.size Wm (Wm.alloc (.cells [VV, .bool wm_].toArray 104)) := (Below.refl _ _).alloc (Nat.le_refl _) _
            have HX := Lib.hid (show HeldE lineE (fun b => (Z b ∨ w.heap.size ≤ b) ∧ ov.ownBlock ≠ some b) (Wm.alloc (.cells [VV, .bool wm_].toArray 104)) (.slice (some ⟨Wm.heap.size, 0, none⟩) 1 1) [entM Ls f t q true i] from by
              rw [HENT.out]
              exact heldE_one (Y := fun b => (Z b ∨ w.heap.size ≤ b) ∧ b ≠ gb ∧ ov.ownBlock ≠ some b) [VV, .bool wm_] (VL, wm_) (line_rep.2 ⟨_, rfl, HV5.out⟩) (fun b _ h => ⟨h.1, h.2.2⟩) ⟨.inr HB5.out.size, fun e => by have := (HLO5.out _ e).2; omega⟩)
            have HO6 := Lib.hid ((HO5.out.zone (Y := fun b => Z b ∨ w.heap.size ≤ b) (fun b _ h => h.1)).below hb6)
            have HB6 := Lib.hid (HB5.out.trans (hb6.mono HB5.out.size))
            clear hb6
            obtain ⟨av, cv, hav⟩ := HV5.out.len
            subst hav
            go_wp2_with (at_builtin; refine wpList_append_e (E := lineE) (Z := fun b => Z b ∨ w.heap.size ≤ b) rfl (.tmp 99) (.tmp 101) 22 rfl (.agg #[.slice none 0 0, .bool false]) 32 Tryz.underlying22 info_line rfl (by decide) rfl rfl HO6.out HX.out (by rw [HLN.out]; simp only [List.length_singleton]; omega) (by rw [HLN.out]; simp only [List.length_singleton]; omega) HB6.out.size ?_)
            intro v9 w9 ho9 hb9 _ _
            rw [← HNX.out] at ho9
            have H2 := Lib.hid ho9
            have H3 := Lib.hid (HB6.out.trans hb9)
            clear ho9 hb9 q0 q1
            go_wp2
            go_roundw
            case rel => exact ⟨i + 1, by omega, by go_num, H2.out, H3.out⟩
            case measure => simp [intOf] <;> omega
          · obtain ⟨lv, hb0, hz0, c0, c1, hh⟩ := HC.out i hlt
            have hxm := HLW.out i hlt
            obtain ⟨⟨X, wb⟩, hX⟩ : ∃ y, y = Ls.getD i zl := ⟨_, rfl⟩
            rw [← hX] at c1 hh hxm
            simp only at c1 hh hxm
            have HXE := Lib.hid hX
            obtain ⟨a1, x1, rfl⟩ := hh.len
            obtain ⟨m, hm⟩ : ∃ m, m = X.length := ⟨_, rfl⟩
            rw [← hm] at c0 hxm
            have HM := Lib.hid hm
            have HCW := Lib.hid (show ∀ w9, Below w.heap.size w w9 → w9.cell? ⟨b0, off0 + i * 2, none⟩ = some (.slice a1 m x1) from fun w9 h => (h.cell (p := ⟨b0, off0 + i * 2, none⟩) hb0).trans c0)
            have c0 := HCW.out wr HBW.out
            have c1 := (HBW.out.cell (p := ⟨b0, off0 + i * 2 + 1, none⟩) hb0).trans c1
            have HLO := Lib.hid (show ∀ b, ov.ownBlock = some b → w.heap.size ≤ b ∧ b < wr.heap.size from hown.lt)
            obtain ⟨gb, hgb⟩ : ∃ gb, gb = wr.heap.size := ⟨_, rfl⟩
            rw [← hgb] at HLO
            obtain ⟨W1, hW1⟩ : ∃ W1, W1 = wr.alloc (.cells #[.slice a1 m x1, .bool wb] 104) := ⟨_, rfl⟩
            have hb1 : Below wr.heap.size wr W1 := by rw [hW1]; exact (Below.refl _ _).alloc (Nat.le_refl _) _
            have HO1 := Lib.hid (show OwnE lineE (fun b => (Z b ∨ w.heap.size ≤ b) ∧ b < gb) W1 w.heap.size 104 ov (moveP Ls f t q true i) from (hown.zone (fun b hb hz => ⟨hz, by rw [hgb]; exact hb⟩)).below hb1)
            have HGB := Lib.hid hgb
            have HGB2 := Lib.hid (show w.heap.size ≤ gb from by rw [hgb]; exact HBW.out.size)
            have HH := Lib.hid (show Has W1 gb [.slice a1 m x1, .bool wb] 104 by rw [hW1, hgb]; exact Has.new wr _ _)
            have HB1 := Lib.hid (HBW.out.trans (hb1.mono HBW.out.size))
            have HV1 := Lib.hid (show HeldE cellE (fun b => (Z b ∨ w.heap.size ≤ b) ∧ b ≠ gb ∧ ov.ownBlock ≠ some b) W1 (.slice a1 m x1) X from by rw [hm]; exact (hh.below HB1.out).zone (fun b _ hz => ⟨.inl hz, fun e => by have := HZ.out b hz; have := HGB2.out; omega, fun e => by have := HZ.out b hz; have := (HLO.out b e).1; omega⟩))
            have HNX := Lib.hid (moveP_succ Ls f t q true i)
            have HLN := Lib.hid (moveP_len Ls f t q true i)
            obtain ⟨MP, hMP⟩ : ∃ MP, MP = moveP Ls f t q true i := ⟨_, rfl⟩
            rw [← hMP] at HO1 HNX HLN
            clear hown hh hX hm hb1 hgb hb0 hz0 hMP
            go_upto_region 11 with (fail)
            go_upto_region 12 with (fail)
            rw [← HGB.out, ← hW1]
            clear hW1 c0 c1
            have t1 : decide ((f : Int) ≤ i) = true := by rw [decide_eq_true_eq]; omega
            have t1n : decide (f ≤ i) = true := by rw [decide_eq_true_eq]; omega
            have t2 : decide ((i : Int) < t) = true := by rw [decide_eq_true_eq]; omega
            have t2n : decide (i < t) = true := by rw [decide_eq_true_eq]; omega
            obtain ⟨K, hK⟩ : ∃ K, K = i + q := ⟨_, rfl⟩
            have hk1 : IntKind.i64.wrap ((i : Int) + q) = (K : Int) := by rw [IntKind.wrap_i64]; omega
            have hk2 : (i : Int) + q = (K : Int) := by omega
            have t3 : decide ((f : Int) ≤ K) = true := by rw [decide_eq_true_eq]; omega
            have t3n : decide (f ≤ K) = true := by rw [decide_eq_true_eq]; omega
            have t4 : decide ((K : Int) < t) = false := by rw [decide_eq_false_iff_not]; omega
            have t4n : decide (K < t) = false := by rw [decide_eq_false_iff_not]; omega
            have c0 := HCW.out W1 HB1.out
            go_upto_region 16 with (fail)
            have HKQ := Lib.hid hK
            clear hK
            go_wp2_with (at_make; refine wpList_make_full W1 rfl (.tmp 69) (.tmp 69) 102 rfl w.heap.size 147 i0 (.agg #[.int .i64 0, .slice none 0 0]) 2 Tryz.underlying102 HI.out.1 HI.out.2.1 HI.out.2.2.1 .i64 .i64 _ _ m rfl rfl rfl rfl (by rw [HI.out.2.2.2]; omega) (by unfold maxLen; omega) HB1.out.size ?_)
            intro w2 hown2 hg2
            have hb2 : Below W1.heap.size W1 w2 := (Below.refl _ _).grown hg2 (Nat.le_refl _) (by intro k hk; cases hk)
            obtain ⟨g2, hg2v⟩ : ∃ g2, g2 = W1.heap.size := ⟨_, rfl⟩
            rw [← hg2v] at hown2 ⊢
            have HG2 := Lib.hid (show w.heap.size ≤ g2 ∧ gb < g2 from ⟨by rw [hg2v]; exact HB1.out.size, by rw [hg2v]; exact HH.out.lt⟩)
            have HBLK := Lib.hid (blank_held hown2)
            have HBV := Lib.hid hb2
            have HH2 := Lib.hid (HH.out.below hb2 HH.out.lt)
            have HB2 := Lib.hid (HB1.out.trans (hb2.mono HB1.out.size))
            have HO2 := Lib.hid (HO1.out.below hb2)
            clear hown2 hg2 hb2 c0 hg2v
            go_wp2_with (refine wpList_store_has rfl 104 (.tmp 14) (.tmp 71) rfl gb rfl 104 [.slice a1 m x1, .bool wb] [.slice (some ⟨g2, 0, none⟩) m m, .bool false] 2 rfl HH2.out info_line2 rfl rfl (by intro u hu; simp at hu; rcases hu with rfl | rfl <;> rfl) ?_)
            intro w3 hh3 hb3
            have u3 : Upd (fun b => b = gb) w2 w3 := .ofBut hb3
            have HH3 := Lib.hid hh3
            have HB3 := Lib.hid (HB2.out.upd u3 HB2.out.size (fun b e => by subst e; exact HGB2.out))
            have HO3 := Lib.hid (HO2.out.upd u3 (fun b hz => by rcases hz with hz | hz; exact Nat.ne_of_lt hz.2; exact Nat.ne_of_lt (HLO.out b hz).2))
            have HBL3 := Lib.hid (HBLK.out.upd u3 (fun b hz => by have := HG2.out; omega))
            clear hh3 hb3 u3
            go_upto_region 19 with (fail)
            obtain ⟨Wm, hWm⟩ : ∃ Wm, Wm = w3 := ⟨_, rfl⟩
            obtain ⟨VV, hVV⟩ : ∃ VV, VV = Value.slice (some ⟨g2, 0, none⟩) m m := ⟨_, rfl⟩
            obtain ⟨VL, hVL⟩ : ∃ VL, VL = List.replicate m zc := ⟨_, rfl⟩
            obtain ⟨wm_, hwm⟩ : ∃ wm_, wm_ = false := ⟨_, rfl⟩
            have HBOX := Lib.hid (show Has Wm gb [VV, .bool wm_] 104 from by rw [hWm, hVV, hwm]; exact HH3.out)
            have HVM := Lib.hid (show HeldE cellE (fun b => (Z b ∨ w.heap.size ≤ b) ∧ b ≠ gb ∧ ov.ownBlock ≠ some b) Wm VV VL from by rw [hWm, hVV, hVL]; exact HBL3.out.zone (fun b _ hz => by have := HG2.out; subst hz; exact ⟨.inr this.1, by omega, fun e => by have := (HLO.out _ e).2; omega⟩))
            have HOM := Lib.hid (show OwnE lineE (fun b => (Z b ∨ w.heap.size ≤ b) ∧ b < gb) Wm w.heap.size 104 ov MP from by rw [hWm]; exact HO3.out)
            have HBM := Lib.hid (show Below w.heap.size w Wm from by rw [hWm]; exact HB3.out)
            rw [← hWm]
            have OFFN : ¬ (i + 1 = f ∨ (true = false ∧ i + 1 = t)) := by rintro (e | ⟨e, e2⟩) <;> first | omega | exact absurd e (by decide)
            have HENT := Lib.hid (show entM Ls f t q true i = (VL, wm_) from by
              unfold entM srcM
              rw [if_pos (show f ≤ i ∧ i < t from ⟨by omega, by omega⟩), if_pos rfl, if_neg (show ¬ i + q < t by omega)]
              rw [← HXE.out, hVL, if_neg OFFN, hwm, HM.out])
            clear hVV hVL hwm hWm
            clear OFFN
            have s1 : (((i : Nat) : Int) + 1 == (f : Int)) = false := by rw [beq_eq_false_iff_ne]; omega
            have s1n : (i + 1 == f) = false := by rw [beq_eq_false_iff_ne]; omega
            go_upto_region 21 with (fail)
            have HBX5 := HBOX
            have HV5 := HVM
            have HO5 := HOM
            have HB5 := HBM
            have q0 := HBX5.out.cell 0 _ rfl
            have q1 := HBX5.out.cell 1 _ rfl
            have HLO5 := Lib.hid HO5.out.lt
            have hb6 : Below Wm.heap.size Wm (Wm.alloc (.cells [VV, .bool wm_].toArray 104)) := (Below.refl _ _).alloc (Nat.le_refl _) _
            have HX := Lib.hid (show HeldE lineE (fun b => (Z b ∨ w.heap.size ≤ b) ∧ ov.ownBlock ≠ some b) (Wm.alloc (.cells [VV, .bool wm_].toArray 104)) (.slice (some ⟨Wm.heap.size, 0, none⟩) 1 1) [entM Ls f t q true i] from by
              rw [HENT.out]
              exact heldE_one (Y := fun b => (Z b ∨ w.heap.size ≤ b) ∧ b ≠ gb ∧ ov.ownBlock ≠ some b) [VV, .bool wm_] (VL, wm_) (line_rep.2 ⟨_, rfl, HV5.out⟩) (fun b _ h => ⟨h.1, h.2.2⟩) ⟨.inr HB5.out.size, fun e => by have := (HLO5.out _ e).2; omega⟩)
            have HO6 := Lib.hid ((HO5.out.zone (Y := fun b => Z b ∨ w.heap.size ≤ b) (fun b _ h => h.1)).below hb6)
            have HB6 := Lib.hid (HB5.out.trans (hb6.mono HB5.out.size))
            clear hb6
            obtain ⟨av, cv, hav⟩ := HV5.out.len
            subst hav
            go_wp2_with (at_builtin; refine wpList_append_e (E := lineE) (Z := fun b => Z b ∨ w.heap.size ≤ b) rfl (.tmp 99) (.tmp 101) 22 rfl (.agg #[.slice none 0 0, .bool false]) 32 Tryz.underlying22 info_line rfl (by decide) rfl rfl HO6.out HX.out (by rw [HLN.out]; simp only [List.length_singleton]; omega) (by rw [HLN.out]; simp only [List.length_singleton]; omega) HB6.out.size ?_)
            intro v9 w9 ho9 hb9 _ _
            rw [← HNX.out] at ho9
            have H2 := Lib.hid ho9
            have H3 := Lib.hid (HB6.out.trans hb9)
            clear ho9 hb9 q0 q1
            go_wp2
            go_roundw
            case rel => exact ⟨i + 1, by omega, by go_num, H2.out, H3.out⟩
            case measure => simp [intOf] <;> omega
        · obtain ⟨lv, hb0, hz0, c0, c1, hh⟩ := HC.out i hlt
          have hxm := HLW.out i hlt
          obtain ⟨⟨X, wb⟩, hX⟩ : ∃ y, y = Ls.getD i zl := ⟨_, rfl⟩
          rw [← hX] at c1 hh hxm
          simp only at c1 hh hxm
          have HXE := Lib.hid hX
          obtain ⟨a1, x1, rfl⟩ := hh.len
          obtain ⟨m, hm⟩ : ∃ m, m = X.length := ⟨_, rfl⟩
          rw [← hm] at c0 hxm
          have HM := Lib.hid hm
          have HCW := Lib.hid (show ∀ w9, Below w.heap.size w w9 → w9.cell? ⟨b0, off0 + i * 2, none⟩ = some (.slice a1 m x1) from fun w9 h => (h.cell (p := ⟨b0, off0 + i * 2, none⟩) hb0).trans c0)
          have c0 := HCW.out wr HBW.out
          have c1 := (HBW.out.cell (p := ⟨b0, off0 + i * 2 + 1, none⟩) hb0).trans c1
          have HLO := Lib.hid (show ∀ b, ov.ownBlock = some b → w.heap.size ≤ b ∧ b < wr.heap.size from hown.lt)
          obtain ⟨gb, hgb⟩ : ∃ gb, gb = wr.heap.size := ⟨_, rfl⟩
          rw [← hgb] at HLO
          obtain ⟨W1, hW1⟩ : ∃ W1, W1 = wr.alloc (.cells #[.slice a1 m x1, .bool wb] 104) := ⟨_, rfl⟩
          have hb1 : Below wr.heap.size wr W1 := by rw [hW1]; exact (Below.refl _ _).alloc (Nat.le_refl _) _
          have HO1 := Lib.hid (show OwnE lineE (fun b => (Z b ∨ w.heap.size ≤ b) ∧ b < gb) W1 w.heap.size 104 ov (moveP Ls f t q true i) from (hown.zone (fun b hb hz => ⟨hz, by rw [hgb]; exact hb⟩)).below hb1)
          have HGB := Lib.hid hgb
          have HGB2 := Lib.hid (show w.heap.size ≤ gb from by rw [hgb]; exact HBW.out.size)
          have HH := Lib.hid (show Has W1 gb [.slice a1 m x1, .bool wb] 104 by rw [hW1, hgb]; exact Has.new wr _ _)
          have HB1 := Lib.hid (HBW.out.trans (hb1.mono HBW.out.size))
          have HV1 := Lib.hid (show HeldE cellE (fun b => (Z b ∨ w.heap.size ≤ b) ∧ b ≠ gb ∧ ov.ownBlock ≠ some b) W1 (.slice a1 m x1) X from by rw [hm]; exact (hh.below HB1.out).zone (fun b _ hz => ⟨.inl hz, fun e => by have := HZ.out b hz; have := HGB2.out; omega, fun e => by have := HZ.out b hz; have := (HLO.out b e).1; omega⟩))
          have HNX := Lib.hid (moveP_succ Ls f t q true i)
          have HLN := Lib.hid (moveP_len Ls f t q true i)
          obtain ⟨MP, hMP⟩ : ∃ MP, MP = moveP Ls f t q true i := ⟨_, rfl⟩
          rw [← hMP] at HO1 HNX HLN
          clear hown hh hX hm hb1 hgb hb0 hz0 hMP
          go_upto_region 11 with (fail)
          go_upto_region 12 with (fail)
          rw [← HGB.out, ← hW1]
          clear hW1 c0 c1
          have t1 : decide ((f : Int) ≤ i) = true := by rw [decide_eq_true_eq]; omega
          have t1n : decide (f ≤ i) = true := by rw [decide_eq_true_eq]; omega
          have t2 : decide ((i : Int) < t) = false := by rw [decide_eq_false_iff_not]; omega
          have t2n : decide (i < t) = false := by rw [decide_eq_false_iff_not]; omega
          go_upto_region 19 with (fail)
          obtain ⟨Wm, hWm⟩ : ∃ Wm, Wm = W1 := ⟨_, rfl⟩
          obtain ⟨VV, hVV⟩ : ∃ VV, VV = Value.slice a1 m x1 := ⟨_, rfl⟩
          obtain ⟨VL, hVL⟩ : ∃ VL, VL = X := ⟨_, rfl⟩
          obtain ⟨wm_, hwm⟩ : ∃ wm_, wm_ = wb := ⟨_, rfl⟩
          have HBOX := Lib.hid (show Has Wm gb [VV, .bool wm_] 104 from by rw [hWm, hVV, hwm]; exact HH.out)
          have HVM := Lib.hid (show HeldE cellE (fun b => (Z b ∨ w.heap.size ≤ b) ∧ b ≠ gb ∧ ov.ownBlock ≠ some b) Wm VV VL from by rw [hWm, hVV, hVL]; exact HV1.out)
          have HOM := Lib.hid (show OwnE lineE (fun b => (Z b ∨ w.heap.size ≤ b) ∧ b < gb) Wm w.heap.size 104 ov MP from by rw [hWm]; exact HO1.out)
          have HBM := Lib.hid (show Below w.heap.size w Wm from by rw [hWm]; exact HB1.out)
          rw [← hWm]
          have OFFN : ¬ (i + 1 = f ∨ (true = false ∧ i + 1 = t)) := by rintro (e | ⟨e, e2⟩) <;> first | omega | exact absurd e (by decide)
          have HENT := Lib.hid (show entM Ls f t q true i = (VL, wm_) from by
            unfold entM srcM
            rw [if_neg (show ¬ (f ≤ i ∧ i < t) by omega), ← HXE.out, hVL, if_neg OFFN, hwm])
          clear hVV hVL hwm hWm
          clear OFFN
          have s1 : (((i : Nat) : Int) + 1 == (f : Int)) = false := by rw [beq_eq_false_iff_ne]; omega
          have s1n : (i + 1 == f) = false := by rw [beq_eq_false_iff_ne]; omega
          go_upto_region 21 with (fail)
          have HBX5 := HBOX
          have HV5 := HVM
          have HO5 := HOM
          have HB5 := HBM
          have q0 := HBX5.out.cell 0 _ rfl
          have q1 := HBX5.out.cell 1 _ rfl
          have HLO5 := Lib.hid HO5.out.lt
          have hb6 : Below Wm.heap.size Wm (Wm.alloc (.cells [VV, .bool wm_].toArray 104)) := (Below.refl _ _).alloc (Nat.le_refl _) _
          have HX := Lib.hid (show HeldE lineE (fun b => (Z b ∨ w.heap.size ≤ b) ∧ ov.ownBlock ≠ some b) (Wm.alloc (.cells [VV, .bool wm_].toArray 104)) (.slice (some ⟨Wm.heap.size, 0, none⟩) 1 1) [entM Ls f t q true i] from by
            rw [HENT.out]
            exact heldE_one (Y := fun b => (Z b ∨ w.heap.size ≤ b) ∧ b ≠ gb ∧ ov.ownBlock ≠ some b) [VV, .bool wm_] (VL, wm_) (line_rep.2 ⟨_, rfl, HV5.out⟩) (fun b _ h => ⟨h.1, h.2.2⟩) ⟨.inr HB5.out.size, fun e => by have := (HLO5.out _ e).2; omega⟩)
          have HO6 := Lib.hid ((HO5.out.zone (Y := fun b => Z b ∨ w.heap.size ≤ b) (fun b _ h => h.1)).below hb6)
          have HB6 := Lib.hid (HB5.out.trans (hb6.mono HB5.out.size))
          clear hb6
          obtain ⟨av, cv, hav⟩ := HV5.out.len
          subst hav
          go_wp2_with (at_builtin; refine wpList_append_e (E := lineE) (Z := fun b => Z b ∨ w.heap.size ≤ b) rfl (.tmp 99) (.tmp 101) 22 rfl (.agg #[.slice none 0 0, .bool false]) 32 Tryz.underlying22 info_line rfl (by decide) rfl rfl HO6.out HX.out (by rw [HLN.out]; simp only [List.length_singleton]; omega) (by rw [HLN.out]; simp only [List.length_singleton]; omega) HB6.out.size ?_)
          intro v9 w9 ho9 hb9 _ _
          rw [← HNX.out] at ho9
          have H2 := Lib.hid ho9
          have H3 := Lib.hid (HB6.out.trans hb9)
          clear ho9 hb9 q0 q1
          go_wp2
          go_roundw
          case rel => exact ⟨i + 1, by omega, by go_num, H2.out, H3.out⟩
          case measure => simp [intOf] <;> omega
    · obtain rfl : i = n := by omega
      have hF := HFIN.out
      rw [hF] at hown
      have HO := Lib.hid hown
      clear hown
      go_wp2
      go_ret
      exact ⟨_, rfl, HO.out, HBW.out⟩
end Go.Proofs.YtoeggiplcaegoaaGreatDoor
