/- The reference's Resize and Split (28). -/
import Derived.Test.YtomfclkldmmmgaaDoorFitB
import Derived.Lib.MinMax
namespace Go.Proofs.YtomfclkldmmmgaaDoor
open Go.RowKit Go.ChangeShapes Go.WideShapes
theorem rsz_at (L : List Cl) (n : Nat) (i : Nat) (hi : i < n) : (rszL L n).getD i zc = if i + 1 = n ∧ (L.getD i zc).1 = 2 ∧ n ≤ L.length then zc else L.getD i zc := by
  unfold rszL
  by_cases h : L.length < n
  · rw [if_pos h, if_neg (by omega), getD_app, getD_repl]
    by_cases h2 : i < L.length
    · rw [if_pos h2]
    · rw [if_neg h2, getD_ge L zc i (by omega)]
  · have hl : (L.take n).length = n := by rw [List.length_take]; omega
    rw [if_neg h, fix_at, getD_take, if_pos hi, hl]
    by_cases h2 : i + 1 = n ∧ (L.getD i zc).1 = 2
    · rw [if_pos h2, if_pos ⟨h2.1, h2.2, by omega⟩]
    · rw [if_neg h2, if_neg (fun h' => h2 ⟨h'.1, h'.2.1⟩)]
/-- The first cells are there. -/
def RszTo (L : List Cl) (N k : Nat) (X : List Cl) : Prop := X.length = N ∧ ∀ i, i < N → X.getD i zc = if i < k then (if i + 1 = N ∧ (L.getD i zc).1 = 2 then zc else L.getD i zc) else zc
set_option maxRecDepth 100000 in
set_option maxHeartbeats 3000000 in
theorem rresize_any (Z : Zone) (v : Value) (L : List Cl) (n : Int) (w : World) (hZ : ∀ b, w.heap.size ≤ b → Z b) (hv : HeldE cellE Z w v L) (hs : soundB L = true) : Calls Tryd.prog 47 #[v, .int .i64 n] w (MadeE cellE Z 27 w (rszL L (rowN n))) := by
  have hvm := hv.max
  have hv := hv.zone (Y := fun b => Z b ∧ b < w.heap.size) (fun b hb hz => ⟨hz, hb⟩)
  obtain ⟨ao, ca, rfl⟩ := hv.len
  obtain ⟨_, _, hcells⟩ := cells_at hv
  have HC := Lib.hid hcells
  have HZ := Lib.hid hZ
  have HSND := Lib.hid ((sound_prop L).1 hs)
  have hmx : max 1 (min n 1024) = (rowN n : Int) := by unfold rowN; omega
  have hn1 : 0 < rowN n := by unfold rowN; omega
  have hn2 : rowN n ≤ 1024 := by unfold rowN; omega
  have HRL := Lib.hid (rsz_len L (rowN n))
  have HAT := Lib.hid (rsz_at L (rowN n))
  obtain ⟨R2, hR2⟩ : ∃ R2, R2 = rszL L (rowN n) := ⟨_, rfl⟩
  have HR3 := Lib.hid hR2
  rw [← hR2] at HRL HAT
  obtain ⟨N, hN⟩ : ∃ N, N = rowN n := ⟨_, rfl⟩
  have HNN := Lib.hid hN
  rw [← hN] at hmx hn1 hn2 HRL HAT
  obtain ⟨i0, hi, hz0, hz1, hz2⟩ := info_parts info_cell
  have HI := Lib.hid (And.intro hi (And.intro hz0 (And.intro hz1 hz2)))
  clear hcells hv hZ hs hN hR2 hi hz0 hz1 hz2
  go_enter Tryd.func47, Tryd.ntmps47
  go_wp2_with (at_make; refine wpList_make_full w rfl (.tmp 10) (.tmp 10) 22 rfl w.heap.size 27 i0 (.agg #[.int .i64 0, .slice none 0 0]) 2 Tryd.underlying22 HI.out.1 HI.out.2.1 HI.out.2.2.1 .i64 .i64 _ _ N rfl rfl rfl rfl (by rw [HI.out.2.2.2]; omega) (by unfold maxLen; omega) (Nat.le_refl _) ?_)
  intro w3 hown3 hg3
  have b3 : Below w.heap.size w w3 := (Below.refl _ _).grown hg3 (Nat.le_refl _) (by intro k hk; cases hk)
  have ho3 := blank_own (Z := Z) hown3
  obtain ⟨go, hgo⟩ : ∃ go, go = w.heap.size := ⟨_, rfl⟩
  have HGO := Lib.hid hgo
  rw [← hgo] at ho3 ⊢
  have HO3 := Lib.hid ho3
  have HB3 := Lib.hid b3
  have HZG := Lib.hid (show ∀ b, Z b ∧ b < w.heap.size → Z b ∧ b ≠ go from fun b h => ⟨h.1, by have := HGO.out; omega⟩)
  clear hown3 hg3 b3 ho3 hgo
  go_wp2
  clear hmx
  go_loopw [6] (fun i wr => ∃ (k : Nat) (X : List Cl), k ≤ N ∧ i = .int .i64 k ∧ OwnE cellE Z wr go 27 (.slice (some ⟨go, 0, none⟩) N N) X ∧ Go.RowKit.Hid (RszTo L N k X) ∧ Below w.heap.size w wr) (fun i _ => N - (intOf i).toNat)
  case atStart =>
    refine ⟨0, List.replicate N zc, Nat.zero_le _, rfl, HO3.out, Lib.hid ⟨by simp, fun i hi => ?_⟩, HB3.out⟩
    rw [if_neg (Nat.not_lt_zero _), getD_repl]
  case round =>
    obtain ⟨k, X, hk, rfl, hown, HX, hbw⟩ := hrel
    have HOW := Lib.hid hown
    have HBW := Lib.hid hbw
    clear hown hbw
    by_cases hkN : k < N
    · have hdN : decide ((k : Int) < (N : Int)) = true := by simp; omega
      by_cases hlt : k < L.length
      · have hdL : decide ((k : Int) < (L.length : Int)) = true := by simp; omega
        obtain ⟨b, off, tv, rfl, hb, _, c0, c1, hh⟩ := HC.out k hlt
        have c0 := (HBW.out.cell (p := ⟨b, off + k * 2, none⟩) hb).trans c0
        have c1 := (HBW.out.cell (p := ⟨b, off + k * 2 + 1, none⟩) hb).trans c1
        have hb1 : b < wr.heap.size := Nat.lt_of_lt_of_le hb HBW.out.size
        have hx := HX.out
        obtain ⟨hx1, hx2⟩ := hx
        have HXL := Lib.hid (show k < X.length by rw [hx1]; exact hkN)
        obtain ⟨⟨K, T⟩, hKT⟩ : ∃ y, y = L.getD k zc := ⟨_, rfl⟩
        rw [← hKT] at c0 hh
        simp only at c0 hh
        have hxl := HXL.out
        have hw2 : IntKind.i64.wrap ((k : Int) + 1) = (k : Int) + 1 := by rw [IntKind.wrap_i64]; omega
        have HSTORE := Lib.hid (show (k + 1 < N ∨ K ≠ 2) → RszTo L N (k + 1) (X.set k (K, T)) from fun h => by
          refine ⟨by rw [List.length_set]; exact hx1, fun i hi => ?_⟩
          rw [getD_set, hx2 i hi]
          by_cases hik : k = i
          · subst hik
            rw [if_pos ⟨rfl, hxl⟩, if_pos (Nat.lt_succ_self _), ← hKT, if_neg (by rintro ⟨h1, h2⟩; rcases h with h | h; omega; exact h h2)]
          · rw [if_neg (fun h' => hik h'.1)]
            by_cases hi2 : i < k
            · rw [if_pos hi2, if_pos (show i < k + 1 by omega)]
            · rw [if_neg hi2, if_neg (show ¬ i < k + 1 by omega)])
        have HSKIP := Lib.hid (show k + 1 = N → K = 2 → RszTo L N (k + 1) X from fun h1 h2 => by
          refine ⟨hx1, fun i hi => ?_⟩
          rw [hx2 i hi]
          by_cases hik : i = k
          · subst hik
            rw [if_neg (Nat.lt_irrefl _), if_pos (Nat.lt_succ_self _), if_pos ⟨h1, by rw [← hKT]; exact h2⟩]
          · by_cases hi2 : i < k
            · rw [if_pos hi2, if_pos (show i < k + 1 by omega)]
            · rw [if_neg hi2, if_neg (show ¬ i < k + 1 by omega)])
        have HHL := Lib.hid ((hh.below HBW.out).zone (Y := fun b => Z b ∧ b ≠ go) (fun b _ h => HZG.out b h))
        obtain ⟨ta, tc, rfl⟩ := hh.len
        clear hh hKT hx1 hx2
        by_cases hA : k + 1 < N
        · have hdA : decide ((k : Int) + 1 < (N : Int)) = true := by simp; omega
          have HX2 := Lib.hid (HSTORE.out (.inl hA))
          clear hA
          go_wp2_with (refine wpList_put_e (E := cellE) (Y := Z) (i := k) rfl 27 (.tmp 41) (.tmp 40) rfl rfl rfl [.int .i64 K, .slice ta T.length tc] rfl (by kernel_rfl) HOW.out.each hxl (K, T) (cell_rep.2 ⟨_, rfl, HHL.out⟩) ?_)
          intro w4 hw4 hu4
          have H4 := Lib.hid (show OwnE cellE Z w4 go 27 (.slice (some ⟨go, 0, none⟩) N N) (X.set k (K, T)) from hw4)
          have HB4 := Lib.hid (HBW.out.upd hu4 HBW.out.size (fun x e => by have := HGO.out; omega))
          clear hw4 hu4
          go_wp2
          go_roundw
          case rel => exact ⟨k + 1, _, by omega, by go_num, H4.out, HX2, HB4.out⟩
          case measure => simp [intOf] <;> omega
        · have hdA : decide ((k : Int) + 1 < (N : Int)) = false := by simp; omega
          have hdAn : decide (k + 1 < N) = false := by simp; omega
          by_cases hK : K = 2
          · have HX2 := Lib.hid (HSKIP.out (by omega) hK)
            subst hK
            clear hA
            go_wp2
            go_roundw
            case rel => exact ⟨k + 1, _, by omega, by go_num, HOW.out, HX2, HBW.out⟩
            case measure => simp [intOf] <;> omega
          · have hkb : (K != 2) = true := by simp [hK]
            have hkb2 : (K == 2) = false := by simp [hK]
            have HX2 := Lib.hid (HSTORE.out (.inr hK))
            clear hA hK
            go_wp2_with (refine wpList_put_e (E := cellE) (Y := Z) (i := k) rfl 27 (.tmp 41) (.tmp 40) rfl rfl rfl [.int .i64 K, .slice ta T.length tc] rfl (by kernel_rfl) HOW.out.each hxl (K, T) (cell_rep.2 ⟨_, rfl, HHL.out⟩) ?_)
            intro w4 hw4 hu4
            have H4 := Lib.hid (show OwnE cellE Z w4 go 27 (.slice (some ⟨go, 0, none⟩) N N) (X.set k (K, T)) from hw4)
            have HB4 := Lib.hid (HBW.out.upd hu4 HBW.out.size (fun x e => by have := HGO.out; omega))
            clear hw4 hu4
            go_wp2
            go_roundw
            case rel => exact ⟨k + 1, _, by omega, by go_num, H4.out, HX2, HB4.out⟩
            case measure => simp [intOf] <;> omega
      · have hdL : decide ((k : Int) < (L.length : Int)) = false := by simp; omega
        have hdLn : decide (k < L.length) = false := by simp; omega
        have HE := Lib.hid (show X = R2 from by
          obtain ⟨hx1, hx2⟩ := HX.out
          refine ext_getD zc (by rw [hx1, HRL.out]) (fun i hi => ?_)
          rw [hx1] at hi
          rw [hx2 i hi, HAT.out i hi]
          by_cases h2 : i < L.length
          · rw [if_pos (by omega), if_neg (by omega), if_neg (by omega)]
          · rw [if_neg (c := i + 1 = N ∧ _ ∧ _) (by omega), getD_ge L zc i (by omega)]
            split
            · split <;> rfl
            · rfl)
        have hf : OwnE cellE Z wr w.heap.size 27 (.slice (some ⟨go, 0, none⟩) N N) R2 := by
          have := HOW.out
          rw [HE.out, HGO.out] at this
          rw [HGO.out]
          exact this
        have HF := Lib.hid hf
        clear hf
        go_wp2
        go_ret
        exact ⟨_, rfl, by rw [← HR3.out]; exact HF.out, HBW.out⟩
    · obtain rfl : k = N := by omega
      have HE := Lib.hid (show X = R2 from by
        obtain ⟨hx1, hx2⟩ := HX.out
        refine ext_getD zc (by rw [hx1, HRL.out]) (fun i hi => ?_)
        rw [hx1] at hi
        rw [hx2 i hi, HAT.out i hi, if_pos hi]
        by_cases h2 : i + 1 = k ∧ (L.getD i zc).1 = 2
        · have hil : i < L.length := by
            rcases Nat.lt_or_ge i L.length with h | h
            · exact h
            · rw [getD_ge L zc i h] at h2; exact absurd h2.2 (by decide)
          have h3 := (HSND.out i hil).2.1 h2.2
          have h4 : i + 1 < L.length := by
            rcases Nat.lt_or_ge (i + 1) L.length with h | h
            · exact h
            · rw [getD_ge L zc _ h] at h3; exact absurd h3 (by decide)
          rw [if_pos h2, if_pos ⟨h2.1, h2.2, by omega⟩]
        · rw [if_neg h2, if_neg (fun h' => h2 ⟨h'.1, h'.2.1⟩)])
      have hf : OwnE cellE Z wr w.heap.size 27 (.slice (some ⟨go, 0, none⟩) k k) R2 := by
        have := HOW.out
        rw [HE.out, HGO.out] at this
        rw [HGO.out]
        exact this
      have HF := Lib.hid hf
      clear hf
      go_wp2
      go_ret
      exact ⟨_, rfl, by rw [← HR3.out]; exact HF.out, HBW.out⟩
def TwoStrips (Z : Zone) (w : World) (L M : List Cl) (e : Ending) (w' : World) : Prop := ∃ va vb, e = .returned (.tuple #[va, vb]) ∧ HeldE cellE Z w' va L ∧ HeldE cellE Z w' vb M ∧ Below w.heap.size w w'
set_option maxRecDepth 100000 in
set_option maxHeartbeats 3000000 in
theorem rsplit_any (Z : Zone) (v : Value) (L : List Cl) (c : Nat) (w : World) (hZ : ∀ b, w.heap.size ≤ b → Z b) (hv : HeldE cellE Z w v L) (hl : L.length ≤ 1000000) (hc0 : 0 < c) (hc : c < L.length) : Calls Tryd.prog 50 #[v, .int .i64 c] w (TwoStrips Z w ((tearL L c).take c) ((tearL L c).drop c)) := by
  have hv := hv.zone (Y := fun b => Z b ∧ b < w.heap.size) (fun b hb hz => ⟨hz, hb⟩)
  obtain ⟨ao, ca, rfl⟩ := hv.len
  obtain ⟨_, _, hcells⟩ := cells_at hv
  obtain ⟨ba, offa, tva, e0, hba, _, k0, _, _⟩ := hcells c hc
  cases e0
  have HTL := Lib.hid (tear_len L c)
  have HZ := Lib.hid hZ
  obtain ⟨b, hb⟩ : ∃ b, c = b + 1 := ⟨c - 1, by omega⟩
  have hb0 : (c : Int) - 1 = b := by omega
  have hbw : IntKind.i64.wrap (b : Int) = (b : Int) := by rw [IntKind.wrap_i64]; omega
  have hbl : b < L.length := by omega
  have HBC := Lib.hid hb
  obtain ⟨W1, hW1⟩ : ∃ W1, W1 = w.alloc (.cells #[] 27) := ⟨_, rfl⟩
  have b1 : Below w.heap.size w W1 := by rw [hW1]; exact (Below.refl _ _).alloc (Nat.le_refl _) _
  have HO1 := Lib.hid (show OwnE cellE Z W1 w.heap.size 27 (.slice (some ⟨w.heap.size, 0, none⟩) 0 0) [] from by rw [hW1]; exact OwnE.fresh0 w 27 (Nat.le_refl _))
  have HU := Lib.hid (show HeldE cellE (fun b => Z b ∧ (Value.slice (some ⟨w.heap.size, 0, none⟩) 0 0).ownBlock ≠ some b) W1 (.slice (some ⟨ba, offa, none⟩) L.length ca) L from (hv.below b1).zone (fun b _ h => ⟨h.1, fun e => by simp [Value.ownBlock] at e; omega⟩))
  have HB1 := Lib.hid b1
  have hk1 := HB1.out.cell (p := ⟨ba, offa + c * 2, none⟩) hba
  have HBA := Lib.hid hba
  subst hW1
  clear hcells hv hZ hb b1 hk1
  go_enter Tryd.func50, Tryd.ntmps50
  go_wp2_with (at_builtin; refine wpList_append_e (E := cellE) (Z := Z) rfl (.tmp 7) (.tmp 8) 22 rfl (.agg #[.int .i64 0, .slice none 0 0]) 32 Tryd.underlying22 info_cell rfl (by decide) rfl rfl HO1.out HU.out (by simp; omega) (by simp; omega) HB1.out.size ?_)
  intro v2 w2 ho2 b2 _ _
  have ho2 : OwnE cellE Z w2 w.heap.size 27 v2 L := by simpa using ho2
  have HB2 := Lib.hid (HB1.out.trans b2)
  obtain ⟨gq, cap, rfl, hq1, hq2⟩ := ho2.some (by omega)
  have HQ := Lib.hid (And.intro hq1 hq2)
  have H2 := Lib.hid ho2
  have ck := (HB2.out.cell (p := ⟨ba, offa + c * 2, none⟩) hba).trans k0
  obtain ⟨T, hT⟩ : ∃ T, T = tearL L c := ⟨_, rfl⟩
  have HT := Lib.hid hT
  rw [← hT] at HTL
  have hz1 : ¬ (cap = c) := by obtain ⟨_, hn, _⟩ := (ho2.held (Z := Z) (fun b h _ => HZ.out b h)).spots; omega
  have hz2 : c ≤ cap := by obtain ⟨_, hn, _⟩ := (ho2.held (Z := Z) (fun b h _ => HZ.out b h)).spots; omega
  have hz3 : (c : Int) ≤ (cap : Int) := by omega
  have hz4 : (c : Int) ≤ (L.length : Int) := by omega
  clear hT ho2 b2 hq1 hq2 k0
  by_cases h3 : (L.getD c zc).1 = 3
  · rw [h3] at ck
    have HTE := Lib.hid (show tearL L c = (L.set c zc).set b zc by unfold tearL; rw [if_pos h3, show c - 1 = b by have := HBC.out; omega, List.set_comm _ _ (by have := HBC.out; omega)])
    have hcl : b < (L.set c zc).length := by rw [List.length_set]; exact hbl
    have HCL := Lib.hid hcl
    clear h3 hcl
    go_wp2_with (refine wpList_put_e (E := cellE) (Y := Z) (i := c) rfl 27 (.tmp 19) (.tmp 18) rfl rfl rfl [.int .i64 0, .slice none 0 0] rfl (by kernel_rfl) H2.out.each hc zc (zero_rep _ _) ?_)
    intro w4 hw4 hu4
    have H4 := Lib.hid (show OwnE cellE Z _ _ 27 _ _ from hw4)
    have HB4 := Lib.hid (HB2.out.upd hu4 HB2.out.size (fun x e => by have := HQ.out.1; omega))
    clear hw4 hu4 ck
    go_upto_region 5 with (refine wpList_put_e (E := cellE) (Y := Z) (i := b) rfl 27 (.tmp 24) (.tmp 23) rfl rfl rfl [.int .i64 0, .slice none 0 0] rfl (by kernel_rfl) H4.out.each HCL.out zc (zero_rep _ _) ?_)
    intro w3 hw3 hu3
    have H3 := Lib.hid (show OwnE cellE Z w3 w.heap.size 27 (.slice (some ⟨gq, 0, none⟩) L.length cap) T from by
      have h9 : OwnE cellE Z w3 w.heap.size 27 (.slice (some ⟨gq, 0, none⟩) L.length cap) ((L.set c zc).set b zc) := hw3
      rw [HT.out, HTE.out]
      exact h9)
    have HB3 := Lib.hid (HB4.out.upd hu3 HB4.out.size (fun x e => by have := HQ.out.1; omega))
    clear hw3 hu3
    go_upto_region 5 with (fail)
    have hh3 := H3.out.held (Z := Z) (fun b h _ => HZ.out b h)
    rw [← HTL.out] at hh3
    have HH := Lib.hid hh3
    clear hh3
    obtain ⟨Erg, hErg⟩ : ∃ EE : Nat → Value → World → Prop, EE = fun jj xx ww => match jj with
        | 0 => xx = .slice (some ⟨gq, 0, none⟩) L.length cap
        | 1 => xx = .int .i64 c
        | 2 => xx = .slice (some ⟨gq, 0, none⟩) c cap
        | 3 => xx = .slice (some ⟨gq, 0, none⟩) L.length cap
        | 4 => xx = .int .i64 c
        | 5 => xx = .slice (some ⟨gq, c * 2, none⟩) (L.length - c) (cap - c)
        | 6 => xx = .slice (some ⟨gq, 0, none⟩) c cap
        | 7 => xx = .slice (some ⟨gq, c * 2, none⟩) (L.length - c) (cap - c)
        | _ => True := ⟨_, rfl⟩
    have erg0 : ∀ xx ww, Erg 0 xx ww = (xx = .slice (some ⟨gq, 0, none⟩) L.length cap) := fun xx ww => congrFun (congrFun (congrFun hErg 0) xx) ww
    have erg1 : ∀ xx ww, Erg 1 xx ww = (xx = .int .i64 c) := fun xx ww => congrFun (congrFun (congrFun hErg 1) xx) ww
    have erg2 : ∀ xx ww, Erg 2 xx ww = (xx = .slice (some ⟨gq, 0, none⟩) c cap) := fun xx ww => congrFun (congrFun (congrFun hErg 2) xx) ww
    have erg3 : ∀ xx ww, Erg 3 xx ww = (xx = .slice (some ⟨gq, 0, none⟩) L.length cap) := fun xx ww => congrFun (congrFun (congrFun hErg 3) xx) ww
    have erg4 : ∀ xx ww, Erg 4 xx ww = (xx = .int .i64 c) := fun xx ww => congrFun (congrFun (congrFun hErg 4) xx) ww
    have erg5 : ∀ xx ww, Erg 5 xx ww = (xx = .slice (some ⟨gq, c * 2, none⟩) (L.length - c) (cap - c)) := fun xx ww => congrFun (congrFun (congrFun hErg 5) xx) ww
    have erg6 : ∀ xx ww, Erg 6 xx ww = (xx = .slice (some ⟨gq, 0, none⟩) c cap) := fun xx ww => congrFun (congrFun (congrFun hErg 6) xx) ww
    have erg7 : ∀ xx ww, Erg 7 xx ww = (xx = .slice (some ⟨gq, c * 2, none⟩) (L.length - c) (cap - c)) := fun xx ww => congrFun (congrFun (congrFun hErg 7) xx) ww
    obtain ⟨Crg, hCrg⟩ : ∃ CC : Array Bool → World → Prop, CC = fun L8 w' => Below w3.heap.size w3 w' := ⟨_, rfl⟩
    have krg : ∀ i L w,  Crg L w → Crg (L.setIfInBounds i true) w := by
      intro i L w  h
      rw [hCrg] at h ⊢
      exact h
    obtain ⟨Xrg, hXrg⟩ : ∃ XX : World → World → Prop, XX = fun x y => Below x.heap.size x y := ⟨_, rfl⟩
    have xrg : ∀ w, Xrg w w := fun w => by rw [hXrg]; exact Below.refl _ _
    have strg : ∀ j x w w1, Xrg w w1 → Erg j x w → Erg j x w1 := by
      intro j x w w1 hx h
      rw [hXrg] at hx
      match j with
      | 0 => rw [erg0] at h ⊢; exact h
      | 1 => rw [erg1] at h ⊢; exact h
      | 2 => rw [erg2] at h ⊢; exact h
      | 3 => rw [erg3] at h ⊢; exact h
      | 4 => rw [erg4] at h ⊢; exact h
      | 5 => rw [erg5] at h ⊢; exact h
      | 6 => rw [erg6] at h ⊢; exact h
      | 7 => rw [erg7] at h ⊢; exact h
      | j + 8 => rw [hErg]; trivial
    have crg : Crg (Array.replicate 8 false) w3.drew := by rw [hCrg]; exact (Below.refl _ _).drew
    have brg : ∀ L w w1, Crg L w → Below w.heap.size w w1 → Crg L w1 := by
      intro L w w1 h hb
      rw [hCrg] at h ⊢
      exact h.trans (hb.mono h.size)
    have xbrg : ∀ w w1, Below w.heap.size w w1 → Xrg w w1 := by
      intro w w1 hb
      rw [hXrg]
      exact hb
    have Hrgb := Lib.hid brg
    have Hrgxb := Lib.hid xbrg
    clear brg xbrg
    clear hErg
    have Hrgk := Lib.hid krg
    have Hrgx := Lib.hid xrg
    have Hrgst := Lib.hid strg
    have Hrgc := Lib.hid crg
    have HrghC := Lib.hid hCrg
    have HrghX := Lib.hid hXrg
    have Hrge0 := Lib.hid erg0
    have Hrge1 := Lib.hid erg1
    have Hrge2 := Lib.hid erg2
    have Hrge3 := Lib.hid erg3
    have Hrge4 := Lib.hid erg4
    have Hrge5 := Lib.hid erg5
    have Hrge6 := Lib.hid erg6
    have Hrge7 := Lib.hid erg7
    clear krg xrg strg crg hCrg hXrg erg0 erg1 erg2 erg3 erg4 erg5 erg6 erg7
    go_wp2_with fail
    refine Reg.regionF Erg Crg Xrg Hrgst.out (by kernel_rfl) (by kernel_rfl) (by kernel_rfl) Hrgc.out (fun Frg hFrg => ?_)
    simp only [Reg.frame, Reg.dsts, List.map_cons, List.map_nil, Mix.put_lit, List.set_cons_succ, List.set_cons_zero, Nat.zero_add, Nat.reduceAdd] at hFrg
    refine ⟨?_, ?_⟩
    · refine ⟨?_, ?_, ?_, ?_, ?_, ?_, ?_, ?_, trivial⟩
      · intro Lq wq xq hh
        simp only [hFrg]
        refine .inl ⟨rfl, ?_⟩
        unfold Reg.upon
        have hk := Hrgk.out 0 Lq wq  hh.cls
        have hx := Hrgx.out wq
        have he : Erg 0 (.slice (some ⟨gq, 0, none⟩) L.length cap) wq := by rw [Hrge0.out]
        have HK := Lib.hid (And.intro hk (And.intro he hx))
        clear hk hx he
        go_simp
        exact HK.out
      · intro Lq wq xq hh
        simp only [hFrg]
        refine .inl ⟨rfl, ?_⟩
        unfold Reg.upon
        have hk := Hrgk.out 1 Lq wq  hh.cls
        have hx := Hrgx.out wq
        have he : Erg 1 (.int .i64 c) wq := by rw [Hrge1.out]
        have HK := Lib.hid (And.intro hk (And.intro he hx))
        clear hk hx he
        go_simp
        exact HK.out
      · intro Lq wq xq hh
        have d0 : Erg 0 (xq 0) wq := hh.val 0 (by kernel_rfl) (by kernel_rfl)
        rw [Hrge0.out] at d0
        have d1 : Erg 1 (xq 1) wq := hh.val 1 (by kernel_rfl) (by kernel_rfl)
        rw [Hrge1.out] at d1
        simp only [hFrg, d0, d1]
        clear d0 d1
        refine .inl ⟨rfl, ?_⟩
        unfold Reg.upon
        have hk := Hrgk.out 2 Lq wq  hh.cls
        have hx := Hrgx.out wq
        have he : Erg 2 (.slice (some ⟨gq, 0, none⟩) c cap) wq := by rw [Hrge2.out]
        have HK := Lib.hid (And.intro hk (And.intro he hx))
        clear hk hx he
        go_simp
        exact HK.out
      · intro Lq wq xq hh
        simp only [hFrg]
        refine .inl ⟨rfl, ?_⟩
        unfold Reg.upon
        have hk := Hrgk.out 3 Lq wq  hh.cls
        have hx := Hrgx.out wq
        have he : Erg 3 (.slice (some ⟨gq, 0, none⟩) L.length cap) wq := by rw [Hrge3.out]
        have HK := Lib.hid (And.intro hk (And.intro he hx))
        clear hk hx he
        go_simp
        exact HK.out
      · intro Lq wq xq hh
        simp only [hFrg]
        refine .inl ⟨rfl, ?_⟩
        unfold Reg.upon
        have hk := Hrgk.out 4 Lq wq  hh.cls
        have hx := Hrgx.out wq
        have he : Erg 4 (.int .i64 c) wq := by rw [Hrge4.out]
        have HK := Lib.hid (And.intro hk (And.intro he hx))
        clear hk hx he
        go_simp
        exact HK.out
      · intro Lq wq xq hh
        have d3 : Erg 3 (xq 3) wq := hh.val 3 (by kernel_rfl) (by kernel_rfl)
        rw [Hrge3.out] at d3
        have d4 : Erg 4 (xq 4) wq := hh.val 4 (by kernel_rfl) (by kernel_rfl)
        rw [Hrge4.out] at d4
        simp only [hFrg, d3, d4]
        clear d3 d4
        refine .inl ⟨rfl, ?_⟩
        unfold Reg.upon
        have hk := Hrgk.out 5 Lq wq  hh.cls
        have hx := Hrgx.out wq
        have he : Erg 5 (.slice (some ⟨gq, c * 2, none⟩) (L.length - c) (cap - c)) wq := by rw [Hrge5.out]
        have HK := Lib.hid (And.intro hk (And.intro he hx))
        clear hk hx he
        go_simp
        exact HK.out
      · intro Lq wq xq hh
        have d2 : Erg 2 (xq 2) wq := hh.val 2 (by kernel_rfl) (by kernel_rfl)
        rw [Hrge2.out] at d2
        simp only [hFrg, d2]
        clear d2
        refine .inl ⟨rfl, ?_⟩
        unfold Reg.upon
        have hk := Hrgk.out 6 Lq wq  hh.cls
        have hx := Hrgx.out wq
        have he : Erg 6 (.slice (some ⟨gq, 0, none⟩) c cap) wq := by rw [Hrge6.out]
        have HK := Lib.hid (And.intro hk (And.intro he hx))
        clear hk hx he
        go_simp
        exact HK.out
      · intro Lq wq xq hh
        have d5 : Erg 5 (xq 5) wq := hh.val 5 (by kernel_rfl) (by kernel_rfl)
        rw [Hrge5.out] at d5
        simp only [hFrg, d5]
        clear d5
        refine .inl ⟨rfl, ?_⟩
        unfold Reg.upon
        have hk := Hrgk.out 7 Lq wq  hh.cls
        have hx := Hrgx.out wq
        have he : Erg 7 (.slice (some ⟨gq, c * 2, none⟩) (L.length - c) (cap - c)) wq := by rw [Hrge7.out]
        have HK := Lib.hid (And.intro hk (And.intro he hx))
        clear hk hx he
        go_simp
        exact HK.out
    intro xq wrg hcrg hvrg
    rw [HrghC.out] at hcrg
    simp only [hFrg]
    have vrg6 : Erg 6 (xq 6) wrg := hvrg 6 (by decide)
    rw [Hrge6.out] at vrg6
    rw [vrg6]
    have vrg7 : Erg 7 (xq 7) wrg := hvrg 7 (by decide)
    rw [Hrge7.out] at vrg7
    rw [vrg7]
    clear hvrg hFrg Hrgk Hrgx Hrgst Hrgc HrghC HrghX Hrgb Hrgxb Hrge0 Hrge1 Hrge2 Hrge3 Hrge4 Hrge5 Hrge6 Hrge7
    have ha := part_head (HH.out.below hcrg) c (by rw [HTL.out]; omega)
    have hcc := part3 (HH.out.below hcrg) c T.length (by rw [HTL.out]; omega) (Nat.le_refl _)
    rw [show (T.drop c).take (T.length - c) = T.drop c from List.take_of_length_le (by rw [List.length_drop]; exact Nat.le_refl _), HTL.out] at hcc
    have HF := Lib.hid (And.intro ha (And.intro hcc (HB3.out.trans (hcrg.mono HB3.out.size))))
    clear ha hcc vrg6 vrg7 hcrg
    go_wp2
    go_ret2
    exact ⟨_, _, rfl, (by rw [← HT.out]; exact HF.out.1), (by rw [← HT.out]; exact HF.out.2.1), HF.out.2.2⟩
  · have HT3 := Lib.hid (show T = L by rw [HT.out]; exact tear_out h3)
    obtain ⟨K, hK⟩ : ∃ K, K = (L.getD c zc).1 := ⟨_, rfl⟩
    rw [← hK] at ck h3
    have hkb : (K == 3) = false := by rw [beq_eq_false_iff_ne]; exact h3
    clear h3 hK
    go_upto_region 5 with (fail)
    clear ck hkb
    obtain ⟨w3, hw3⟩ : ∃ w3, w3 = w2 := ⟨_, rfl⟩
    rw [← hw3] at H2 HB2 ⊢
    clear hw3
    have H3 := Lib.hid (show OwnE cellE Z w3 w.heap.size 27 (.slice (some ⟨gq, 0, none⟩) L.length cap) T from by
      rw [HT3.out]
      exact H2.out)
    have HB3 := HB2
    have hh3 := H3.out.held (Z := Z) (fun b h _ => HZ.out b h)
    rw [← HTL.out] at hh3
    have HH := Lib.hid hh3
    clear hh3
    obtain ⟨Erg, hErg⟩ : ∃ EE : Nat → Value → World → Prop, EE = fun jj xx ww => match jj with
        | 0 => xx = .slice (some ⟨gq, 0, none⟩) L.length cap
        | 1 => xx = .int .i64 c
        | 2 => xx = .slice (some ⟨gq, 0, none⟩) c cap
        | 3 => xx = .slice (some ⟨gq, 0, none⟩) L.length cap
        | 4 => xx = .int .i64 c
        | 5 => xx = .slice (some ⟨gq, c * 2, none⟩) (L.length - c) (cap - c)
        | 6 => xx = .slice (some ⟨gq, 0, none⟩) c cap
        | 7 => xx = .slice (some ⟨gq, c * 2, none⟩) (L.length - c) (cap - c)
        | _ => True := ⟨_, rfl⟩
    have erg0 : ∀ xx ww, Erg 0 xx ww = (xx = .slice (some ⟨gq, 0, none⟩) L.length cap) := fun xx ww => congrFun (congrFun (congrFun hErg 0) xx) ww
    have erg1 : ∀ xx ww, Erg 1 xx ww = (xx = .int .i64 c) := fun xx ww => congrFun (congrFun (congrFun hErg 1) xx) ww
    have erg2 : ∀ xx ww, Erg 2 xx ww = (xx = .slice (some ⟨gq, 0, none⟩) c cap) := fun xx ww => congrFun (congrFun (congrFun hErg 2) xx) ww
    have erg3 : ∀ xx ww, Erg 3 xx ww = (xx = .slice (some ⟨gq, 0, none⟩) L.length cap) := fun xx ww => congrFun (congrFun (congrFun hErg 3) xx) ww
    have erg4 : ∀ xx ww, Erg 4 xx ww = (xx = .int .i64 c) := fun xx ww => congrFun (congrFun (congrFun hErg 4) xx) ww
    have erg5 : ∀ xx ww, Erg 5 xx ww = (xx = .slice (some ⟨gq, c * 2, none⟩) (L.length - c) (cap - c)) := fun xx ww => congrFun (congrFun (congrFun hErg 5) xx) ww
    have erg6 : ∀ xx ww, Erg 6 xx ww = (xx = .slice (some ⟨gq, 0, none⟩) c cap) := fun xx ww => congrFun (congrFun (congrFun hErg 6) xx) ww
    have erg7 : ∀ xx ww, Erg 7 xx ww = (xx = .slice (some ⟨gq, c * 2, none⟩) (L.length - c) (cap - c)) := fun xx ww => congrFun (congrFun (congrFun hErg 7) xx) ww
    obtain ⟨Crg, hCrg⟩ : ∃ CC : Array Bool → World → Prop, CC = fun L8 w' => Below w3.heap.size w3 w' := ⟨_, rfl⟩
    have krg : ∀ i L w,  Crg L w → Crg (L.setIfInBounds i true) w := by
      intro i L w  h
      rw [hCrg] at h ⊢
      exact h
    obtain ⟨Xrg, hXrg⟩ : ∃ XX : World → World → Prop, XX = fun x y => Below x.heap.size x y := ⟨_, rfl⟩
    have xrg : ∀ w, Xrg w w := fun w => by rw [hXrg]; exact Below.refl _ _
    have strg : ∀ j x w w1, Xrg w w1 → Erg j x w → Erg j x w1 := by
      intro j x w w1 hx h
      rw [hXrg] at hx
      match j with
      | 0 => rw [erg0] at h ⊢; exact h
      | 1 => rw [erg1] at h ⊢; exact h
      | 2 => rw [erg2] at h ⊢; exact h
      | 3 => rw [erg3] at h ⊢; exact h
      | 4 => rw [erg4] at h ⊢; exact h
      | 5 => rw [erg5] at h ⊢; exact h
      | 6 => rw [erg6] at h ⊢; exact h
      | 7 => rw [erg7] at h ⊢; exact h
      | j + 8 => rw [hErg]; trivial
    have crg : Crg (Array.replicate 8 false) w3.drew := by rw [hCrg]; exact (Below.refl _ _).drew
    have brg : ∀ L w w1, Crg L w → Below w.heap.size w w1 → Crg L w1 := by
      intro L w w1 h hb
      rw [hCrg] at h ⊢
      exact h.trans (hb.mono h.size)
    have xbrg : ∀ w w1, Below w.heap.size w w1 → Xrg w w1 := by
      intro w w1 hb
      rw [hXrg]
      exact hb
    have Hrgb := Lib.hid brg
    have Hrgxb := Lib.hid xbrg
    clear brg xbrg
    clear hErg
    have Hrgk := Lib.hid krg
    have Hrgx := Lib.hid xrg
    have Hrgst := Lib.hid strg
    have Hrgc := Lib.hid crg
    have HrghC := Lib.hid hCrg
    have HrghX := Lib.hid hXrg
    have Hrge0 := Lib.hid erg0
    have Hrge1 := Lib.hid erg1
    have Hrge2 := Lib.hid erg2
    have Hrge3 := Lib.hid erg3
    have Hrge4 := Lib.hid erg4
    have Hrge5 := Lib.hid erg5
    have Hrge6 := Lib.hid erg6
    have Hrge7 := Lib.hid erg7
    clear krg xrg strg crg hCrg hXrg erg0 erg1 erg2 erg3 erg4 erg5 erg6 erg7
    go_wp2_with fail
    refine Reg.regionF Erg Crg Xrg Hrgst.out (by kernel_rfl) (by kernel_rfl) (by kernel_rfl) Hrgc.out (fun Frg hFrg => ?_)
    simp only [Reg.frame, Reg.dsts, List.map_cons, List.map_nil, Mix.put_lit, List.set_cons_succ, List.set_cons_zero, Nat.zero_add, Nat.reduceAdd] at hFrg
    refine ⟨?_, ?_⟩
    · refine ⟨?_, ?_, ?_, ?_, ?_, ?_, ?_, ?_, trivial⟩
      · intro Lq wq xq hh
        simp only [hFrg]
        refine .inl ⟨rfl, ?_⟩
        unfold Reg.upon
        have hk := Hrgk.out 0 Lq wq  hh.cls
        have hx := Hrgx.out wq
        have he : Erg 0 (.slice (some ⟨gq, 0, none⟩) L.length cap) wq := by rw [Hrge0.out]
        have HK := Lib.hid (And.intro hk (And.intro he hx))
        clear hk hx he
        go_simp
        exact HK.out
      · intro Lq wq xq hh
        simp only [hFrg]
        refine .inl ⟨rfl, ?_⟩
        unfold Reg.upon
        have hk := Hrgk.out 1 Lq wq  hh.cls
        have hx := Hrgx.out wq
        have he : Erg 1 (.int .i64 c) wq := by rw [Hrge1.out]
        have HK := Lib.hid (And.intro hk (And.intro he hx))
        clear hk hx he
        go_simp
        exact HK.out
      · intro Lq wq xq hh
        have d0 : Erg 0 (xq 0) wq := hh.val 0 (by kernel_rfl) (by kernel_rfl)
        rw [Hrge0.out] at d0
        have d1 : Erg 1 (xq 1) wq := hh.val 1 (by kernel_rfl) (by kernel_rfl)
        rw [Hrge1.out] at d1
        simp only [hFrg, d0, d1]
        clear d0 d1
        refine .inl ⟨rfl, ?_⟩
        unfold Reg.upon
        have hk := Hrgk.out 2 Lq wq  hh.cls
        have hx := Hrgx.out wq
        have he : Erg 2 (.slice (some ⟨gq, 0, none⟩) c cap) wq := by rw [Hrge2.out]
        have HK := Lib.hid (And.intro hk (And.intro he hx))
        clear hk hx he
        go_simp
        exact HK.out
      · intro Lq wq xq hh
        simp only [hFrg]
        refine .inl ⟨rfl, ?_⟩
        unfold Reg.upon
        have hk := Hrgk.out 3 Lq wq  hh.cls
        have hx := Hrgx.out wq
        have he : Erg 3 (.slice (some ⟨gq, 0, none⟩) L.length cap) wq := by rw [Hrge3.out]
        have HK := Lib.hid (And.intro hk (And.intro he hx))
        clear hk hx he
        go_simp
        exact HK.out
      · intro Lq wq xq hh
        simp only [hFrg]
        refine .inl ⟨rfl, ?_⟩
        unfold Reg.upon
        have hk := Hrgk.out 4 Lq wq  hh.cls
        have hx := Hrgx.out wq
        have he : Erg 4 (.int .i64 c) wq := by rw [Hrge4.out]
        have HK := Lib.hid (And.intro hk (And.intro he hx))
        clear hk hx he
        go_simp
        exact HK.out
      · intro Lq wq xq hh
        have d3 : Erg 3 (xq 3) wq := hh.val 3 (by kernel_rfl) (by kernel_rfl)
        rw [Hrge3.out] at d3
        have d4 : Erg 4 (xq 4) wq := hh.val 4 (by kernel_rfl) (by kernel_rfl)
        rw [Hrge4.out] at d4
        simp only [hFrg, d3, d4]
        clear d3 d4
        refine .inl ⟨rfl, ?_⟩
        unfold Reg.upon
        have hk := Hrgk.out 5 Lq wq  hh.cls
        have hx := Hrgx.out wq
        have he : Erg 5 (.slice (some ⟨gq, c * 2, none⟩) (L.length - c) (cap - c)) wq := by rw [Hrge5.out]
        have HK := Lib.hid (And.intro hk (And.intro he hx))
        clear hk hx he
        go_simp
        exact HK.out
      · intro Lq wq xq hh
        have d2 : Erg 2 (xq 2) wq := hh.val 2 (by kernel_rfl) (by kernel_rfl)
        rw [Hrge2.out] at d2
        simp only [hFrg, d2]
        clear d2
        refine .inl ⟨rfl, ?_⟩
        unfold Reg.upon
        have hk := Hrgk.out 6 Lq wq  hh.cls
        have hx := Hrgx.out wq
        have he : Erg 6 (.slice (some ⟨gq, 0, none⟩) c cap) wq := by rw [Hrge6.out]
        have HK := Lib.hid (And.intro hk (And.intro he hx))
        clear hk hx he
        go_simp
        exact HK.out
      · intro Lq wq xq hh
        have d5 : Erg 5 (xq 5) wq := hh.val 5 (by kernel_rfl) (by kernel_rfl)
        rw [Hrge5.out] at d5
        simp only [hFrg, d5]
        clear d5
        refine .inl ⟨rfl, ?_⟩
        unfold Reg.upon
        have hk := Hrgk.out 7 Lq wq  hh.cls
        have hx := Hrgx.out wq
        have he : Erg 7 (.slice (some ⟨gq, c * 2, none⟩) (L.length - c) (cap - c)) wq := by rw [Hrge7.out]
        have HK := Lib.hid (And.intro hk (And.intro he hx))
        clear hk hx he
        go_simp
        exact HK.out
    intro xq wrg hcrg hvrg
    rw [HrghC.out] at hcrg
    simp only [hFrg]
    have vrg6 : Erg 6 (xq 6) wrg := hvrg 6 (by decide)
    rw [Hrge6.out] at vrg6
    rw [vrg6]
    have vrg7 : Erg 7 (xq 7) wrg := hvrg 7 (by decide)
    rw [Hrge7.out] at vrg7
    rw [vrg7]
    clear hvrg hFrg Hrgk Hrgx Hrgst Hrgc HrghC HrghX Hrgb Hrgxb Hrge0 Hrge1 Hrge2 Hrge3 Hrge4 Hrge5 Hrge6 Hrge7
    have ha := part_head (HH.out.below hcrg) c (by rw [HTL.out]; omega)
    have hcc := part3 (HH.out.below hcrg) c T.length (by rw [HTL.out]; omega) (Nat.le_refl _)
    rw [show (T.drop c).take (T.length - c) = T.drop c from List.take_of_length_le (by rw [List.length_drop]; exact Nat.le_refl _), HTL.out] at hcc
    have HF := Lib.hid (And.intro ha (And.intro hcc (HB3.out.trans (hcrg.mono HB3.out.size))))
    clear ha hcc vrg6 vrg7 hcrg
    go_wp2
    go_ret2
    exact ⟨_, _, rfl, (by rw [← HT.out]; exact HF.out.1), (by rw [← HT.out]; exact HF.out.2.1), HF.out.2.2⟩
end Go.Proofs.YtomfclkldmmmgaaDoor
