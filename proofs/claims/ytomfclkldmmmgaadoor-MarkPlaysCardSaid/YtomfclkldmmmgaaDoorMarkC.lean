/- mark: Put, At, Add, Widen. -/
import Derived.Test.YtomfclkldmmmgaaDoorMarkM
import Derived.Test.YtomfclkldmmmgaaDoorRowX
import Derived.Test.YtomfclkldmmmgaaDoorCellP
import Derived.Test.YtomfclkldmmmgaaDoorRowO
import Derived.Deep.Cut
namespace Go.Proofs.YtomfclkldmmmgaaDoor
open Go.RowKit Go.ChangeShapes Go.WideShapes
set_option maxRecDepth 100000 in
theorem mput_z (Z Y : Zone) (B g gc : Nat) (L : List Cl) (wrap : Bool) (col wide : Int) (v : Value) (xs : List Int) (w : World) (hZ : ∀ b, w.heap.size ≤ b → Z b) (h : RowAt Z w B g gc L wrap) (hv : HeldE (intE .i32) Y w v xs) (hg : wrongI L.length col (ofC wide xs) = 0) :
    Calls Tryd.prog 28 #[.pointer (some ⟨g, 0, none⟩), .int .i64 col, .int .i64 wide, v] w (PaintOk Z B g gc w (paintL L (ofC wide xs) col.toNat) (wrap && !lastHit L (ofC wide xs) col.toNat)) := by
  obtain ⟨a, rfl, hla, hsp⟩ := wrong_good hg
  rw [Int.toNat_natCast]
  have hlt := h.lt
  have HGL := Lib.hid hlt
  have HR := Lib.hid h
  have HO := Lib.hid (cof_new (fun b => b ≠ g ∧ b ≠ gc) Y wide v xs w (fun b hb => by omega) hv)
  have HLA := Lib.hid hla
  have HZ := Lib.hid hZ
  have HSP := Lib.hid hsp
  have hvm := hv.max
  obtain ⟨ao, ca, rfl⟩ := hv.len
  clear h hg hlt hla hsp hv hZ
  go_enter Tryd.func28, Tryd.ntmps28
  go_wp2_with fail
  refine HO.out.mono ?_
  rintro e w1 ⟨v1, rfl, ho1, b1⟩
  have HH := Lib.hid (ho1.held (fun b hb _ => by have := HGL.out; exact ⟨by omega, by omega⟩))
  have HU := Lib.hid (Upd.ofBelow (S := fun b => b = g ∨ b = gc) b1)
  have HR1 := Lib.hid (HR.out.below b1)
  have HBS := Lib.hid b1.size
  clear ho1 b1
  go_wp2_with fail
  refine (rpaint_good _ _ _ g gc L _ wrap _ w1 HR1.out HH.out (fun _ h => h) (fun b hb => HZ.out b (Nat.le_trans HBS.out hb)) a HLA.out HSP.out).mono ?_
  rintro e w2 ⟨rfl, hr2, u2⟩
  have HE := Lib.hid (And.intro hr2 (HU.out.trans u2))
  clear hr2 u2
  go_wp2
  go_ret
  exact ⟨rfl, HE.out.1, HE.out.2⟩
theorem mput_good (Y : Zone) (B g gc : Nat) (L : List Cl) (wrap : Bool) (col wide : Int) (v : Value) (xs : List Int) (w : World) (h : RowAt (fun _ => True) w B g gc L wrap) (hv : HeldE (intE .i32) Y w v xs) (hg : wrongI L.length col (ofC wide xs) = 0) :
    Calls Tryd.prog 28 #[.pointer (some ⟨g, 0, none⟩), .int .i64 col, .int .i64 wide, v] w (PaintOk (fun _ => True) B g gc w (paintL L (ofC wide xs) col.toNat) (wrap && !lastHit L (ofC wide xs) col.toNat)) :=
  mput_z (fun _ => True) Y B g gc L wrap col wide v xs w (fun _ _ => trivial) h hv hg
set_option maxRecDepth 100000 in
theorem mput_bad (sa : Nat → Addr) (Y : Zone) (B g gc : Nat) (L : List Cl) (wrap : Bool) (col wide : Int) (v : Value) (xs : List Int) (w : World) (hs : Sents w sa) (h : RowAt (fun _ => True) w B g gc L wrap) (hv : HeldE (intE .i32) Y w v xs) (hg : wrongI L.length col (ofC wide xs) ≠ 0) :
    ∃ m : Nat, m < 8 ∧ wrongI L.length col (ofC wide xs) = (m : Int) + 1 ∧ Calls Tryd.prog 28 #[.pointer (some ⟨g, 0, none⟩), .int .i64 col, .int .i64 wide, v] w (Gives w (.iface 171 (.pointer (some (sa m))))) := by
  have hm0 : wrongI L.length col (ofC wide xs) = 3 ∨ wrongI L.length col (ofC wide xs) = 5 := by
    unfold wrongI at hg ⊢
    split
    · exact .inl rfl
    · split
      · rename_i h1 h2; rw [if_neg h1, if_pos h2] at hg; exact absurd rfl hg
      · exact .inr rfl
  obtain ⟨m, hm, hmm⟩ : ∃ m : Nat, m < 8 ∧ wrongI L.length col (ofC wide xs) = (m : Int) + 1 := by
    rcases hm0 with e | e
    · exact ⟨2, by decide, e⟩
    · exact ⟨4, by decide, e⟩
  refine ⟨m, hm, hmm, ?_⟩
  have HMM := Lib.hid hmm
  have HG := Lib.hid hg
  have HS := Lib.hid hs
  have HR := Lib.hid h
  have HO := Lib.hid (cof_new (fun _ => True) Y wide v xs w (fun b hb => trivial) hv)
  have hvm := hv.max
  obtain ⟨ao, ca, rfl⟩ := hv.len
  clear h hg hs hv hmm hm0
  go_enter Tryd.func28, Tryd.ntmps28
  go_wp2_with fail
  refine HO.out.mono ?_
  rintro e w1 ⟨v1, rfl, ho1, b1⟩
  have HH := Lib.hid (ho1.held (fun b hb _ => trivial))
  have HB := Lib.hid b1
  have HP := Lib.hid (rpaint_bad sa _ _ _ g gc L _ wrap col _ w1 (HS.out.below b1) (HR.out.below b1) HH.out HG.out)
  clear ho1 b1
  obtain ⟨m', hm', hmm', hc⟩ := HP.out
  have e : m' = m := by have := HMM.out; omega
  subst e
  have HC := Lib.hid hc
  clear hc hmm'
  go_wp2_with fail
  refine HC.out.mono ?_
  rintro e w2 ⟨rfl, b2⟩
  have HB2 := Lib.hid (HB.out.trans (b2.mono HB.out.size))
  clear b2
  go_wp2
  go_ret
  exact ⟨rfl, HB2.out⟩
set_option maxRecDepth 100000 in
theorem mput_nil (sa : Nat → Addr) (Y : Zone) (col wide : Int) (v : Value) (xs : List Int) (w : World) (hs : Sents w sa) (hv : HeldE (intE .i32) Y w v xs) : Calls Tryd.prog 28 #[.pointer none, .int .i64 col, .int .i64 wide, v] w (Gives w (.iface 171 (.pointer (some (sa 2))))) := by
  have HS := Lib.hid hs
  have HO := Lib.hid (cof_new (fun _ => True) Y wide v xs w (fun b hb => trivial) hv)
  have hvm := hv.max
  obtain ⟨ao, ca, rfl⟩ := hv.len
  clear hs hv
  go_enter Tryd.func28, Tryd.ntmps28
  go_wp2_with fail
  refine HO.out.mono ?_
  rintro e w1 ⟨v1, rfl, ho1, b1⟩
  have HB := Lib.hid b1
  have HP := Lib.hid (rpaint_nil (at_ := col) (v := v1) sa w1 (HS.out.below b1))
  clear ho1 b1
  go_wp2_with fail
  refine HP.out.mono ?_
  rintro e w2 ⟨rfl, b2⟩
  have HB2 := Lib.hid (HB.out.trans (b2.mono HB.out.size))
  clear b2
  go_wp2
  go_ret
  exact ⟨rfl, HB2.out⟩
def AtOwn (w : World) (k : Int) (c : Cl) (e : Ending) (w' : World) : Prop := ∃ tv, e = .returned (.tuple #[.int .i64 k, .agg #[.int .i64 c.1, tv], .bool true]) ∧ OwnE (intE .i32) (fun _ => True) w' w.heap.size 21 tv c.2 ∧ Below w.heap.size w w'
set_option maxRecDepth 100000 in
set_option maxHeartbeats 1000000 in
theorem mat_self (B g gc : Nat) (L : List Cl) (wrap : Bool) (k : Nat) (w : World) (h : RowAt (fun _ => True) w B g gc L wrap) (hk : k < L.length) (h1 : (L.getD k zc).1 = 1 ∨ (L.getD k zc).1 = 2) : Calls Tryd.prog 82 #[.pointer (some ⟨g, 0, none⟩), .int .i64 k] w (AtOwn w k (L.getD k zc)) := by
  obtain ⟨W0, hW0⟩ : ∃ W0, W0 = w.alloc (.cells #[.int .i64 0, .slice none 0 0] 113) := ⟨_, rfl⟩
  have hb0 : Below w.heap.size w W0 := by rw [hW0]; exact (Below.refl w.heap.size w).alloc (Nat.le_refl _) _
  have hr0 : Has W0 w.heap.size [.int .i64 0, .slice none 0 0] 113 := by rw [hW0]; exact Has.new w _ _
  have HSZ := Lib.hid (show W0.heap.size = w.heap.size + 1 by rw [hW0]; simp)
  have HC := Lib.hid (rcell_own _ _ _ _ _ _ k _ (h.below hb0) hk)
  have HB0 := Lib.hid hb0
  have HR0 := Lib.hid hr0
  generalize L.getD k zc = c at HC h1 ⊢
  obtain ⟨K, T⟩ := c
  simp only at h1
  subst hW0
  clear h hb0 hr0
  rcases h1 with rfl | rfl
  · go_enter Tryd.func82, Tryd.ntmps82
    go_wp2_with fail
    refine HC.out.mono ?_
    rintro e w1 ⟨tv, rfl, ho1, b1⟩
    have HO1 := Lib.hid ho1
    have HB1 := Lib.hid (HB0.out.trans (b1.mono HB0.out.size))
    have HR1 := Lib.hid (HR0.out.below b1 HR0.out.lt)
    have HL1 := Lib.hid (show w.heap.size < w1.heap.size by have := HSZ.out; have := b1.size; omega)
    obtain ⟨ta, tc, rfl⟩ := ho1.heldInts.len
    clear ho1 b1
    go_upto_region 7 with (fail)
    obtain ⟨W, hW⟩ : ∃ W, W = w1.alloc (.cells #[.int .i64 1, .slice ta T.length tc] 27) := ⟨_, rfl⟩
    have hbW : Below w1.heap.size w1 W := by rw [hW]; exact (Below.refl _ _).alloc (Nat.le_refl _) _
    have hc1 : W.cell? ⟨w1.heap.size, 1, none⟩ = some (.slice ta T.length tc) := by rw [hW]; exact (Has.new w1 [.int .i64 1, .slice ta T.length tc] 27).cell 1 _ rfl
    rw [← hW]
    clear hW
    have d1 := ext_cell hc1
    clear hc1
    refine wp_region_ext_tail 5 (by kernel_rfl) (by simp) (by kernel_rfl) (by kernel_rfl) (by kernel_rfl) (by kernel_rfl) (by kernel_rfl) ?_
    simp only [List.take_succ_cons, List.take_zero, List.drop_succ_cons, List.drop_zero]
    repeat (go_big_quiet_step ((fail)))
    refine wpQuiet_nil ?_
    intro _ hw'
    obtain ⟨u, hw''⟩ := hw'
    subst hw''
    obtain ⟨W2, hW2⟩ : ∃ W2, W2 = ext W u := ⟨_, rfl⟩
    have bu : Below w1.heap.size w1 W2 := by rw [hW2]; exact hbW.trans (u.ok.mono hbW.size)
    rw [← hW2]
    clear hW2
    have r2 := HR1.out.below bu HL1.out
    have k0 := r2.cell 0 _ rfl
    have k1 := r2.cell 1 _ rfl
    have f0 := r2.free 0
    have f1 := r2.free 1
    have HO2 := Lib.hid ((HO1.out.anyInts (Y := fun _ => False)).below bu)
    have HB2 := Lib.hid (HB1.out.trans (bu.mono HB1.out.size))
    clear bu r2 d1 hbW
    go_wp2
    refine bodyPost_ret (v := .tuple #[.int .i64 k, .agg #[.int .i64 1, .slice ta T.length tc], .bool true]) (by simp [results, Tryd.results82, go_sem, k0, k1, f0, f1]) rfl ⟨_, rfl, ?_, ?_⟩
    · exact OwnE.anyInts (OwnE.base (OwnE.upd HO2.out ((((Upd.refl (fun b => b < w.heap.size + 1) W2).setCell (.inl (by simp)) _).setCell (.inl (by simp)) _)) (fun b h k => by
        rcases h with h | h
        · exact h
        · have := (HO1.out.lt b h).1
          have := HSZ.out
          omega)) (by have := HSZ.out; omega))
    · exact ((HB2.out.setCell (by simp) _).setCell (by simp) _)
  · go_enter Tryd.func82, Tryd.ntmps82
    go_wp2_with fail
    refine HC.out.mono ?_
    rintro e w1 ⟨tv, rfl, ho1, b1⟩
    have HO1 := Lib.hid ho1
    have HB1 := Lib.hid (HB0.out.trans (b1.mono HB0.out.size))
    have HR1 := Lib.hid (HR0.out.below b1 HR0.out.lt)
    have HL1 := Lib.hid (show w.heap.size < w1.heap.size by have := HSZ.out; have := b1.size; omega)
    obtain ⟨ta, tc, rfl⟩ := ho1.heldInts.len
    clear ho1 b1
    go_upto_region 9 with (fail)
    obtain ⟨W, hW⟩ : ∃ W, W = w1.alloc (.cells #[.int .i64 2, .slice ta T.length tc] 27) := ⟨_, rfl⟩
    have hbW : Below w1.heap.size w1 W := by rw [hW]; exact (Below.refl _ _).alloc (Nat.le_refl _) _
    have hc1 : W.cell? ⟨w1.heap.size, 1, none⟩ = some (.slice ta T.length tc) := by rw [hW]; exact (Has.new w1 [.int .i64 2, .slice ta T.length tc] 27).cell 1 _ rfl
    rw [← hW]
    clear hW
    have d1 := ext_cell hc1
    clear hc1
    refine wp_region_ext_tail 5 (by kernel_rfl) (by simp) (by kernel_rfl) (by kernel_rfl) (by kernel_rfl) (by kernel_rfl) (by kernel_rfl) ?_
    simp only [List.take_succ_cons, List.take_zero, List.drop_succ_cons, List.drop_zero]
    repeat (go_big_quiet_step ((fail)))
    refine wpQuiet_nil ?_
    intro _ hw'
    obtain ⟨u, hw''⟩ := hw'
    subst hw''
    obtain ⟨W2, hW2⟩ : ∃ W2, W2 = ext W u := ⟨_, rfl⟩
    have bu : Below w1.heap.size w1 W2 := by rw [hW2]; exact hbW.trans (u.ok.mono hbW.size)
    rw [← hW2]
    clear hW2
    have r2 := HR1.out.below bu HL1.out
    have k0 := r2.cell 0 _ rfl
    have k1 := r2.cell 1 _ rfl
    have f0 := r2.free 0
    have f1 := r2.free 1
    have HO2 := Lib.hid ((HO1.out.anyInts (Y := fun _ => False)).below bu)
    have HB2 := Lib.hid (HB1.out.trans (bu.mono HB1.out.size))
    clear bu r2 d1 hbW
    go_wp2
    refine bodyPost_ret (v := .tuple #[.int .i64 k, .agg #[.int .i64 2, .slice ta T.length tc], .bool true]) (by simp [results, Tryd.results82, go_sem, k0, k1, f0, f1]) rfl ⟨_, rfl, ?_, ?_⟩
    · exact OwnE.anyInts (OwnE.base (OwnE.upd HO2.out ((((Upd.refl (fun b => b < w.heap.size + 1) W2).setCell (.inl (by simp)) _).setCell (.inl (by simp)) _)) (fun b h k => by
        rcases h with h | h
        · exact h
        · have := (HO1.out.lt b h).1
          have := HSZ.out
          omega)) (by have := HSZ.out; omega))
    · exact ((HB2.out.setCell (by simp) _).setCell (by simp) _)
set_option maxRecDepth 100000 in
set_option maxHeartbeats 1000000 in
theorem mat_back (B g gc : Nat) (L : List Cl) (wrap : Bool) (k : Nat) (w : World) (h : RowAt (fun _ => True) w B g gc L wrap) (hk : k + 1 < L.length) (h2 : (L.getD k zc).1 = 2) (h3 : (L.getD (k + 1) zc).1 = 3) : Calls Tryd.prog 82 #[.pointer (some ⟨g, 0, none⟩), .int .i64 ((k : Int) + 1)] w (AtOwn w k (L.getD k zc)) := by
  obtain ⟨W0, hW0⟩ : ∃ W0, W0 = w.alloc (.cells #[.int .i64 0, .slice none 0 0] 113) := ⟨_, rfl⟩
  have hb0 : Below w.heap.size w W0 := by rw [hW0]; exact (Below.refl w.heap.size w).alloc (Nat.le_refl _) _
  have hr0 : Has W0 w.heap.size [.int .i64 0, .slice none 0 0] 113 := by rw [hW0]; exact Has.new w _ _
  have HSZ := Lib.hid (show W0.heap.size = w.heap.size + 1 by rw [hW0]; simp)
  have hlen := h.len.2.1
  have HC0 := Lib.hid (rcell_in _ _ _ _ _ _ (k + 1) _ (h.below hb0) hk)
  have HC := Lib.hid (fun W (b : Below W0.heap.size W0 W) => rcell_own _ _ _ _ _ _ k W ((h.below hb0).below b) (Nat.lt_of_succ_lt hk))
  have HB0 := Lib.hid hb0
  have HR0 := Lib.hid hr0
  generalize L.getD k zc = c at HC h2 ⊢
  generalize L.getD (k + 1) zc = c2 at HC0 h3
  obtain ⟨K, T⟩ := c
  obtain ⟨K2, T2⟩ := c2
  simp only at h2 h3
  subst hW0
  clear h hb0 hr0
  subst h2
  subst h3
  have hkk : (k : Int) + 1 = ((k + 1 : Nat) : Int) := by omega
  rw [hkk]
  have hsub : IntKind.i64.wrap (k : Int) = (k : Int) := by
    rw [IntKind.wrap_i64]; omega
  clear hkk hk hlen
  go_enter Tryd.func82, Tryd.ntmps82
  go_wp2_with fail
  refine HC0.out.mono ?_
  rintro e w1 ⟨tv1, rfl, ho1, b1⟩
  obtain ⟨t1, cp1, rfl⟩ := ho1.len
  obtain ⟨W1, hW1⟩ : ∃ W1, W1 = w1.alloc (.cells #[.int .i64 3, .slice t1 T2.length cp1] 27) := ⟨_, rfl⟩
  have b2 : Below _ _ W1 := b1.trans (show Below _ w1 W1 by rw [hW1]; exact (Below.refl _ _).alloc b1.size _)
  have hh1 : Has W1 w1.heap.size [.int .i64 3, .slice t1 T2.length cp1] 27 := by rw [hW1]; exact Has.new w1 _ _
  have HC1 := Lib.hid (HC.out W1 b2)
  have HB1 := Lib.hid (HB0.out.trans (b2.mono HB0.out.size))
  have HR1 := Lib.hid (HR0.out.below b2 HR0.out.lt)
  have HL1 := Lib.hid (show w.heap.size < w1.heap.size by have := HSZ.out; have := b1.size; omega)
  have HL2 := Lib.hid (show w1.heap.size < W1.heap.size from hh1.lt)
  have HH1 := Lib.hid hh1
  have HB0' := Lib.hid b1.size
  subst hW1
  clear ho1 b1 b2 hh1 HC0 HC
  go_wp2_with fail
  refine HC1.out.mono ?_
  rintro e w2 ⟨tv, rfl, ho2, b3⟩
  have HO2 := Lib.hid (ho2.anyInts (Y := fun _ => False))
  have HB2 := Lib.hid (HB1.out.trans (b3.mono HB1.out.size))
  have HR2 := Lib.hid (HR1.out.below b3 HR1.out.lt)
  have HH2 := Lib.hid (HH1.out.below b3 HH1.out.lt)
  obtain ⟨ta, tc, rfl⟩ := ho2.heldInts.len
  have c0 := HH2.out.cell 0 _ rfl
  have c1 := HH2.out.cell 1 _ rfl
  have f0 := HH2.out.free 0
  have f1 := HH2.out.free 1
  clear ho2 b3
  go_upto_region 9 with (fail)
  obtain ⟨W, hW⟩ : ∃ W, W = (w2.setCell ⟨w1.heap.size, 0, none⟩ (.int .i64 2)).setCell ⟨w1.heap.size, 1, none⟩ (.slice ta T.length tc) := ⟨_, rfl⟩
  have hbW : Below w1.heap.size w2 W := by rw [hW]; exact ((Below.refl _ _).setCell (by simp) _).setCell (by simp) _
  have hc1 : W.cell? ⟨w1.heap.size, 1, none⟩ = some (.slice ta T.length tc) := by rw [hW]; exact ((HH2.out.set 0 (.int .i64 2)).set 1 (.slice ta T.length tc)).cell 1 _ rfl
  have HOW := Lib.hid (show OwnE (intE .i32) (fun _ => False) W _ 21 (.slice ta T.length tc) T from by
    rw [hW]
    exact OwnE.upd HO2.out (((Upd.refl (fun b => b = w1.heap.size) w2).setCell (.inl rfl) _).setCell (.inl rfl) _) (fun b h e => by
      rcases h with h | h
      · exact h
      · have := (HO2.out.lt b h).1
        have := HL2.out
        omega))
  rw [← hW]
  clear hW c0 c1 f0 f1
  have d1 := ext_cell hc1
  clear hc1
  refine wp_region_ext_tail 5 (by kernel_rfl) (by simp) (by kernel_rfl) (by kernel_rfl) (by kernel_rfl) (by kernel_rfl) (by kernel_rfl) ?_
  simp only [List.take_succ_cons, List.take_zero, List.drop_succ_cons, List.drop_zero]
  repeat (go_big_quiet_step ((fail)))
  refine wpQuiet_nil ?_
  intro _ hw'
  obtain ⟨u, hw''⟩ := hw'
  subst hw''
  obtain ⟨W3, hW3⟩ : ∃ W3, W3 = ext W u := ⟨_, rfl⟩
  have bu : Below W.heap.size W W3 := by rw [hW3]; exact u.ok
  rw [← hW3]
  clear hW3
  have hs2 := HR2.out.lt
  have r2 := (HR2.out.below hbW HL1.out).below bu (Nat.lt_of_lt_of_le hs2 hbW.size)
  have k0 := r2.cell 0 _ rfl
  have k1 := r2.cell 1 _ rfl
  have f0 := r2.free 0
  have f1 := r2.free 1
  have HO3 := Lib.hid (HOW.out.below bu)
  have HB3 := Lib.hid ((HB2.out.trans (hbW.mono (Nat.le_of_lt HL1.out))).trans (bu.mono (Nat.le_trans HB2.out.size hbW.size)))
  clear bu r2 d1 hbW hs2
  go_wp2
  refine bodyPost_ret (v := .tuple #[.int .i64 k, .agg #[.int .i64 2, .slice ta T.length tc], .bool true]) (by simp [results, Tryd.results82, go_sem, k0, k1, f0, f1]) rfl ⟨_, rfl, ?_, ?_⟩
  · exact OwnE.anyInts (OwnE.base (OwnE.upd HO3.out ((((Upd.refl (fun b => b < w.heap.size + 1) W3).setCell (.inl (by simp)) _).setCell (.inl (by simp)) _)) (fun b h k => by
      rcases h with h | h
      · exact h
      · have := (HO3.out.lt b h).1
        have := HL1.out
        have := HL2.out
        omega)) (by have := HL1.out; have := HL2.out; omega))
  · exact ((HB3.out.setCell (by simp) _).setCell (by simp) _)
end Go.Proofs.YtomfclkldmmmgaaDoor
