/- mark: Add. -/
import Derived.Test.YtomfclkldmmmgaaDoorMarkE
import Derived.Test.YtomfclkldmmmgaaDoorReg
import Derived.Test.YtomfclkldmmmgaaDoorAppK
namespace Go.Proofs.YtomfclkldmmmgaaDoor
open Go.RowKit Go.ChangeShapes Go.WideShapes
theorem RowAt.lower {Z : Zone} {w : World} {B g gc : Nat} {L : List Cl} {wrap : Bool} (h : RowAt Z w B g gc L wrap) : RowAt (fun b => b < w.heap.size) w B g gc L wrap := h.keep (.refl _ _) fun b hb _ => hb
theorem RowAt.any {Z : Zone} {w : World} {B g gc : Nat} {L : List Cl} {wrap : Bool} (h : RowAt Z w B g gc L wrap) : RowAt (fun _ => True) w B g gc L wrap := h.keep (.refl _ _) fun b hb _ => trivial
theorem kept_upd {S : Zone} {w w' : World} {base : Nat} {e : TypeId} {size : Nat} {D C : List Value} {m : Nat} (hu : Upd S w w') (hs : ∀ b, S b → b < base) : Kept w w' base e size D C m := by
  refine ⟨fun v n xs h _ => ownsRow_same h fun g hg => ?_, fun g h => ownsRow_same h fun g2 hg => ?_⟩
  · have := h.lt g hg
    exact hu.block g this.2 fun hsg => by have := hs g hsg; omega
  · have := h.lt g2 hg
    exact hu.block g2 this.2 fun hsg => by have := hs g2 hsg; omega
/-- An append of a new one to a row of the call's own. -/
theorem int_append (w : World) (B : Nat) (ty : TypeId) (v : Value) (T : List Int) (x : Int) (hown : w.ownsRow B 21 1 v T.length (T.map (Value.int .i32))) (g : Nat) (hu : w.ownsRow B 21 1 (.slice (some ⟨g, 0, none⟩) 1 1) 1 [.int .i32 x]) (hn : T.length ≤ 1000000) (hbase : B ≤ w.heap.size) :
    ∃ v' w', (Builtin.append_ #[25, 25] ty #[v, .slice (some ⟨g, 0, none⟩) 1 1]).run Tryd.prog w = .ok v' w' ∧ w'.ownsRow B 21 1 v' (T.length + 1) (T.map (Value.int .i32) ++ [.int .i32 x]) ∧ w.grownBy w' v.ownBlock ∧ Kept w w' B 21 1 (T.map (Value.int .i32) ++ [.int .i32 x]) [.int .i32 x] 1 := by
  obtain ⟨i0, hi, hz0, hz1, hz2⟩ := info_parts info_rune
  have hc : ∀ j u, ([Value.int .i32 x] : List Value)[j]? = some u → w.cell? ((⟨g, 0, none⟩ : Addr).add j) = some u := by
    have hh : HeldE (intE .i32) (fun _ => True) w (.slice (some ⟨g, 0, none⟩) 1 1) [x] := (ownE_ints (Z := fun _ => True) (xs := [x]) (by simpa using hu)).held fun _ _ _ => trivial
    intro j u hj
    match j with
    | 0 =>
      simp only [List.getElem?_cons_zero, Option.some.injEq] at hj
      subst hj
      obtain ⟨_, _, hs⟩ := hh.spots
      obtain ⟨b, off, e, _, _, C, hC, hr⟩ := hs 0 (by simp)
      cases e
      have hr : C = [.int .i32 x] := hr
      subst hr
      exact hC 0 (by decide)
    | j + 1 => simp at hj
  exact run_append_kept (P := Tryd.prog) w B 25 ty 21 i0 _ 1 4 Tryd.underlying25 hi hz0 hz1 hz2 rfl (by decide) v T.length _ hown ⟨g, 0, none⟩ 1 1 [.int .i32 x] rfl hc (by simp [Value.oneCell']) (by unfold maxLen; omega) (by omega) hbase
set_option maxRecDepth 100000 in
set_option maxHeartbeats 4000000 in
theorem madd_any (B g gc : Nat) (L : List Cl) (wrap : Bool) (col x : Int) (w : World) (h : RowAt (fun _ => True) w B g gc L wrap) : Calls Tryd.prog 30 #[.pointer (some ⟨g, 0, none⟩), .int .i64 col, .int .i32 x] w (Turned3 w B g gc (addL L wrap col x)) := by
  obtain ⟨hl0, hl1, hls⟩ := h.len
  have HR := Lib.hid h
  by_cases hc0 : clAt L col < 0
  · have HE := Lib.hid (show addL L wrap col x = (L, wrap, false) by unfold addL; rw [if_pos (.inl hc0)])
    have HC := Lib.hid (mat_none B g gc L wrap col w h hc0)
    clear h hls hc0
    go_enter Tryd.func30, Tryd.ntmps30
    go_wp2_with fail
    refine HC.out.mono ?_
    rintro e w1 ⟨rfl, b1⟩
    have HB := Lib.hid (b1.alloc b1.size (.cells #[.int .i64 0, .slice none 0 0] 113))
    clear b1
    go_wp2
    go_ret
    rw [HE.out]
    exact Turned3.same HR.out HB.out
  obtain ⟨k, hck, hk, hcase, ht0, ht1, htv⟩ := cl_some hls (show 0 ≤ clAt L col by omega)
  have HC := Lib.hid (mat_some B g gc L wrap col w h k hk hcase)
  have hwE : addL L wrap col x = if 15 < (L.getD k zc).2.length then (L, wrap, false) else (paintL L (ofC (L.getD k zc).1 ((L.getD k zc).2 ++ [x])) k, wrap && !lastHit L (ofC (L.getD k zc).1 ((L.getD k zc).2 ++ [x])) k, true) := by
    unfold addL
    rw [hck, Int.toNat_natCast]
    by_cases hq : 15 < (L.getD k zc).2.length
    · rw [if_pos hq, if_pos (.inr hq)]
    · rw [if_neg hq, if_neg (by omega)]
  have hK : ((L.getD k zc).1 = 1) ∨ ((L.getD k zc).1 = 2 ∧ k + 1 < L.length) := by
    rcases hcase with ⟨e, _⟩ | ⟨e, h2, _⟩
    · exact .inl e
    · exact .inr ⟨e, h2⟩
  have HWG := Lib.hid (show wrongI L.length k (ofC (L.getD k zc).1 ((L.getD k zc).2 ++ [x])) = 0 from wrong_none (by
    rw [ofC_len]
    split
    · omega
    · omega) (ofC_sound _ _))
  generalize L.getD k zc = c at HC hwE HWG ht0 ht1 htv
  obtain ⟨K, T⟩ := c
  simp only at hwE HWG ht0 ht1 htv
  by_cases h15 : 15 < T.length
  · have HE := Lib.hid (show addL L wrap col x = (L, wrap, false) by rw [hwE, if_pos h15])
    have hd : decide ((16 : Int) ≤ T.length) = true := by simp; omega
    clear h hls hwE hcase HWG htv
    go_enter Tryd.func30, Tryd.ntmps30
    go_wp2_with fail
    refine HC.out.mono ?_
    rintro e w1 ⟨tv, rfl, ho1, b1⟩
    obtain ⟨ta, tc, rfl⟩ := ho1.heldInts.len
    have HB := Lib.hid (b1.alloc b1.size (.cells #[.int .i64 K, .slice ta T.length tc] 113))
    clear b1 ho1
    go_wp2
    go_ret
    rw [HE.out]
    exact Turned3.same HR.out HB.out
  have HE := Lib.hid (show addL L wrap col x = (paintL L (ofC K (T ++ [x])) k, wrap && !lastHit L (ofC K (T ++ [x])) k, true) by rw [hwE, if_neg h15])
  have hd : decide ((16 : Int) ≤ T.length) = false := by simp; omega
  have hgl := h.lt
  have HGL := Lib.hid hgl
  have HRL := Lib.hid h.lower
  clear h hls hwE hcase htv hK hc0 hck hgl
  go_enter Tryd.func30, Tryd.ntmps30
  go_wp2_with fail
  refine HC.out.mono ?_
  rintro e w1 ⟨tv, rfl, ho1, b1⟩
  have hlo := ho1.lt
  obtain ⟨ta, tc, rfl⟩ := ho1.heldInts.len
  go_upto_region 4 with (fail)
  obtain ⟨W, hW⟩ : ∃ W, W = w1.alloc (.cells #[.int .i64 K, .slice ta T.length tc] 113) := ⟨_, rfl⟩
  have bW : Below w1.heap.size w1 W := by rw [hW]; exact (Below.refl _ _).alloc (Nat.le_refl _) _
  have hitem : Has W w1.heap.size [.int .i64 K, .slice ta T.length tc] 113 := by rw [hW]; exact Has.new w1 _ _
  rw [← hW]
  have HO := Lib.hid ((ho1.ints (Z := fun _ => True)))
  have HOW := Lib.hid (ownsRow_below (ho1.ints (Z := fun _ => True)) bW)
  have HIT := Lib.hid hitem
  have HBW := Lib.hid (b1.trans (bW.mono b1.size))
  have HLO := Lib.hid hlo
  have HSZ := Lib.hid b1.size
  clear ho1 b1 bW hitem hW hlo
  obtain ⟨L2, hL2⟩ : ∃ L2, L2 = paintL L (ofC K (T ++ [x])) k := ⟨_, rfl⟩
  obtain ⟨q2, hq2⟩ : ∃ q2, q2 = (wrap && !lastHit L (ofC K (T ++ [x])) k) := ⟨_, rfl⟩
  have HP := Lib.hid (fun v w' h hv => mput_good (fun b => w.heap.size ≤ b) B g gc L wrap (k : Int) K v (T ++ [x]) w' h hv HWG.out)
  rw [Int.toNat_natCast, ← hL2, ← hq2] at HP
  rw [← hL2, ← hq2] at HE
  clear hL2 hq2
  obtain ⟨tb, htb⟩ : ∃ tb, tb = (Value.slice ta T.length tc).ownBlock := ⟨_, rfl⟩
  rw [← htb] at HLO
  have HTB := Lib.hid htb
  clear htb
  have HIX := Lib.hid (show ∀ w', Upd (fun b => b = g ∨ b = gc ∨ tb = some b) W w' → Has w' w1.heap.size [.int .i64 K, .slice ta T.length tc] 113 from fun w' hu => hu.keep.has HIT.out (by
    have := HGL.out
    have := HSZ.out
    rintro (e | e | e)
    · omega
    · omega
    · have := HLO.out _ e; omega))
  obtain ⟨Erg, hErg⟩ : ∃ EE : Nat → Value → World → Prop, EE = fun jj xx ww => match jj with
      | 0 => xx = .pointer (some ⟨g, 0, none⟩)
      | 1 => xx = .int .i64 k
      | 2 => xx = .pointer (some ⟨w1.heap.size, 0, none⟩)
      | 3 => xx = .int .i64 K
      | 4 => xx = .pointer (some ⟨w1.heap.size, 1, none⟩)
      | 5 => xx = .slice ta T.length tc
      | 6 => xx = .int .i32 x
      | 7 => (fun y w' => ∃ g9, y = .slice (some ⟨g9, 0, none⟩) 1 1 ∧ w'.ownsRow w.heap.size 21 1 (.slice (some ⟨g9, 0, none⟩) 1 1) 1 [.int .i32 x]) xx ww
      | 8 => (fun y w' => w'.ownsRow w.heap.size 21 1 y (T.length + 1) (T.map (Value.int .i32) ++ [.int .i32 x])) xx ww
      | 9 => xx = .nilIface
      | 10 => xx = .bool true
      | 11 => xx = .bool true
      | _ => True := ⟨_, rfl⟩
  have erg0 : ∀ xx ww, Erg 0 xx ww = (xx = .pointer (some ⟨g, 0, none⟩)) := fun xx ww => congrFun (congrFun (congrFun hErg 0) xx) ww
  have erg1 : ∀ xx ww, Erg 1 xx ww = (xx = .int .i64 k) := fun xx ww => congrFun (congrFun (congrFun hErg 1) xx) ww
  have erg2 : ∀ xx ww, Erg 2 xx ww = (xx = .pointer (some ⟨w1.heap.size, 0, none⟩)) := fun xx ww => congrFun (congrFun (congrFun hErg 2) xx) ww
  have erg3 : ∀ xx ww, Erg 3 xx ww = (xx = .int .i64 K) := fun xx ww => congrFun (congrFun (congrFun hErg 3) xx) ww
  have erg4 : ∀ xx ww, Erg 4 xx ww = (xx = .pointer (some ⟨w1.heap.size, 1, none⟩)) := fun xx ww => congrFun (congrFun (congrFun hErg 4) xx) ww
  have erg5 : ∀ xx ww, Erg 5 xx ww = (xx = .slice ta T.length tc) := fun xx ww => congrFun (congrFun (congrFun hErg 5) xx) ww
  have erg6 : ∀ xx ww, Erg 6 xx ww = (xx = .int .i32 x) := fun xx ww => congrFun (congrFun (congrFun hErg 6) xx) ww
  have erg7 : ∀ xx ww, Erg 7 xx ww = ((fun y w' => ∃ g9, y = .slice (some ⟨g9, 0, none⟩) 1 1 ∧ w'.ownsRow w.heap.size 21 1 (.slice (some ⟨g9, 0, none⟩) 1 1) 1 [.int .i32 x]) xx ww) := fun xx ww => congrFun (congrFun (congrFun hErg 7) xx) ww
  have erg8 : ∀ xx ww, Erg 8 xx ww = ((fun y w' => w'.ownsRow w.heap.size 21 1 y (T.length + 1) (T.map (Value.int .i32) ++ [.int .i32 x])) xx ww) := fun xx ww => congrFun (congrFun (congrFun hErg 8) xx) ww
  have erg9 : ∀ xx ww, Erg 9 xx ww = (xx = .nilIface) := fun xx ww => congrFun (congrFun (congrFun hErg 9) xx) ww
  have erg10 : ∀ xx ww, Erg 10 xx ww = (xx = .bool true) := fun xx ww => congrFun (congrFun (congrFun hErg 10) xx) ww
  have erg11 : ∀ xx ww, Erg 11 xx ww = (xx = .bool true) := fun xx ww => congrFun (congrFun (congrFun hErg 11) xx) ww
  obtain ⟨Crg, hCrg⟩ : ∃ CC : Array Bool → World → Prop, CC = fun L8 w' => Upd (fun b => b = g ∨ b = gc ∨ tb = some b) W w' ∧ w'.ownsRow w.heap.size 21 1 (.slice ta T.length tc) T.length (T.map (Value.int .i32)) ∧ (Mix.one L8 9 = 0 → RowAt (fun b => b < w.heap.size) w' B g gc L wrap) ∧ (Mix.one L8 9 = 1 → RowAt (fun _ => True) w' B g gc L2 q2) := ⟨_, rfl⟩
  have krg : ∀ i L w, i ≠ 9 →  Crg L w → Crg (L.setIfInBounds i true) w := by
    intro i L w q9 h
    rw [hCrg] at h ⊢
    simp only [Mix.one_ne q9]; exact h
  obtain ⟨Xrg, hXrg⟩ : ∃ XX : World → World → Prop, XX = fun y z => Kept y z w.heap.size 21 1 (T.map (Value.int .i32) ++ [.int .i32 x]) [.int .i32 x] 1 := ⟨_, rfl⟩
  have xrg : ∀ w, Xrg w w := fun w => by rw [hXrg]; exact Kept.refl _ _ _ _ _ _ _
  have strg : ∀ j x w w1, Xrg w w1 → Erg j x w → Erg j x w1 := by
    intro j x w w1 hx h
    rw [hXrg] at hx
    match j with
    | 0 => rw [erg0] at h ⊢; exact h
    | 1 => rw [erg1] at h ⊢; exact h
    | 2 => rw [erg2] at h ⊢; exact h
    | 3 => rw [erg3] at h ⊢; exact h
    | 4 => rw [erg4] at h ⊢; exact h
    | 5 => rw [erg5] at h ⊢; exact h
    | 6 => rw [erg6] at h ⊢; exact h
    | 7 => rw [erg7] at h ⊢; (first | exact hx.1 _ _ _ h (List.prefix_refl _) | (obtain ⟨g9, e9, h9⟩ := h; exact ⟨g9, e9, hx.2 _ h9⟩))
    | 8 => rw [erg8] at h ⊢; (first | exact hx.1 _ _ _ h (List.prefix_refl _) | (obtain ⟨g9, e9, h9⟩ := h; exact ⟨g9, e9, hx.2 _ h9⟩))
    | 9 => rw [erg9] at h ⊢; exact h
    | 10 => rw [erg10] at h ⊢; exact h
    | 11 => rw [erg11] at h ⊢; exact h
    | j + 12 => rw [hErg]; trivial
  have crg : Crg (Array.replicate 12 false) W.drew := by rw [hCrg]; exact ⟨(Upd.refl _ _).drew, ownsRow_below HOW.out (Below.refl _ _).drew, fun _ => (HRL.out.below HBW.out).below (Below.refl _ _).drew, fun e => absurd e (by decide)⟩
  have brg : ∀ L w w1, Crg L w → Below w.heap.size w w1 → Crg L w1 := by
    intro L w w1 h hb
    rw [hCrg] at h ⊢
    exact ⟨h.1.trans (.ofBelow hb), ownsRow_below h.2.1 hb, fun e => (h.2.2.1 e).below hb, fun e => (h.2.2.2 e).below hb⟩
  have xbrg : ∀ w w1, Below w.heap.size w w1 → Xrg w w1 := by
    intro w w1 hb
    rw [hXrg]
    exact Kept.below hb _ _ _ _ _ _
  have Hrgb := Lib.hid brg
  have Hrgxb := Lib.hid xbrg
  clear brg xbrg
  clear hErg
  have Hrgk := Lib.hid krg
  have Hrgx := Lib.hid xrg
  have Hrgst := Lib.hid strg
  have Hrgc := Lib.hid crg
  have HrghC := Lib.hid hCrg
  have HrghX := Lib.hid hXrg
  have Hrge0 := Lib.hid erg0
  have Hrge1 := Lib.hid erg1
  have Hrge2 := Lib.hid erg2
  have Hrge3 := Lib.hid erg3
  have Hrge4 := Lib.hid erg4
  have Hrge5 := Lib.hid erg5
  have Hrge6 := Lib.hid erg6
  have Hrge7 := Lib.hid erg7
  have Hrge8 := Lib.hid erg8
  have Hrge9 := Lib.hid erg9
  have Hrge10 := Lib.hid erg10
  have Hrge11 := Lib.hid erg11
  clear krg xrg strg crg hCrg hXrg erg0 erg1 erg2 erg3 erg4 erg5 erg6 erg7 erg8 erg9 erg10 erg11
  go_wp2_with fail
  refine Reg.regionF Erg Crg Xrg Hrgst.out (by kernel_rfl) (by kernel_rfl) (by kernel_rfl) Hrgc.out (fun Frg hFrg => ?_)
  simp only [Reg.frame, Reg.dsts, List.map_cons, List.map_nil, Mix.put_lit, List.set_cons_succ, List.set_cons_zero, Nat.zero_add, Nat.reduceAdd] at hFrg
  refine ⟨?_, ?_⟩
  · refine ⟨?_, ?_, ?_, ?_, ?_, ?_, ?_, ?_, ?_, ?_, ?_, ?_, trivial⟩
    · intro Lq wq xq hh
      simp only [hFrg]
      refine .inl ⟨rfl, ?_⟩
      unfold Reg.upon
      have hk := Hrgk.out 0 Lq wq (by decide)  hh.cls
      have hx := Hrgx.out wq
      have he : Erg 0 (.pointer (some ⟨g, 0, none⟩)) wq := by rw [Hrge0.out]
      have HK := Lib.hid (And.intro hk (And.intro he hx))
      clear hk hx he
      go_simp
      exact HK.out
    · intro Lq wq xq hh
      simp only [hFrg]
      refine .inl ⟨rfl, ?_⟩
      unfold Reg.upon
      have hk := Hrgk.out 1 Lq wq (by decide)  hh.cls
      have hx := Hrgx.out wq
      have he : Erg 1 (.int .i64 k) wq := by rw [Hrge1.out]
      have HK := Lib.hid (And.intro hk (And.intro he hx))
      clear hk hx he
      go_simp
      exact HK.out
    · intro Lq wq xq hh
      simp only [hFrg]
      refine .inl ⟨rfl, ?_⟩
      unfold Reg.upon
      have hk := Hrgk.out 2 Lq wq (by decide)  hh.cls
      have hx := Hrgx.out wq
      have he : Erg 2 (.pointer (some ⟨w1.heap.size, 0, none⟩)) wq := by rw [Hrge2.out]
      have HK := Lib.hid (And.intro hk (And.intro he hx))
      clear hk hx he
      go_simp
      exact HK.out
    · intro Lq wq xq hh
      have d2 : Erg 2 (xq 2) wq := hh.val 2 (by kernel_rfl) (by kernel_rfl)
      rw [Hrge2.out] at d2
      simp only [hFrg, d2]
      clear d2
      refine .inl ⟨rfl, ?_⟩
      unfold Reg.upon
      have hc : Crg Lq wq := hh.cls
      rw [HrghC.out] at hc
      have h3 := (HIX.out wq hc.1).cell 0 _ rfl
      clear hc
      have hk := Hrgk.out 3 Lq wq (by decide)  hh.cls
      have hx := Hrgx.out wq
      have he : Erg 3 (.int .i64 K) wq := by rw [Hrge3.out]
      have HK := Lib.hid (And.intro hk (And.intro he hx))
      clear hk hx he
      go_simp
      exact HK.out
    · intro Lq wq xq hh
      simp only [hFrg]
      refine .inl ⟨rfl, ?_⟩
      unfold Reg.upon
      have hk := Hrgk.out 4 Lq wq (by decide)  hh.cls
      have hx := Hrgx.out wq
      have he : Erg 4 (.pointer (some ⟨w1.heap.size, 1, none⟩)) wq := by rw [Hrge4.out]
      have HK := Lib.hid (And.intro hk (And.intro he hx))
      clear hk hx he
      go_simp
      exact HK.out
    · intro Lq wq xq hh
      have d4 : Erg 4 (xq 4) wq := hh.val 4 (by kernel_rfl) (by kernel_rfl)
      rw [Hrge4.out] at d4
      simp only [hFrg, d4]
      clear d4
      refine .inl ⟨rfl, ?_⟩
      unfold Reg.upon
      have hc : Crg Lq wq := hh.cls
      rw [HrghC.out] at hc
      have h5 := (HIX.out wq hc.1).cell 1 _ rfl
      clear hc
      have hk := Hrgk.out 5 Lq wq (by decide)  hh.cls
      have hx := Hrgx.out wq
      have he : Erg 5 (.slice ta T.length tc) wq := by rw [Hrge5.out]
      have HK := Lib.hid (And.intro hk (And.intro he hx))
      clear hk hx he
      go_simp
      exact HK.out
    · intro Lq wq xq hh
      simp only [hFrg]
      refine .inl ⟨rfl, ?_⟩
      unfold Reg.upon
      have hk := Hrgk.out 6 Lq wq (by decide)  hh.cls
      have hx := Hrgx.out wq
      have he : Erg 6 (.int .i32 x) wq := by rw [Hrge6.out]
      have HK := Lib.hid (And.intro hk (And.intro he hx))
      clear hk hx he
      go_simp
      exact HK.out
    · intro Lq wq xq hh
      have d6 : Erg 6 (xq 6) wq := hh.val 6 (by kernel_rfl) (by kernel_rfl)
      rw [Hrge6.out] at d6
      simp only [hFrg, d6]
      clear d6
      refine .inl ⟨rfl, ?_⟩
      unfold Reg.upon
      go_simp
      have hb1 := (Below.refl wq.heap.size wq).alloc (Nat.le_refl _) (.cells #[.int .i32 x] 21)
      refine ⟨Hrgk.out 7 Lq _ (by decide) (Hrgb.out Lq wq _ hh.cls hb1), ?_, Hrgxb.out wq _ hb1⟩
      rw [Hrge7.out]
      exact ⟨_, rfl, World.ownsRow_lit wq #[.int .i32 x] 1 (by have hc : Crg Lq wq := hh.cls; rw [HrghC.out] at hc; exact Nat.le_trans HBW.out.size hc.1.size) (by decide) rfl⟩
    · intro Lq wq xq hh
      have d5 : Erg 5 (xq 5) wq := hh.val 5 (by kernel_rfl) (by kernel_rfl)
      rw [Hrge5.out] at d5
      have d7 : Erg 7 (xq 7) wq := hh.val 7 (by kernel_rfl) (by kernel_rfl)
      rw [Hrge7.out] at d7
      simp only [hFrg, d5]
      clear d5
      refine .inl ⟨rfl, ?_⟩
      unfold Reg.upon
      obtain ⟨g9, e9, h9⟩ := d7
      rw [e9]
      have hc : Crg Lq wq := hh.cls
      rw [HrghC.out] at hc
      obtain ⟨v', w', hr, h2, hgr, hk⟩ := int_append wq _ 25 _ T x hc.2.1 g9 h9 (by omega) (Nat.le_trans HBW.out.size hc.1.size)
      have hu8 : Upd (fun b => tb = some b) wq w' := ⟨hgr.os, hgr.tape, hgr.output, hgr.size, fun b hb hn => hgr.block b hb (fun e => hn (by rw [HTB.out]; exact e.symm))⟩
      rw [exec_app rfl rfl rfl hr]
      refine ⟨Hrgk.out 8 Lq _ (by decide) (by rw [HrghC.out]; exact ⟨hc.1.trans (hu8.mono fun b _ e => .inr (.inr e)), hk.1 _ _ _ hc.2.1 (List.prefix_append _ _), fun e => (hc.2.2.1 e).upd hu8 (fun b hb e2 => by have := HLO.out _ e2; omega) (fun e2 => by have := HLO.out _ e2; have := HGL.out; omega) (fun e2 => by have := HLO.out _ e2; have := HGL.out; omega), fun e => by rw [Mix.one_un (hh.notYet 9 (by kernel_rfl))] at e; exact absurd e (by decide)⟩), ?_, by rw [HrghX.out]; exact hk⟩
      rw [Hrge8.out]
      exact h2
    · intro Lq wq xq hh
      have d0 : Erg 0 (xq 0) wq := hh.val 0 (by kernel_rfl) (by kernel_rfl)
      rw [Hrge0.out] at d0
      have d1 : Erg 1 (xq 1) wq := hh.val 1 (by kernel_rfl) (by kernel_rfl)
      rw [Hrge1.out] at d1
      have d3 : Erg 3 (xq 3) wq := hh.val 3 (by kernel_rfl) (by kernel_rfl)
      rw [Hrge3.out] at d3
      have d8 : Erg 8 (xq 8) wq := hh.val 8 (by kernel_rfl) (by kernel_rfl)
      rw [Hrge8.out] at d8
      simp only [hFrg, d0, d1, d3]
      clear d0 d1 d3
      refine .inl ⟨rfl, ?_⟩
      unfold Reg.upon
      have hc : Crg Lq wq := hh.cls
      rw [HrghC.out] at hc
      have h9 := hc.2.2.1 hh.un
      have hv9 := HeldE.ownedInts (xs := T ++ [x]) (n := T.length + 1) (by simpa using d8)
      go_simp
      refine (HP.out _ wq h9.any hv9).mono ?_
      rintro e w2 ⟨rfl, h1, u1⟩
      have hk9 := kept_upd (base := w.heap.size) (e := 21) (size := 1) (D := T.map (Value.int .i32) ++ [.int .i32 x]) (C := [.int .i32 x]) (m := 1) u1 (fun b e => by have := HGL.out; rcases e with e | e <;> omega)
      refine ⟨_, rfl, ?_, (by rw [Hrge9.out]), (by rw [HrghX.out]; exact hk9)⟩
      rw [HrghC.out]
      dsimp only
      refine ⟨hc.1.trans (u1.mono fun b _ e => by rcases e with e | e; exact .inl e; exact .inr (.inl e)), hk9.1 _ _ _ hc.2.1 (List.prefix_append _ _), fun e => ?_, fun _ => h1⟩
      rw [Mix.one_set (by rw [hh.size]; decide)] at e
      exact absurd e (by decide)
    · intro Lq wq xq hh
      have d9 : Erg 9 (xq 9) wq := hh.val 9 (by kernel_rfl) (by kernel_rfl)
      rw [Hrge9.out] at d9
      simp only [hFrg, d9]
      clear d9
      refine .inl ⟨rfl, ?_⟩
      unfold Reg.upon
      have hk := Hrgk.out 10 Lq wq (by decide)  hh.cls
      have hx := Hrgx.out wq
      have he : Erg 10 (.bool true) wq := by rw [Hrge10.out]
      have HK := Lib.hid (And.intro hk (And.intro he hx))
      clear hk hx he
      go_simp
      exact HK.out
    · intro Lq wq xq hh
      have d10 : Erg 10 (xq 10) wq := hh.val 10 (by kernel_rfl) (by kernel_rfl)
      rw [Hrge10.out] at d10
      simp only [hFrg, d10]
      clear d10
      refine .inl ⟨rfl, ?_⟩
      unfold Reg.upon
      have hk := Hrgk.out 11 Lq wq (by decide)  hh.cls
      have hx := Hrgx.out wq
      have he : Erg 11 (.bool true) wq := by rw [Hrge11.out]
      have HK := Lib.hid (And.intro hk (And.intro he hx))
      clear hk hx he
      go_simp
      exact HK.out
  intro xq wrg hcrg hvrg
  rw [HrghC.out] at hcrg
  simp only [hFrg]
  have vrg11 : Erg 11 (xq 11) wrg := hvrg 11 (by decide)
  rw [Hrge11.out] at vrg11
  rw [vrg11]
  clear hvrg hFrg Hrgk Hrgx Hrgst Hrgc HrghC HrghX Hrgb Hrgxb Hrge0 Hrge1 Hrge2 Hrge3 Hrge4 Hrge5 Hrge6 Hrge7 Hrge8 Hrge9 Hrge10 Hrge11
  have hr := hcrg.2.2.2 (by kernel_rfl)
  have hu : Upd (fun b => b = g ∨ b = gc) w wrg := ((Upd.ofBelow HBW.out).trans hcrg.1).mono (fun b hb e => by
    rcases e with e | e | e
    · exact .inl e
    · exact .inr e
    · have := (HLO.out _ e).1; omega)
  have HF := Lib.hid (And.intro hr hu)
  clear hr hu hcrg vrg11
  go_wp2
  go_ret
  rw [HE.out]
  exact ⟨rfl, HF.out.1, HF.out.2⟩
theorem madd_nil (col x : Int) (w : World) : Calls Tryd.prog 30 #[.pointer none, .int .i64 col, .int .i32 x] w (Gives w (.bool false)) := by
  go_enter Tryd.func30, Tryd.ntmps30
  go_wp2_with fail
  refine (mat_nil col w).mono ?_
  rintro e w1 ⟨rfl, b1⟩
  have HB := Lib.hid (b1.alloc b1.size (.cells #[.int .i64 0, .slice none 0 0] 113))
  clear b1
  go_wp2
  go_ret
  exact ⟨rfl, HB.out⟩
end Go.Proofs.YtomfclkldmmmgaaDoor
