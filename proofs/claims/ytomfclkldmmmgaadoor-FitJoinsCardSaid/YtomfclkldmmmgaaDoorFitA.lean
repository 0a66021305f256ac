/- fit: made, Resize. -/
import Derived.Test.YtomfclkldmmmgaaDoorShfD
import Derived.Test.YtomfclkldmmmgaaDoorRowO
import Derived.Test.YtomfclkldmmmgaaDoorCellO
import Derived.Test.YtomfclkldmmmgaaDoorRowX
import Derived.Test.YtomfclkldmmmgaaDoorCellP
import Derived.Test.YtomfclkldmmmgaaDoorErrS
namespace Go.Proofs.YtomfclkldmmmgaaDoor
open Go.RowKit Go.ChangeShapes Go.WideShapes
/-- ErrRange is an error. -/
def RangeErr (w : World) : Prop := ∃ a : Addr, w.cell? ⟨0, 0, none⟩ = some (.iface 171 (.pointer (some a)))
theorem RangeErr.below {w w' : World} (h : RangeErr w) (hb : Below w.heap.size w w') : RangeErr w' := by
  obtain ⟨a, h⟩ := h
  refine ⟨a, (hb.cell (p := ⟨0, 0, none⟩) ?_).trans h⟩
  rcases Nat.lt_or_ge (0 : Nat) w.heap.size with h' | h'
  · exact h'
  · exfalso
    have : w.heap[(0 : Nat)]? = none := Array.getElem?_eq_none h'
    simp [World.cell?, this] at h
theorem range_of_row {W : World} (h : laidMetH Tryd.prog [("linotype/api.ErrRange", sentD [114, 97, 110, 103, 101]), ("linotype/api.ErrKind", sentD [107, 105, 110, 100])] W) : RangeErr W := by
  obtain ⟨ps, hv, hnd, hrows⟩ := h
  obtain ⟨ads, h1, h2, h3, h4⟩ := laidVars_sents Tryd.underlying30 esRow Tryd.underlying171 Tryd.underlying192 rfl rfl Tryd.underlying9 (by kernel_rfl) (by kernel_rfl) [("linotype/api.ErrRange", [114, 97, 110, 103, 101], 0), ("linotype/api.ErrKind", [107, 105, 110, 100], 1)] ps
    (by intro x hx; simp only [List.mem_cons, List.not_mem_nil, or_false] at hx; rcases hx with rfl | rfl <;> exact ⟨by kernel_rfl, by kernel_rfl⟩) hv hrows hnd
  exact ⟨_, h2 0 (by decide)⟩
set_option maxRecDepth 100000 in
theorem rof_rangeR (Y : Zone) (v : Value) (L : List Cl) (w : World) (hs : RangeErr w) (hv : HeldE cellE Y w v L) (hbad : L.length = 0 ∨ 1024 < L.length) : Calls Tryd.prog 17 #[v] w (fun e w' => ∃ a : Addr, e = .returned (.tuple #[.pointer none, .iface 171 (.pointer (some a))]) ∧ Below w.heap.size w w') := by
  obtain ⟨sa2, c2⟩ := hs
  have hm := hv.max
  obtain ⟨ao, pc, rfl⟩ := hv.len
  clear hv
  rcases hbad with h0 | h0
  · have hz : ((L.length : Int) == 0) = true := by rw [h0]; rfl
    clear h0
    go_enter Tryd.func17, Tryd.ntmps17
    go_wp2
    go_quiet (fail)
    go_wp2
    go_ret2
    exact ⟨_, rfl, (Below.refl _ _).drewN _⟩
  · have hz : ((L.length : Int) == 0) = false := by rw [beq_eq_false_iff_ne]; omega
    go_enter Tryd.func17, Tryd.ntmps17
    go_wp2
    go_quiet (fail)
    go_wp2
    go_ret2
    exact ⟨_, rfl, (Below.refl _ _).drewN _⟩
set_option maxRecDepth 100000 in
theorem made_ok (Y : Zone) (v : Value) (L : List Cl) (w : World) (hv : HeldE cellE Y w v L) (h0 : 0 < L.length) (h1 : L.length ≤ 1024) (hs : soundB L = true) : Calls Tryd.prog 92 #[v] w (RowMade (fun b => w.heap.size ≤ b) w L false) := by
  have H := Lib.hid (rof_ok _ _ _ _ hv h0 h1 hs)
  obtain ⟨ao, pc, rfl⟩ := hv.len
  clear hv hs
  go_enter Tryd.func92, Tryd.ntmps92
  go_wp2_with fail
  refine H.out.mono ?_
  rintro e w1 ⟨g, gc, rfl, hr, b1⟩
  have HE := Lib.hid (And.intro hr b1)
  clear hr b1
  go_wp2
  go_ret
  exact ⟨g, gc, rfl, HE.out.1, HE.out.2⟩
set_option maxRecDepth 100000 in
theorem made_bad (Y : Zone) (v : Value) (L : List Cl) (w : World) (hr : RangeErr w) (hv : HeldE cellE Y w v L) (hbad : L.length = 0 ∨ 1024 < L.length) : Calls Tryd.prog 92 #[v] w (Gives w (.pointer none)) := by
  have H := Lib.hid (rof_rangeR _ _ _ _ hr hv hbad)
  obtain ⟨ao, pc, rfl⟩ := hv.len
  clear hv hr
  go_enter Tryd.func92, Tryd.ntmps92
  go_wp2_with fail
  refine H.out.mono ?_
  rintro e w1 ⟨a, rfl, b1⟩
  have HE := Lib.hid b1
  clear b1
  go_wp2
  go_ret
  exact ⟨rfl, HE.out⟩
theorem fresize_nil (n : Int) (w : World) : Calls Tryd.prog 46 #[.pointer none, .int .i64 n] w fun e w' => e = .returned (.pointer none) ∧ w = w' := by
  go_enter Tryd.func46, Tryd.ntmps46
  go_wp2
  go_ret
  exact ⟨rfl, rfl⟩
def rszL (L : List Cl) (n : Nat) : List Cl := if L.length < n then L ++ List.replicate (n - L.length) zc else fixL (L.take n)
theorem rsz_len (L : List Cl) (n : Nat) : (rszL L n).length = n := by
  unfold rszL
  split
  · simp; omega
  · rw [fix_len, List.length_take]; omega
theorem rsz_sound {L : List Cl} (h : soundB L = true) (n : Nat) : soundB (rszL L n) = true := by
  unfold rszL
  split
  · exact sound_app h (blank_soundM _)
  · exact fix_cut h n
theorem part_head {Z : Zone} {w : World} {gq cap : Nat} {L : List Cl} (h : HeldE cellE Z w (.slice (some ⟨gq, 0, none⟩) L.length cap) L) (n : Nat) (hn : n ≤ L.length) : HeldE cellE Z w (.slice (some ⟨gq, 0, none⟩) n cap) (L.take n) := by
  have := part3 h 0 n (Nat.zero_le _) hn
  simpa using this
theorem RowMade.up {Z Y : Zone} {w w1 w' : World} {L : List Cl} {wrap : Bool} {e : Ending} (h : RowMade Z w1 L wrap e w') (b : Below w.heap.size w w1) (hz : ∀ b, w1.heap.size ≤ b → Y b) (hzz : ∀ b, Z b → Y b) : RowMade Y w L wrap e w' := by
  obtain ⟨g, gc, e, hr, hb⟩ := h
  exact ⟨g, gc, e, (hr.keep (.refl _ _) (fun b _ h => hzz b h)).base b.size, b.trans (hb.mono b.size)⟩
set_option maxRecDepth 100000 in
set_option maxHeartbeats 2000000 in
theorem fresize_any (B g gc : Nat) (L : List Cl) (wrap : Bool) (n : Int) (w : World) (h : RowAt (fun _ => True) w B g gc L wrap) : Calls Tryd.prog 46 #[.pointer (some ⟨g, 0, none⟩), .int .i64 n] w (RowMade (fun b => w.heap.size ≤ b) w (rszL L (rowN n)) false) := by
  obtain ⟨hl0, hl1, hs⟩ := h.len
  have HR := Lib.hid h
  have HN := Lib.hid (show 0 < rowN n ∧ rowN n ≤ 1024 from ⟨by unfold rowN; omega, by unfold rowN; omega⟩)
  have hmx : min (max n 1) 1024 = (rowN n : Int) := by unfold rowN; omega
  have HRL := Lib.hid (rsz_len L (rowN n))
  have HRS := Lib.hid (rsz_sound hs (rowN n))
  have HRZ := Lib.hid (show rszL L (rowN n) = if L.length < rowN n then L ++ List.replicate (rowN n - L.length) zc else fixL (L.take (rowN n)) from rfl)
  obtain ⟨N, hN⟩ : ∃ N, N = rowN n := ⟨_, rfl⟩
  rw [← hN] at HN HRL HRS HRZ hmx ⊢
  have hn1 := HN.out.1
  have hn2 := HN.out.2
  clear h hN hs
  by_cases hlt : L.length < N
  · have hd : decide ((L.length : Int) < (N : Int)) = true := by simp; omega
    have hw : IntKind.i64.wrap ((N : Int) - L.length) = (N : Int) - L.length := by rw [IntKind.wrap_i64]; omega
    have HK := Lib.hid (show blankN ((N : Int) - L.length) = N - L.length by unfold blankN; omega)
    have HE := Lib.hid (show rszL L N = L ++ List.replicate (N - L.length) zc by rw [HRZ.out, if_pos hlt])
    go_enter Tryd.func46, Tryd.ntmps46
    go_wp2_with fail
    refine (rcells_any _ B g gc L wrap w HR.out).mono ?_
    rintro e w1 ⟨v1, rfl, ho1, b1⟩
    obtain ⟨gq, cap, rfl, hq1, hq2⟩ := ho1.some hl0
    have HO1 := Lib.hid (ho1.zone (Y := fun b => w.heap.size ≤ b) (fun _ _ h => h))
    have HB := Lib.hid b1
    clear ho1 b1
    go_wp2_with fail
    refine (blanks_any (fun b => w.heap.size ≤ b ∧ (Value.slice (some ⟨gq, 0, none⟩) L.length cap).ownBlock ≠ some b) _ w1).mono ?_
    rintro e w2 ⟨v2, rfl, ho2, b2⟩
    rw [HK.out] at ho2
    have HU := Lib.hid (ho2.held (fun b h _ => ⟨Nat.le_trans HB.out.size h, fun e => by simp [Value.ownBlock] at e; omega⟩))
    replace HB := Lib.hid (HB.out.trans (b2.mono HB.out.size))
    replace HO1 := Lib.hid (HO1.out.below b2)
    clear b2
    obtain ⟨ao2, c2, rfl⟩ := HU.out.len
    rw [List.length_replicate] at HU
    clear ho2 hw
    go_wp2_with (at_builtin; refine wpList_append_e (E := cellE) (Z := fun b => w.heap.size ≤ b) rfl (.tmp 17) (.tmp 22) 22 rfl (.agg #[.int .i64 0, .slice none 0 0]) 32 Tryd.underlying22 info_cell rfl (by decide) rfl rfl HO1.out HU.out (by rw [List.length_replicate]; omega) (by rw [List.length_replicate]; omega) HB.out.size ?_)
    intro v3 w3 ho3 b3 _ _
    rw [← HE.out] at ho3
    have HH3 := Lib.hid (ho3.held (fun _ h _ => h))
    replace HB := Lib.hid (HB.out.trans b3)
    have HM := Lib.hid (made_ok _ _ _ _ HH3.out (by rw [HRL.out]; exact hn1) (by rw [HRL.out]; exact hn2) HRS.out)
    obtain ⟨ao3, c3, rfl⟩ := HH3.out.len
    clear ho3 b3
    go_wp2_with fail
    refine HM.out.mono ?_
    intro e w4 hm
    have hm := hm.up (Y := fun b => w.heap.size ≤ b) HB.out (fun b h => Nat.le_trans HB.out.size h) (fun b h => Nat.le_trans HB.out.size h)
    obtain ⟨g5, gc5, rfl, hr5, b5⟩ := hm
    have HF := Lib.hid (And.intro hr5 b5)
    clear hr5 b5
    go_wp2
    go_ret
    exact ⟨g5, gc5, rfl, HF.out.1, HF.out.2⟩
  · have hd : decide ((L.length : Int) < (N : Int)) = false := by simp; omega
    have hdn : decide (L.length < N) = false := by simp; omega
    have HE := Lib.hid (show rszL L N = fixL (L.take N) by rw [HRZ.out, if_neg hlt])
    obtain ⟨j, hj⟩ : ∃ j, N = j + 1 := ⟨N - 1, by omega⟩
    have hj1 : (N : Int) - 1 = j := by omega
    have hjw : IntKind.i64.wrap (j : Int) = (j : Int) := by rw [IntKind.wrap_i64]; omega
    have hjN : j < N := by omega
    have hjL : j < L.length := by omega
    have HJ := Lib.hid hj
    have HTN := Lib.hid (show (L.take N).length = N by rw [List.length_take]; omega)
    have HTK := Lib.hid (show (L.take N).getD j zc = L.getD j zc by rw [getD_take, if_pos hjN])
    clear hj
    go_enter Tryd.func46, Tryd.ntmps46
    go_wp2_with fail
    refine (rcells_any _ B g gc L wrap w HR.out).mono ?_
    rintro e w1 ⟨v1, rfl, ho1, b1⟩
    obtain ⟨gq, cap, rfl, hq1, hq2⟩ := ho1.some hl0
    have HO1 := Lib.hid ho1
    have HB := Lib.hid b1
    have HQ := Lib.hid (And.intro hq1 hq2)
    have hcap : L.length ≤ cap := by obtain ⟨_, hn, _⟩ := (ho1.held (Z := fun b => w.heap.size ≤ b) (fun _ h _ => h)).spots; exact hn
    have hNc : (N : Int) ≤ (cap : Int) := by omega
    have hNc2 : N ≤ cap := by omega
    have ck := ownE_kind ho1 hjL
    clear ho1 b1 hq1 hq2
    by_cases hk : (L.getD j zc).1 = 2
    · have HF := Lib.hid (show fixL (L.take N) = (L.set j zc).take N by
        unfold fixL
        rw [HTN.out, show N - 1 = j by have := HJ.out; omega, HTK.out, if_pos hk, List.take_set])
      rw [hk] at ck
      go_wp2_with (refine wpList_put_e (E := cellE) (Y := fun b => w.heap.size ≤ b) (i := j) rfl 27 (.tmp 39) (.tmp 38) rfl rfl rfl [.int .i64 0, .slice none 0 0] rfl (by kernel_rfl) HO1.out.each hjL zc (zero_rep _ _) ?_)
      intro w6 hw6 hu6
      have ho6 : OwnE cellE (fun b => w.heap.size ≤ b) w6 w.heap.size 27 (.slice (some ⟨gq, 0, none⟩) L.length cap) (L.set j zc) := hw6
      have hh6 := ho6.held (Z := fun b => w.heap.size ≤ b) (fun b h _ => h)
      have hh7 := part_head (L := L.set j zc) (by rw [List.length_set]; exact hh6) N (by rw [List.length_set]; omega)
      rw [← HF.out, ← HE.out] at hh7
      have b6 := HB.out.upd hu6 HB.out.size (fun x e => by have := HQ.out.1; omega)
      have HM := Lib.hid (made_ok _ _ _ _ hh7 (by rw [HRL.out]; exact hn1) (by rw [HRL.out]; exact hn2) HRS.out)
      have HB6 := Lib.hid b6
      clear hw6 hu6 ho6 hh6 hh7 b6 ck hk
      go_wp2_with fail
      refine HM.out.mono ?_
      intro e w7 hm
      have hm := hm.up (Y := fun b => w.heap.size ≤ b) HB6.out (fun b h => Nat.le_trans HB6.out.size h) (fun b h => Nat.le_trans HB6.out.size h)
      obtain ⟨g5, gc5, rfl, hr5, b5⟩ := hm
      have HFF := Lib.hid (And.intro hr5 b5)
      clear hr5 b5
      go_wp2
      go_ret
      exact ⟨g5, gc5, rfl, HFF.out.1, HFF.out.2⟩
    · have HF := Lib.hid (show fixL (L.take N) = L.take N by
        unfold fixL
        rw [HTN.out, show N - 1 = j by have := HJ.out; omega, HTK.out, if_neg hk])
      obtain ⟨K, hK⟩ : ∃ K, K = (L.getD j zc).1 := ⟨_, rfl⟩
      rw [← hK] at ck hk
      have hkb : (K == 2) = false := by rw [beq_eq_false_iff_ne]; exact hk
      have hh6 := HO1.out.held (Z := fun b => w.heap.size ≤ b) (fun b h _ => h)
      have hh7 := part_head hh6 N (by omega)
      rw [← HF.out, ← HE.out] at hh7
      have HM := Lib.hid (made_ok _ _ _ _ hh7 (by rw [HRL.out]; exact hn1) (by rw [HRL.out]; exact hn2) HRS.out)
      clear hh6 hh7 hk hK
      go_wp2_with fail
      refine HM.out.mono ?_
      intro e w7 hm
      have hm := hm.up (Y := fun b => w.heap.size ≤ b) HB.out (fun b h => Nat.le_trans HB.out.size h) (fun b h => Nat.le_trans HB.out.size h)
      obtain ⟨g5, gc5, rfl, hr5, b5⟩ := hm
      have HFF := Lib.hid (And.intro hr5 b5)
      clear hr5 b5
      go_wp2
      go_ret
      exact ⟨g5, gc5, rfl, HFF.out.1, HFF.out.2⟩
end Go.Proofs.YtomfclkldmmmgaaDoor
