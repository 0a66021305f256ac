/- Texts put together: GrdE, GrdH, ScrA, ScrB, ScrC, ScrD, ScrE, ScrF, ScrG, ScrM, ScrN, ScrP, ScrQ, ScrW, ScrX, PlcA, PlcB, PlcM, CtlM, PlcR, PlcS, PlcT, WidM. -/
import Derived.Test.YtoeggiplcaegoaaGreatDoorGrdD
import Derived.Test.YtoeggiplcaegoaaGreatDoorMg1
import Derived.Test.YtoeggiplcaegoaaGreatDoorGrdG
import Derived.Lib.MinMax
import Derived.Test.YtoeggiplcaegoaaGreatDoorMg4
import Derived.Lib.AppendZeros
import Derived.Test.YtoeggiplcaegoaaGreatDoorCellP
import Derived.Test.YtoeggiplcaegoaaGreatDoorRowP
import Derived.Test.YtoeggiplcaegoaaGreatDoorMg3
import Derived.Test.YtoeggiplcaegoaaGreatDoorCursorC
/- The works of layer 32. -/
namespace Go.Proofs.YtoeggiplcaegoaaGreatDoor
open Go.RowKit Go.ChangeShapes Go.WideShapes
end Go.Proofs.YtoeggiplcaegoaaGreatDoor
/- Grids below a bound; lines that are turned; Of of good lines. -/
namespace Go.Proofs.YtoeggiplcaegoaaGreatDoor
open Go.RowKit Go.ChangeShapes Go.WideShapes
/-- A grid all of whose blocks lie below M. -/
def GridM (M : Nat) (w : World) (B gg gr wd : Nat) (Rs : List Rw) : Prop :=
  M ≤ w.heap.size ∧ ∃ (Z : Zone) (cap : Nat), (∀ b, Z b → B ≤ b ∧ b < M) ∧ gg < M ∧ gr < M ∧ (∀ i, i < Rs.length → (Rs.getD i r0).g < M ∧ (Rs.getD i r0).gc < M) ∧ Has w gg [.int .i64 wd, .slice (some ⟨gr, 0, none⟩) Rs.length cap] 119 ∧ B ≤ gg ∧ OwnE ptrE (fun _ => True) w B 113 (.slice (some ⟨gr, 0, none⟩) Rs.length cap) (ptrs Rs) ∧ ¬ Z gg ∧ ¬ Z gr ∧ RowsAt Z w B Rs ∧ (∀ i, i < Rs.length → (Rs.getD i r0).L.length = wd) ∧ 0 < Rs.length ∧ Rs.length ≤ 1024
theorem GridM.at {M : Nat} {w : World} {B gg gr wd : Nat} {Rs : List Rw} (h : GridM M w B gg gr wd Rs) : GridAt w B gg gr wd Rs := by
  obtain ⟨hM, Z, cap, h1, k1, k2, k3, h2, h3, h4, h5, h6, h7, h8, h9, h10⟩ := h
  exact ⟨Z, cap, fun b hz => ⟨(h1 b hz).1, Nat.lt_of_lt_of_le (h1 b hz).2 hM⟩, h2, h3, h4, h5, h6, h7, h8, h9, h10, fun _ _ => trivial⟩
theorem GridM.keep {M : Nat} {S : Zone} {w w' : World} {B gg gr wd : Nat} {Rs : List Rw} (h : GridM M w B gg gr wd Rs) (hu : Upd S w w') (hs : ∀ b, B ≤ b → b < M → ¬ S b) : GridM M w' B gg gr wd Rs := by
  obtain ⟨hM, Z, cap, h1, k1, k2, k3, h2, h3, h4, h5, h6, h7, h8⟩ := h
  have hk := hu.keep
  refine ⟨Nat.le_trans hM hu.size, Z, cap, h1, k1, k2, k3, hk.has h2 (hs _ h3 k1), h3, ?_, h5, h6, h7.upd hu (fun b hz => hs b (h1 b hz).1 (h1 b hz).2) (fun i hi => ⟨hs _ (h7.lt i hi).2.2.2 (k3 i hi).1, hs _ (h7.lt i hi).2.2.1 (k3 i hi).2⟩), h8⟩
  exact own_ptrs (hk.own h4.ptrs fun b hb => by
    have : gr = b := by simpa [Value.ownBlock] using hb
    subst this
    exact hs _ (h4.lt gr rfl).1 k2)
theorem GridM.below {M : Nat} {w w' : World} {B gg gr wd : Nat} {Rs : List Rw} (h : GridM M w B gg gr wd Rs) (hb : Below w.heap.size w w') : GridM M w' B gg gr wd Rs := h.keep (S := fun _ => False) (.ofBelow hb) fun _ _ _ e => e
end Go.Proofs.YtoeggiplcaegoaaGreatDoor
/- scroll: held, taken, blanks. -/
namespace Go.Proofs.YtoeggiplcaegoaaGreatDoor
open Go.RowKit Go.ChangeShapes Go.WideShapes
variable {Yo : Zone}
def heldF (n : Nat) (a : Int) : Nat := (min (max a 0) n).toNat
theorem heldF_le (n : Nat) (a : Int) : heldF n a ≤ n := by unfold heldF; omega
def heldK (n : Nat) (a b k : Int) : Int := min k ((heldF n b : Int) - heldF n a)
set_option maxRecDepth 100000 in
theorem scheld_raw (p : Value) (n : Nat) (hn : n ≤ 1024) (a b k : Int) (w : World) (hh : Calls Tryz.prog 95 #[p] w fun e w' => e = .returned (.int .i64 n) ∧ w = w') : Calls Tryz.prog 263 #[p, .int .i64 a, .int .i64 b, .int .i64 k] w fun e w' => e = .returned (.tuple #[.int .i64 (heldF n a), .int .i64 (heldF n b), .int .i64 (heldK n a b k)]) ∧ w = w' := by
  have HH := Lib.hid hh
  have h1 : min (max a 0) (n : Int) = (heldF n a : Int) := by unfold heldF; omega
  have h2 : min (max b 0) (n : Int) = (heldF n b : Int) := by unfold heldF; omega
  have hl1 := heldF_le n a
  have hl2 := heldF_le n b
  have H3 := Lib.hid (show heldK n a b k = min k ((heldF n b : Int) - heldF n a) from rfl)
  obtain ⟨f, hf⟩ : ∃ f, f = heldF n a := ⟨_, rfl⟩
  obtain ⟨t, ht⟩ : ∃ t, t = heldF n b := ⟨_, rfl⟩
  rw [← hf] at h1 hl1 H3
  rw [← ht] at h2 hl2 H3
  have HF := Lib.hid hf
  have HT := Lib.hid ht
  have hw : IntKind.i64.wrap ((t : Int) - f) = (t : Int) - f := by rw [IntKind.wrap_i64]; omega
  clear hh hf ht
  go_enter Tryz.func263, Tryz.ntmps263
  go_wp2_with fail
  refine HH.out.mono ?_
  rintro e w1 ⟨rfl, rfl⟩
  go_wp2_with fail
  refine HH.out.mono ?_
  rintro e w1 ⟨rfl, rfl⟩
  go_wp2
  exact bodyPost_ret (v := .tuple #[.int .i64 f, .int .i64 t, .int .i64 (min k ((t : Int) - f))]) (by simp [results, Tryz.results263, go_sem]) rfl ⟨ret_eq (by rw [← HF.out, ← HT.out, H3.out]), rfl⟩
set_option maxRecDepth 100000 in
set_option maxHeartbeats 1600000 in
theorem sctaken_any (B gg gr wd f t : Nat) (Rs : List Rw) (w : World) (h : GridY Yo w B gg gr wd Rs) (hft : f ≤ t) (ht : t ≤ Rs.length) : Calls Tryz.prog 264 #[.pointer (some ⟨gg, 0, none⟩), .int .i64 f, .int .i64 t] w (MadeE ptrE (fun _ => True) 113 w (ptrs ((Rs.drop f).take (t - f)))) := by
  have HG := Lib.hid h
  have hsz := h.sizes.2.1
  clear h
  go_enter Tryz.func264, Tryz.ntmps264
  go_wp2
  go_loopw [7, 8] (fun v i wr => ∃ k : Nat, f ≤ k ∧ k ≤ t ∧ i = .int .i64 k ∧ OwnE ptrE (fun _ => True) wr w.heap.size 113 v (ptrs ((Rs.drop f).take (k - f))) ∧ Below w.heap.size w wr) (fun _ i _ => t - (intOf i).toNat)
  case atStart => exact ⟨f, Nat.le_refl _, hft, rfl, by rw [Nat.sub_self, List.take_zero]; exact OwnE.nil _ _ _ _ _, Below.refl _ _⟩
  case round =>
    obtain ⟨k, hfk, hk, rfl, hown, hbw⟩ := hrel
    have HBW := Lib.hid hbw
    clear hbw
    obtain ⟨v, hv⟩ : ∃ v, v = u7 := ⟨_, rfl⟩
    rw [← hv] at hown ⊢
    have HO := Lib.hid hown
    clear hv hown
    by_cases hlt : k < t
    · have hkl : k < Rs.length := by omega
      have hr := grow_in _ gg gr wd Rs k wr (HG.out.below HBW.out) hkl
      obtain ⟨p, hp⟩ : ∃ p, p = (Rs.getD k r0).g := ⟨_, rfl⟩
      rw [← hp] at hr
      have hsn : ptrs ((Rs.drop f).take (k + 1 - f)) = ptrs ((Rs.drop f).take (k - f)) ++ [some p] := by
        have e : k + 1 - f = (k - f) + 1 := by omega
        rw [e, List.take_succ_eq_append_getElem (by rw [List.length_drop]; omega)]
        unfold ptrs
        rw [List.map_append]
        have : (Rs.drop f)[k - f]'(by rw [List.length_drop]; omega) = Rs.getD k r0 := by
          rw [List.getElem_drop]
          simp [List.getD, show f + (k - f) = k by omega, List.getElem?_eq_getElem hkl]
        rw [List.map_singleton, this, hp]
      have HSN := Lib.hid hsn
      have hlen : (ptrs ((Rs.drop f).take (k - f))).length ≤ 1024 := by rw [ptrs_len, List.length_take, List.length_drop]; omega
      obtain ⟨X0, hX⟩ : ∃ X0, X0 = ptrs ((Rs.drop f).take (k - f)) := ⟨_, rfl⟩
      rw [← hX] at HO HSN hlen
      have hlo := HO.out.lt
      have b1 := (Below.refl wr.heap.size wr).alloc (Nat.le_refl _) (.cells [ptrV (some p)].toArray 113)
      have HU := Lib.hid (show HeldE ptrE (fun b => True ∧ v.ownBlock ≠ some b) (wr.alloc (.cells [ptrV (some p)].toArray 113)) (.slice (some ⟨wr.heap.size, 0, none⟩) 1 1) [some p] from heldE_one (Y := fun _ => False) [ptrV (some p)] (some p) rfl (fun _ _ h => h.elim) ⟨trivial, fun e => by have := (hlo _ e).2; omega⟩)
      have HO1 := Lib.hid (HO.out.below b1)
      have HB1 := Lib.hid (HBW.out.trans (b1.mono HBW.out.size))
      clear hX hsn hp hlo b1 HO
      go_wp2_with fail
      refine hr.mono ?_
      rintro e w1 ⟨rfl, rfl⟩
      clear hr
      go_wp2_with (at_builtin; refine wpList_append_e (E := ptrE) (Z := fun _ => True) rfl (.tmp 15) (.tmp 19) 117 rfl (.pointer none) 8 Tryz.underlying117 info_rowp rfl (by decide) rfl rfl HO1.out HU.out (by simp only [List.length_singleton]; omega) (by simp only [List.length_singleton]; omega) HB1.out.size ?_)
      intro v2 w2 ho2 b2 _ _
      rw [← HSN.out] at ho2
      have H2 := Lib.hid ho2
      have HB2 := Lib.hid (HB1.out.trans b2)
      clear ho2 b2
      go_wp2
      go_roundw
      case rel => exact ⟨k + 1, by omega, by omega, by go_num, H2.out, HB2.out⟩
      case measure => simp [intOf] <;> omega
    · obtain rfl : k = t := by omega
      go_wp2
      go_ret
      exact ⟨_, rfl, HO.out, HBW.out⟩
/-- A row of pointers of one's own to rows that lie apart. -/
def PtrsAt (w : World) (B : Nat) (v : Value) (Rs : List Rw) : Prop :=
  ∃ Z : Zone, (∀ b, Z b → B ≤ b ∧ b < w.heap.size) ∧ OwnE ptrE (fun _ => True) w B 113 v (ptrs Rs) ∧ (∀ b, v.ownBlock = some b → ¬ Z b) ∧ RowsAt Z w B Rs
section
variable {w w' : World} {B : Nat} {v v' : Value} {Rs : List Rw}
theorem PtrsAt.apart (h : PtrsAt w B v Rs) {b : Nat} (hb : v.ownBlock = some b) : ∀ i, i < Rs.length → (Rs.getD i r0).g ≠ b ∧ (Rs.getD i r0).gc ≠ b := by
  obtain ⟨Z, h1, h4, h6, h7⟩ := h
  obtain ⟨C, hC⟩ := own_type h4 hb
  intro i hi
  obtain ⟨⟨D, hD⟩, D', hD'⟩ := (h7.row i hi).types
  exact ⟨fun e => by rw [← e] at hC; exact other_type hD hC (by decide), fun e => by rw [← e] at hC; exact other_type hD' hC (by decide)⟩
theorem PtrsAt.below (h : PtrsAt w B v Rs) (hb : Below w.heap.size w w') : PtrsAt w' B v Rs := by
  obtain ⟨Z, h1, h4, h6, h7⟩ := h
  exact ⟨Z, fun b hz => ⟨(h1 b hz).1, Nat.lt_of_lt_of_le (h1 b hz).2 hb.size⟩, h4.below hb, h6, h7.below hb⟩
/-- One more row, then its pointer. -/
theorem PtrsAt.next (h : PtrsAt w B v Rs) {w2 : World} {g gc : Nat} {L : List Cl} {wrap : Bool} (hBw : B ≤ w.heap.size) (hr : RowAt (fun b => w.heap.size ≤ b) w' w.heap.size g gc L wrap) (hb : Below w.heap.size w w') (ho : OwnE ptrE (fun _ => True) w2 B 113 v' (ptrs Rs ++ [some g])) (hb2 : Below B w' w2) (hk : KeepZ (fun b => v.ownBlock ≠ some b) w' w2) (hd : ∀ b, b < w'.heap.size → v.ownBlock ≠ some b → v'.ownBlock ≠ some b) : PtrsAt w2 B v' (Rs ++ [⟨g, gc, L, wrap⟩]) := by
  have hap := fun b (hb : v.ownBlock = some b) => h.apart hb
  obtain ⟨Z, h1, h4, h6, h7⟩ := h
  have hlt := hr.lt
  have hs := h7.snoc (fun b hz => (h1 b hz).2) hBw (Nat.le_refl _) hr hb
  have hu : Upd (fun b => v.ownBlock = some b) w' w2 := ⟨hb2.os, hb2.tape, hb2.output, hk.size, fun b hb' hn => hk.block b hb' hn⟩
  have hvl : ∀ b, v.ownBlock = some b → b < w.heap.size := fun b e => (h4.lt b e).2
  have hat : ∀ i, i < (Rs ++ [(⟨g, gc, L, wrap⟩ : Rw)]).length → (i < Rs.length ∧ (Rs ++ [(⟨g, gc, L, wrap⟩ : Rw)]).getD i r0 = Rs.getD i r0) ∨ (Rs ++ [(⟨g, gc, L, wrap⟩ : Rw)]).getD i r0 = ⟨g, gc, L, wrap⟩ := fun i hi => by
    rw [getD_app]
    rw [List.length_append, List.length_singleton] at hi
    by_cases e : i < Rs.length
    · exact .inl ⟨e, if_pos e⟩
    · right
      rw [if_neg e, show i - Rs.length = 0 by omega]
      rfl
  refine ⟨_, fun b hz => ?_, ?_, fun b e hz => ?_, hs.upd hu (fun b hz e => ?_) fun i hi => ?_⟩
  · have := hk.size
    rcases hz with hz | hz
    · have := h1 b hz; have := hb.size; omega
    · omega
  · have : ptrs (Rs ++ [⟨g, gc, L, wrap⟩]) = ptrs Rs ++ [some g] := by simp [ptrs]
    rw [this]
    exact ho
  · have hbl : b < w'.heap.size := by
      rcases hz with hz | hz
      · have := h1 b hz; have := hb.size; omega
      · omega
    by_cases e2 : v.ownBlock = some b
    · rcases hz with hz | hz
      · exact h6 b e2 hz
      · have := hvl b e2; omega
    · exact hd b hbl e2 e
  · rcases hz with hz | hz
    · exact h6 b e hz
    · have := hvl b e; omega
  · rcases hat i hi with ⟨hl, e⟩ | e
    · rw [e]
      exact ⟨fun e2 => ((hap _ e2) i hl).1 rfl, fun e2 => ((hap _ e2) i hl).2 rfl⟩
    · rw [e]
      exact ⟨fun e2 => by have := hvl _ e2; simp only at this; omega, fun e2 => by have := hvl _ e2; simp only at this; omega⟩
end
set_option maxRecDepth 100000 in
set_option maxHeartbeats 1600000 in
theorem scblanks_any (B gg gr wd n : Nat) (Rs : List Rw) (w : World) (h : GridY Yo w B gg gr wd Rs) (hn : n ≤ 1024) : Calls Tryz.prog 267 #[.pointer (some ⟨gg, 0, none⟩), .int .i64 n] w (fun e w' => ∃ v Ns, e = .returned v ∧ PtrsAt w' w.heap.size v Ns ∧ Ns.map lineOf = List.replicate n (List.replicate wd zc, false) ∧ Below w.heap.size w w') := by
  have HG := Lib.hid h
  have hwd := h.sizes.2.2
  have HWW := Lib.hid (show rowN (wd : Int) = wd by unfold rowN; omega)
  clear h
  go_enter Tryz.func267, Tryz.ntmps267
  go_wp2
  go_loopw [5, 7] (fun v i wr => ∃ (k : Nat) (Ns : List Rw), k ≤ n ∧ i = .int .i64 k ∧ PtrsAt wr w.heap.size v Ns ∧ Ns.map lineOf = List.replicate k (List.replicate wd zc, false) ∧ Below w.heap.size w wr) (fun _ i _ => n - (intOf i).toNat)
  case atStart => exact ⟨0, [], Nat.zero_le _, rfl, ⟨fun _ => False, fun b h => h.elim, OwnE.nil _ _ _ _ _, (fun b e => by cases e), RowsAt.nil _ _ _⟩, rfl, Below.refl _ _⟩
  case round =>
    obtain ⟨k, Ns, hk, rfl, hp, hm, hbw⟩ := hrel
    have HBW := Lib.hid hbw
    have HM := Lib.hid hm
    clear hbw hm
    obtain ⟨v, hv⟩ : ∃ v, v = u5 := ⟨_, rfl⟩
    rw [← hv] at hp ⊢
    have HP := Lib.hid hp
    clear hv hp
    by_cases hlt : k < n
    · have hwi := gwide_any _ gg gr wd Rs wr (HG.out.below HBW.out)
      go_wp2_with fail
      refine hwi.mono ?_
      rintro e w1 ⟨rfl, rfl⟩
      have hnw := rnew_any (fun b => wr.heap.size ≤ b) (wd : Int) wr
      rw [HWW.out] at hnw
      clear hwi
      go_wp2_with fail
      refine hnw.mono ?_
      rintro e w1 ⟨g, gc, rfl, hr1, b1⟩
      have HR := Lib.hid hr1
      have HB1 := Lib.hid b1
      have hlen : (ptrs Ns).length ≤ 1024 := by
        have := congrArg List.length HM.out
        rw [List.length_map, List.length_replicate] at this
        rw [ptrs_len]; omega
      obtain ⟨hov, hlo⟩ : OwnE ptrE (fun _ => True) wr w.heap.size 113 v (ptrs Ns) ∧ ∀ b, v.ownBlock = some b → w.heap.size ≤ b ∧ b < wr.heap.size := by
        obtain ⟨Z, _, k4, _⟩ := HP.out
        exact ⟨k4, k4.lt⟩
      have b2 := (Below.refl w1.heap.size w1).alloc (Nat.le_refl _) (.cells [ptrV (some g)].toArray 113)
      have HU := Lib.hid (show HeldE ptrE (fun b => True ∧ v.ownBlock ≠ some b) (w1.alloc (.cells [ptrV (some g)].toArray 113)) (.slice (some ⟨w1.heap.size, 0, none⟩) 1 1) [some g] from heldE_one (Y := fun _ => False) [ptrV (some g)] (some g) rfl (fun _ _ h => h.elim) ⟨trivial, fun e => by have := (hlo _ e).2; have := b1.size; omega⟩)
      have HO := Lib.hid ((hov.below b1).below b2)
      have HB2 := Lib.hid (b1.trans (b2.mono b1.size))
      have HB3 := Lib.hid (HBW.out.trans (HB2.out.mono HBW.out.size))
      have HR2 := Lib.hid (hr1.below b2)
      clear hnw hr1 b1 b2 hov hlo HR
      go_wp2_with (at_builtin; refine wpList_append_e (E := ptrE) (Z := fun _ => True) rfl (.tmp 9) (.tmp 13) 117 rfl (.pointer none) 8 Tryz.underlying117 info_rowp rfl (by decide) rfl rfl HO.out HU.out (by simp only [List.length_singleton]; omega) (by simp only [List.length_singleton]; omega) HB3.out.size ?_)
      intro v4 w4 ho4 b4 hk4 hd4
      have hnx := HP.out.next HBW.out.size HR2.out HB2.out ho4 b4 hk4 (fun b hb hn => hd4 b (by simpa using hb) hn)
      have H2 := Lib.hid (show PtrsAt w4 w.heap.size v4 (Ns ++ [⟨g, gc, List.replicate wd zc, false⟩]) ∧ (Ns ++ [(⟨g, gc, List.replicate wd zc, false⟩ : Rw)]).map lineOf = List.replicate (k + 1) (List.replicate wd zc, false) from ⟨hnx, by rw [List.map_append, HM.out, List.replicate_succ']; rfl⟩)
      have HB4 := Lib.hid (HB3.out.trans b4)
      clear ho4 b4 hk4 hd4 hnx
      go_wp2
      go_roundw
      case rel => exact ⟨k + 1, _, by omega, by go_num, H2.out.1, H2.out.2, HB4.out⟩
      case measure => simp [intOf] <;> omega
    · obtain rfl : k = n := by omega
      go_wp2
      go_ret
      exact ⟨v, Ns, rfl, HP.out, HM.out, HBW.out⟩
end Go.Proofs.YtoeggiplcaegoaaGreatDoor
/- The library's Grow and Concat of pointers to rows. -/
namespace Go.Proofs.YtoeggiplcaegoaaGreatDoor
open Go.RowKit Go.ChangeShapes Go.WideShapes
set_option maxRecDepth 100000 in
theorem pgrow_none (Z : Zone) (N : Nat) (hN : N ≤ 1000000) (w : World) : Calls Tryz.prog 290 #[.slice none 0 0, .int .i64 N] w (MadeE ptrE Z 113 w []) := by
  rcases Nat.eq_zero_or_pos N with rfl | hp
  · go_enter Tryz.func290, Tryz.ntmps290
    go_wp2
    go_ret
    exact ⟨_, rfl, OwnE.nil _ _ _ _ _, Below.refl _ _⟩
  · obtain ⟨i0, hi, hz0, hz1, hz2⟩ := info_parts info_rowp
    obtain ⟨C, hC⟩ : ∃ C, C = grownCap w N 0 113 := ⟨_, rfl⟩
    have hr := Go.Lib.run_append_nil_zeros (P := Tryz.prog) w 117 3 117 113 i0 (.pointer none) .i64 .i64 Tryz.underlying117 Tryz.underlying3 hi hz0 N hp (by rw [hz1]; decide) (by omega) (by rw [hz2]; omega)
    rw [← hC] at hr
    have hge : N ≤ C := by rw [hC]; exact grownCap_ge w N 0 113
    have hle : C ≤ maxLen := by rw [hC]; exact grownCap_le_maxLen w N 0 113 (by unfold maxLen; omega)
    have HLE := Lib.hid hle
    have HO := Lib.hid (show (w.drew.alloc (.cells (Builtin.zeroCells (Value.pointer none).cells N ++ Builtin.zeroCells (Value.pointer none).cells (C - N)) 113)).ownsRow w.heap.size 113 1 (.slice (some ⟨w.heap.size, 0, none⟩) 0 C) 0 [] from by
      refine ⟨rfl, .inr ⟨w.heap.size, _, _, rfl, Nat.le_refl _, heap_alloc_new w.drew _, Nat.zero_le _, hle, ?_, by simp⟩⟩
      simp [Builtin.zeroCells, Value.cells]
      omega)
    have HB := Lib.hid ((Below.refl w.heap.size w).drew.alloc (Nat.le_refl _) (.cells (Builtin.zeroCells (Value.pointer none).cells N ++ Builtin.zeroCells (Value.pointer none).cells (C - N)) 113))
    generalize (w.drew.alloc (.cells (Builtin.zeroCells (Value.pointer none).cells N ++ Builtin.zeroCells (Value.pointer none).cells (C - N)) 113)) = w1 at hr HO HB
    clear hC hi hz0 hz1 hz2 hle
    go_enter Tryz.func290, Tryz.ntmps290
    go_wp2_with (at_builtin; refine Go.Lib.wpList_append_run _ rfl (.tmp 20) (.tmp 21) _ _ rfl _ _ rfl rfl _ _ hr ?_)
    go_wp2
    go_ret
    exact ⟨_, rfl, OwnE.empty HO.out, HB.out⟩
abbrev ptrsE : Elem (List (Option Nat)) := slE ptrE
theorem pslots_at {Z : Zone} {w : World} {ao : Option Addr} {n cap : Nat} {L : List (List (Option Nat))} (h : HeldE ptrsE Z w (.slice ao n cap) L) : n = L.length ∧ n ≤ cap ∧ ∀ i, i < L.length → ∃ b off u, ao = some ⟨b, off, none⟩ ∧ b < w.heap.size ∧ w.cell? ⟨b, off + i, none⟩ = some u ∧ HeldE ptrE Z w u (L.getD i []) := by
  obtain ⟨h1, h2, h3⟩ := h.spots
  refine ⟨h1, h2, fun i hi => ?_⟩
  obtain ⟨b, off, rfl, hb, hz, C, hC, u, rfl, hr⟩ := h3 i hi
  have hc := hC 0 (by decide)
  rw [show off + i * ptrsE.size + 0 = off + i from by show off + i * 1 + 0 = _; omega] at hc
  exact ⟨b, off, u, rfl, hb, hc, hr⟩
set_option maxRecDepth 100000 in
set_option maxHeartbeats 1000000 in
theorem pconcat_any (Z : Zone) (v : Value) (L : List (List (Option Nat))) (w : World) (hh : HeldE ptrsE Z w v L) (hl : L.length ≤ 1000000) (ht : L.flatten.length ≤ 1000000) : Calls Tryz.prog 266 #[v] w (MadeE ptrE Z 113 w L.flatten) := by
  have hh := hh.zone (Y := fun b => Z b ∧ b < w.heap.size) (fun b hb hz => ⟨hz, hb⟩)
  obtain ⟨ao, cap, rfl⟩ := hh.len
  obtain ⟨_, _, hs⟩ := pslots_at hh
  have HH := Lib.hid hs
  have HLE := Lib.hid (flatG_le L)
  have HFA := Lib.hid (flatG_all L)
  rw [← flatG_all L] at ht ⊢
  clear hh hs
  go_enter Tryz.func266, Tryz.ntmps266
  go_wp2
  go_loopw [3, 11] (fun sv iv wr => ∃ k s : Nat, k ≤ L.length ∧ iv = .int .i64 k ∧ sv = .int .i64 s ∧ Go.RowKit.Hid (s = (flatG L k).length) ∧ wr = w) (fun _ iv _ => L.length - (intOf iv).toNat)
  case atStart => exact ⟨0, 0, Nat.zero_le _, rfl, rfl, Lib.hid rfl, rfl⟩
  case round =>
    obtain ⟨k, s, hk, rfl, rfl, HS, rfl⟩ := hrel
    obtain ⟨wo, hwo⟩ : ∃ wo, wo = wr := ⟨_, rfl⟩
    subst hwo
    have hsl : s ≤ 1000000 := by have := HLE.out k hk; have := HS.out; omega
    by_cases hlt : k < L.length
    · obtain ⟨b, off, u, rfl, hb, c0, hu⟩ := HH.out k hlt
      have hfs := flatG_succ L k hlt
      have hle2 := HLE.out (k + 1) (by omega)
      obtain ⟨T, hT⟩ : ∃ T, T = L.getD k [] := ⟨_, rfl⟩
      rw [← hT] at hu hfs
      obtain ⟨uo, uc, rfl⟩ := hu.len
      rw [hfs, List.length_append] at hle2
      have hs2 : s + T.length ≤ 1000000 := by have := HS.out; omega
      have hs3 : s + T.length = (flatG L (k + 1)).length := by rw [hfs, List.length_append, HS.out]
      have HS3 := Lib.hid hs3
      have d1 : decide ((s : Int) + (T.length : Int) < 0) = false := decide_eq_false (by omega)
      clear hfs hT hu hs3 hle2
      go_wp2
      go_roundw
      case rel => exact ⟨k + 1, s + T.length, by omega, by go_num, by go_num, HS3, trivial⟩
      case measure => simp [intOf] <;> omega
    · obtain rfl : k = L.length := by omega
      have HG := Lib.hid (pgrow_none Z s hsl wo)
      go_wp2_with fail
      refine HG.out.mono ?_
      rintro e w1 ⟨v1, rfl, ho1, b1⟩
      have HO1 := Lib.hid ho1
      have HB1 := Lib.hid b1
      clear ho1 b1 HG HS hsl hlt
      go_wp2
      go_loopw [6, 27] (fun nv iv w2 => ∃ k : Nat, k ≤ L.length ∧ iv = .int .i64 k ∧ OwnE ptrE Z w2 wo.heap.size 113 nv (flatG L k) ∧ Below wo.heap.size wo w2) (fun _ iv _ => L.length - (intOf iv).toNat)
      case atStart => exact ⟨0, Nat.zero_le _, rfl, HO1.out, HB1.out⟩
      case round =>
        obtain ⟨k, hk, rfl, hown, hbw⟩ := hrel
        have HOW := Lib.hid hown
        have HBW := Lib.hid hbw
        clear hown hbw
        by_cases hlt : k < L.length
        · obtain ⟨b, off, u, rfl, hb, c0, hu⟩ := HH.out k hlt
          have c0 := (HBW.out.cell (p := ⟨b, off + k, none⟩) hb).trans c0
          have hfs := flatG_succ L k hlt
          have hle2 := HLE.out (k + 1) (by omega)
          obtain ⟨T, hT⟩ : ∃ T, T = L.getD k [] := ⟨_, rfl⟩
          rw [← hT] at hu hfs
          obtain ⟨uo, uc, rfl⟩ := hu.len
          rw [hfs, List.length_append] at hle2
          obtain ⟨P0, hP⟩ : ∃ P0, P0 = flatG L k := ⟨_, rfl⟩
          rw [← hP] at hfs HOW hle2
          have HFS := Lib.hid hfs
          have hlo := HOW.out.lt
          have HU := Lib.hid (show HeldE ptrE (fun b => Z b ∧ _ ≠ some b) wr (.slice uo T.length uc) T from (hu.below HBW.out).zone fun b _ hz => ⟨hz.1, fun e => by have := (hlo b e).1; omega⟩)
          have hs2 : P0.length + T.length ≤ 1000000 := by omega
          clear hfs hT hu hle2 hP hlo
          go_wp2_with (at_builtin; refine wpList_append_e (E := ptrE) (Z := Z) rfl (.tmp 31) (.tmp 32) 117 rfl (.pointer none) 8 Tryz.underlying117 info_rowp rfl (by decide) rfl rfl HOW.out HU.out (by omega) (by omega) HBW.out.size ?_)
          intro v2 w2 ho2 hb2 _ _
          have hb3 := HBW.out.trans hb2
          rw [← HFS.out] at ho2
          have H2 := Lib.hid ho2
          have H3 := Lib.hid hb3
          clear ho2 hb2 hb3
          go_wp2
          go_roundw
          case rel => exact ⟨k + 1, by omega, by go_num, H2.out, H3.out⟩
          case measure => simp [intOf] <;> omega
        · obtain rfl : k = L.length := by omega
          go_wp2
          go_ret
          exact ⟨_, rfl, HOW.out, HBW.out⟩
end Go.Proofs.YtoeggiplcaegoaaGreatDoor
/- scroll: set. -/
namespace Go.Proofs.YtoeggiplcaegoaaGreatDoor
open Go.RowKit Go.ChangeShapes Go.WideShapes
variable {Yo : Zone}
def putL (Xs : List (Option Nat)) (f : Nat) (Ys : List (Option Nat)) : Nat → List (Option Nat)
  | 0 => Xs
  | j + 1 => (putL Xs f Ys j).set (f + j) (Ys.getD j none)
theorem putL_len (Xs : List (Option Nat)) (f : Nat) (Ys : List (Option Nat)) : ∀ j, (putL Xs f Ys j).length = Xs.length
  | 0 => rfl
  | j + 1 => by unfold putL; rw [List.length_set, putL_len]
theorem putL_at (Xs : List (Option Nat)) (f : Nat) (Ys : List (Option Nat)) : ∀ j, f + j ≤ Xs.length → ∀ i, (putL Xs f Ys j).getD i none = if f ≤ i ∧ i < f + j then Ys.getD (i - f) none else Xs.getD i none
  | 0, _, i => by rw [if_neg (by omega)]; rfl
  | j + 1, h, i => by
    unfold putL
    rw [getD_setI _ _ _ _ _ (by rw [putL_len]; omega), putL_at Xs f Ys j (by omega) i]
    by_cases e : i = f + j
    · rw [if_pos e, if_pos (by omega), e, Nat.add_sub_cancel_left]
    · rw [if_neg e]
      by_cases e2 : f ≤ i ∧ i < f + j
      · rw [if_pos e2, if_pos (by omega)]
      · rw [if_neg e2, if_neg (by omega)]
theorem putL_all {Rs Ms : List Rw} {f : Nat} (h : f + Ms.length ≤ Rs.length) : putL (ptrs Rs) f (ptrs Ms) Ms.length = ptrs (Rs.take f ++ Ms ++ Rs.drop (f + Ms.length)) := by
  have hl : (Rs.take f ++ Ms ++ Rs.drop (f + Ms.length)).length = Rs.length := by simp; omega
  apply List.ext_getElem (by rw [putL_len, ptrs_len, ptrs_len, hl])
  intro i h1 h2
  rw [putL_len, ptrs_len] at h1
  have e := putL_at (ptrs Rs) f (ptrs Ms) Ms.length (by rw [ptrs_len]; exact h) i
  have gd : ∀ (xs : List (Option Nat)) (h : i < xs.length), xs[i] = xs.getD i none := fun xs h => by simp [List.getD, List.getElem?_eq_getElem h]
  rw [gd _ (by rw [putL_len, ptrs_len]; exact h1), gd _ h2, e, ptrs_at (Rs.take f ++ Ms ++ Rs.drop (f + Ms.length)) i (by rw [hl]; exact h1), getD_app, getD_app]
  simp only [List.length_append, List.length_take]
  by_cases c1 : i < f
  · rw [if_neg (by omega), ptrs_at Rs i h1, if_pos (by omega), if_pos (by omega)]
    congr 2
    simp [List.getD, List.getElem?_take, c1]
  · by_cases c2 : i < f + Ms.length
    · rw [if_pos ⟨by omega, c2⟩, ptrs_at Ms _ (by omega), if_pos (by omega), if_neg (by omega)]
      congr 3
      omega
    · rw [if_neg (by omega), ptrs_at Rs i h1, if_neg (by omega)]
      congr 2
      simp only [List.getD, List.getElem?_drop]
      congr 2
      omega
def offAt (Rs : List Rw) (i : Nat) : List Rw := Rs.set i ⟨(Rs.getD i r0).g, (Rs.getD i r0).gc, (Rs.getD i r0).L, false⟩
/-- What scroll.set leaves: the grid of the rows Rs', of which the row ahead of f does not go on. -/
def SetY (Yo : Zone) (B gg gr wd f : Nat) (Rs' : List Rw) (w : World) (e : Ending) (w' : World) : Prop := e = .returned (.tuple #[]) ∧ GridY Yo w' B gg gr wd (if f = 0 then Rs' else offAt Rs' (f - 1)) ∧ Upd (fun b => b = gr ∨ (0 < f ∧ (b = (Rs'.getD (f - 1) r0).g ∨ b = (Rs'.getD (f - 1) r0).gc))) w w'
set_option maxRecDepth 100000 in
set_option maxHeartbeats 3000000 in
theorem scset_any (B gg gr wd f cap : Nat) (Z : Zone) (Rs Ms : List Rw) (v : Value) (w : World) (hf : f + Ms.length ≤ Rs.length) (hM : 0 < Ms.length) (hn : Rs.length ≤ 1024)
    (hz : ∀ b, Z b → B ≤ b ∧ b < w.heap.size) (hYo : ∀ b, (Z b ∨ w.heap.size ≤ b) → Yo b) (hgg : Has w gg [.int .i64 wd, .slice (some ⟨gr, 0, none⟩) Rs.length cap] 119) (hB : B ≤ gg) (ho : OwnE ptrE (fun _ => True) w B 113 (.slice (some ⟨gr, 0, none⟩) Rs.length cap) (ptrs Rs)) (z1 : ¬ Z gg) (z2 : ¬ Z gr)
    (hr : RowsAt Z w B (Rs.take f ++ Ms ++ Rs.drop (f + Ms.length))) (hw : ∀ i, i < (Rs.take f ++ Ms ++ Rs.drop (f + Ms.length)).length → ((Rs.take f ++ Ms ++ Rs.drop (f + Ms.length)).getD i r0).L.length = wd)
    (hv : HeldE ptrE (fun b => b ≠ gr) w v (ptrs Ms)) : Calls Tryz.prog 265 #[.pointer (some ⟨gg, 0, none⟩), .int .i64 f, v] w (SetY Yo B gg gr wd f (Rs.take f ++ Ms ++ Rs.drop (f + Ms.length)) w) := by
  have hpl := putL_all hf
  obtain ⟨R', hR'⟩ : ∃ R', R' = Rs.take f ++ Ms ++ Rs.drop (f + Ms.length) := ⟨_, rfl⟩
  have hmat : ∀ j, j < Ms.length → R'.getD (f + j) r0 = Ms.getD j r0 := fun j hj => by
    rw [hR', getD_app, if_pos (by simp; omega), getD_app, if_neg (by simp; omega), List.length_take, show f + j - min f Rs.length = j by omega]
  have hrl : R'.length = Rs.length := by rw [hR']; simp; omega
  rw [← hR'] at hr hw hpl ⊢
  have HPL := Lib.hid hpl
  have HRL := Lib.hid hrl
  have HR := Lib.hid hr
  have HW := Lib.hid hw
  have HZ := Lib.hid (And.intro hz (And.intro z1 z2))
  have HYO := Lib.hid hYo
  clear hYo
  have HMAT := Lib.hid hmat
  -- the pointers' block is of its own type
  have hgt : gg ≠ gr ∧ ∀ i, i < R'.length → (R'.getD i r0).g ≠ gr ∧ (R'.getD i r0).gc ≠ gr := by
    obtain ⟨C, hC⟩ := own_type ho (b := gr) rfl
    refine ⟨fun e => by subst e; exact other_type hgg hC (by decide), fun i hi => ?_⟩
    obtain ⟨⟨D, hD⟩, D', hD'⟩ := (hr.row i hi).types
    exact ⟨fun e => by rw [← e] at hC; exact other_type hD hC (by decide), fun e => by rw [← e] at hC; exact other_type hD' hC (by decide)⟩
  have HGT := Lib.hid hgt
  have HGG := Lib.hid hgg
  have HO := Lib.hid ho
  have hcap : Rs.length ≤ cap := by
    rcases ho.ptrs.2 with ⟨e, _⟩ | ⟨g', cap', cur, e, _, _, hn', _⟩
    · cases e
    · simp only [Value.slice.injEq] at e
      obtain ⟨_, _, rfl⟩ := e
      rw [ptrs_len] at hn'
      exact hn'
  have hvl := hv.len
  obtain ⟨va, vc, hve⟩ := hvl
  rw [ptrs_len] at hve
  subst hve
  have HV := Lib.hid (show ∀ j, j < Ms.length → ∃ b off, va = some ⟨b, off, none⟩ ∧ b < w.heap.size ∧ b ≠ gr ∧ w.cell? ⟨b, off + j, none⟩ = some (.pointer (some ⟨(Ms.getD j r0).g, 0, none⟩)) from fun j hj => by
    obtain ⟨b, off, e, hb, hz9, C, hC, hr9⟩ := hv.spots.2.2 j (by rw [ptrs_len]; exact hj)
    have := hC 0 (by decide)
    rw [show C = [ptrV ((ptrs Ms).getD j none)] from hr9, ptrs_at Ms j hj] at this
    rw [show ptrE.size = 1 from rfl, Nat.mul_one, Nat.add_zero] at this
    exact ⟨b, off, e, hb, hz9, this⟩)
  obtain ⟨n, hne⟩ : ∃ n, n = Rs.length := ⟨_, rfl⟩
  obtain ⟨q, hqe⟩ : ∃ q, q = Ms.length := ⟨_, rfl⟩
  have HN := Lib.hid hne
  have HQ := Lib.hid hqe
  rw [← hqe] at HV hf hM HMAT ⊢
  rw [← hne] at hf hn hcap HGG HO
  clear hv hr hw hz z1 z2 hgg ho hgt hpl hrl hmat hR' hne hqe
  go_enter Tryz.func265, Tryz.ntmps265
  go_wp2
  go_loopw [10] (fun i wr => ∃ k : Nat, k ≤ q ∧ i = .int .i64 k ∧ OwnE ptrE (fun _ => True) wr B 113 (.slice (some ⟨gr, 0, none⟩) n cap) (putL (ptrs Rs) f (ptrs Ms) k) ∧ Upd (fun b => b = gr) w wr) (fun i _ => q - (intOf i).toNat)
  case atStart => exact ⟨0, Nat.zero_le _, rfl, HO.out, Upd.refl _ _⟩
  case round =>
    obtain ⟨k, hk, rfl, hown, hup⟩ := hrel
    have HOW := Lib.hid hown
    have HUP := Lib.hid hup
    have hgx := HUP.out.keep.has HGG.out HGT.out.1
    have HGX := Lib.hid hgx
    clear hown hup hgx
    have c0 := HGX.out.cell 0 _ rfl
    have c1 := HGX.out.cell 1 _ rfl
    by_cases hlt : k < q
    · obtain ⟨b, off, rfl, hb, hbn, cv⟩ := HV.out k hlt
      have cv := (HUP.out.keep.cell (o := off + k) hb hbn).trans cv
      have hri := (HR.out.row (f + k) (by rw [HRL.out, ← HN.out]; omega)).upd HUP.out (fun b hz e => HZ.out.2.2 (e ▸ hz)) (HGT.out.2 (f + k) (by rw [HRL.out, ← HN.out]; omega)).1 (HGT.out.2 (f + k) (by rw [HRL.out, ← HN.out]; omega)).2
      have hwi := HW.out (f + k) (by rw [HRL.out, ← HN.out]; omega)
      rw [HMAT.out k hlt] at hri hwi
      have hcr := ptr_cell HOW.out (f + k) (by rw [putL_len, ptrs_len, ← HN.out]; omega)
      have hfit := gset_fit gg gr wd n cap (f + k) _ _ _ _ _ _ wr c0 c1 hcap _ hcr.1 hcr.2 (by omega) hn hri hwi
      have hput : ptrV (some (Ms.getD k r0).g) = ptrV ((ptrs Ms).getD k none) := by rw [ptrs_at Ms k (by rw [← HQ.out]; exact hlt)]
      obtain ⟨p, hp⟩ : ∃ p, p = (Ms.getD k r0).g := ⟨_, rfl⟩
      rw [← hp] at cv hfit hput
      have HFIT := Lib.hid hfit
      have HPUT := Lib.hid hput
      have hw1 : IntKind.i64.wrap ((f : Int) + k) = (f : Int) + k := by rw [IntKind.wrap_i64]; omega
      have hcast : ((f + k : Nat) : Int) = (f : Int) + k := by omega
      rw [hcast] at HFIT
      clear hri hwi hcr hfit hput hp c0 c1 hcast
      go_wp2_with fail
      refine HFIT.out.mono ?_
      rintro e w2 ⟨rfl, w3, b3, hw2⟩
      have ho3 := ptr_put (HOW.out.below b3) (f + k) (by rw [putL_len, ptrs_len, ← HN.out]; omega) ((ptrs Ms).getD k none)
      have hu3 := (Upd.refl (fun b => b = gr) w3).setCell (p := ⟨gr, f + k, none⟩) (.inl rfl) (ptrV ((ptrs Ms).getD k none))
      rw [HPUT.out] at hw2
      rw [← hw2] at ho3 hu3
      have H3 := Lib.hid (show OwnE ptrE (fun _ => True) w2 B 113 (.slice (some ⟨gr, 0, none⟩) n cap) (putL (ptrs Rs) f (ptrs Ms) (k + 1)) from ho3)
      have HU3 := Lib.hid ((HUP.out.trans (.ofBelow b3)).trans hu3)
      clear ho3 hu3 hw2 b3 hw1 cv
      go_wp2
      go_roundw
      case rel => exact ⟨k + 1, by omega, by go_num, H3.out, HU3.out⟩
      case measure => simp [intOf] <;> omega
    · obtain rfl : k = q := by omega
      have hall : putL (ptrs Rs) f (ptrs Ms) k = ptrs R' := by rw [HQ.out]; exact HPL.out
      rw [hall] at HOW
      have hG : GridY Yo wr B gg gr wd R' := ⟨Z, cap, fun b hz => ⟨(HZ.out.1 b hz).1, Nat.lt_of_lt_of_le (HZ.out.1 b hz).2 HUP.out.size⟩, by rw [HRL.out, ← HN.out]; exact HGX.out, hB, by rw [HRL.out, ← HN.out]; exact HOW.out, HZ.out.2.1, HZ.out.2.2, HR.out.upd HUP.out (fun b hz e => HZ.out.2.2 (e ▸ hz)) HGT.out.2, HW.out, by rw [HRL.out, ← HN.out]; omega, by rw [HRL.out, ← HN.out]; exact hn, fun x hx => HYO.out x (hx.imp id (Nat.le_trans HUP.out.size))⟩
      have G := Lib.hid hG
      clear hG hall c0 c1
      cases f with
      | zero =>
        have h1 := grow_out B gg gr wd R' (-1) wr G.out (.inl (by omega))
        go_wp2_with fail
        refine h1.mono ?_
        rintro e w2 ⟨rfl, rfl⟩
        go_wp2_with fail
        refine (rgoon_nil false wr).mono ?_
        rintro e w2 ⟨rfl, rfl⟩
        go_wp2
        exact bodyPost_end (by kernel_rfl) rfl ⟨rfl, by rw [if_pos rfl]; exact G.out, HUP.out.mono (fun b _ e => .inl e)⟩
      | succ f =>
        have hfl : f < R'.length := by rw [HRL.out, ← HN.out]; omega
        have h1 := grow_in B gg gr wd R' f wr G.out hfl
        have h2 := ggoon_any B gg gr wd f R' false wr G.out hfl
        have hw1 : IntKind.i64.wrap (f : Int) = (f : Int) := by rw [IntKind.wrap_i64]; omega
        have hw2 : ((f + 1 : Nat) : Int) - 1 = f := by omega
        have hw3 : (f : Int) + 1 - 1 = f := by omega
        have hs2 := h2
        obtain ⟨p, hp⟩ : ∃ p, p = (R'.getD f r0).g := ⟨_, rfl⟩
        have H2 := Lib.hid (show Calls Tryz.prog 71 #[.pointer (some ⟨p, 0, none⟩), .bool false] wr _ by rw [hp]; exact hs2)
        rw [← hp] at h1
        clear h2 hs2 hp
        go_wp2_with fail
        refine h1.mono ?_
        rintro e w2 ⟨rfl, rfl⟩
        go_wp2_with fail
        refine H2.out.mono ?_
        rintro e w2 ⟨rfl, hg2, hu2⟩
        have HF := Lib.hid (And.intro hg2 ((HUP.out.mono (T := fun b => b = gr ∨ (0 < f + 1 ∧ (b = (R'.getD (f + 1 - 1) r0).g ∨ b = (R'.getD (f + 1 - 1) r0).gc))) (fun b _ e => .inl e)).trans (hu2.mono (fun b _ e => .inr ⟨by omega, e⟩))))
        clear hg2 hu2 H2 h1
        go_wp2
        exact bodyPost_end (by kernel_rfl) rfl ⟨rfl, by rw [if_neg (by omega)]; exact HF.out.1, HF.out.2⟩
end Go.Proofs.YtoeggiplcaegoaaGreatDoor
/- Rows put together, and some of them. -/
namespace Go.Proofs.YtoeggiplcaegoaaGreatDoor
open Go.RowKit Go.ChangeShapes Go.WideShapes
theorem RowsAt.append {Z Y : Zone} {w : World} {B B2 M : Nat} {Rs Ns : List Rw} (h1 : RowsAt Z w B Rs) (h2 : RowsAt Y w B2 Ns) (hB : B ≤ B2) (hz : ∀ b, Z b → b < M) (hr : ∀ i, i < Rs.length → (Rs.getD i r0).g < M ∧ (Rs.getD i r0).gc < M) (hy : ∀ b, Y b → M ≤ b) (hM : M ≤ B2) : RowsAt (fun b => Z b ∨ Y b) w B (Rs ++ Ns) := by
  have hat : ∀ i, i < (Rs ++ Ns).length → (i < Rs.length ∧ (Rs ++ Ns).getD i r0 = Rs.getD i r0) ∨ (Rs.length ≤ i ∧ i - Rs.length < Ns.length ∧ (Rs ++ Ns).getD i r0 = Ns.getD (i - Rs.length) r0) := fun i hi => by
    rw [getD_app]
    rw [List.length_append] at hi
    by_cases e : i < Rs.length
    · exact .inl ⟨e, if_pos e⟩
    · exact .inr ⟨by omega, by omega, if_neg e⟩
  refine ⟨fun i hi => ?_, fun i hi => ?_, fun i j hi hj hij => ?_⟩
  · rcases hat i hi with ⟨hl, e⟩ | ⟨_, hl, e⟩
    · rw [e]
      exact (h1.row i hl).keep (.refl _ _) fun b _ hz => .inl hz
    · rw [e]
      exact ((h2.row _ hl).base hB).keep (.refl _ _) fun b _ hz => .inr hz
  · rcases hat i hi with ⟨hl, e⟩ | ⟨_, hl, e⟩
    · rw [e]
      have := hr i hl
      exact ⟨fun hzz => by rcases hzz with hzz | hzz; exact (h1.out i hl).1 hzz; have := hy _ hzz; omega, fun hzz => by rcases hzz with hzz | hzz; exact (h1.out i hl).2 hzz; have := hy _ hzz; omega⟩
    · rw [e]
      have := h2.lt _ hl
      exact ⟨fun hzz => by rcases hzz with hzz | hzz; have := hz _ hzz; omega; exact (h2.out _ hl).1 hzz, fun hzz => by rcases hzz with hzz | hzz; have := hz _ hzz; omega; exact (h2.out _ hl).2 hzz⟩
  · rcases hat i hi with ⟨hl, e⟩ | ⟨hg, hl, e⟩ <;> rcases hat j hj with ⟨hl', e'⟩ | ⟨hg', hl', e'⟩ <;> rw [e, e']
    · exact h1.apart i j hl hl' hij
    · have := hr i hl
      have := h2.lt _ hl'
      exact ⟨by omega, by omega⟩
    · have := hr j hl'
      have := h2.lt _ hl
      exact ⟨by omega, by omega⟩
    · exact h2.apart _ _ hl hl' (by omega)
theorem RowsAt.sub {Z : Zone} {w : World} {B : Nat} {As Rs : List Rw} (h : RowsAt Z w B As) (p : Nat → Nat) (hp : ∀ i, i < Rs.length → p i < As.length ∧ Rs.getD i r0 = As.getD (p i) r0) (hi : ∀ i j, i < Rs.length → j < Rs.length → i ≠ j → p i ≠ p j) : RowsAt Z w B Rs :=
  ⟨fun i hl => by rw [(hp i hl).2]; exact h.row _ (hp i hl).1, fun i hl => by rw [(hp i hl).2]; exact h.out _ (hp i hl).1, fun i j hl hl' hne => by rw [(hp i hl).2, (hp j hl').2]; exact h.apart _ _ (hp i hl).1 (hp j hl').1 (hi i j hl hl' hne)⟩
theorem getD_cut {α : Type} (l : List α) (d : α) (i k : Nat) : (l.take k).getD i d = if i < k then l.getD i d else d := by
  by_cases h : i < k
  · rw [if_pos h]; simp [List.getD, List.getElem?_take, h]
  · rw [if_neg h]; simp [List.getD, List.getElem?_take, h]
theorem getD_off {α : Type} (l : List α) (d : α) (i k : Nat) : (l.drop k).getD i d = l.getD (k + i) d := by simp [List.getD, List.getElem?_drop]
def upMid (Rs Ns : List Rw) (f t q : Nat) : List Rw := ((Rs.drop f).take (t - f)).drop q ++ Ns
section
variable {Rs Ns : List Rw} {f t q : Nat}
theorem upMid_len (hf : f ≤ t) (ht : t ≤ Rs.length) (hq : q ≤ t - f) (hn : Ns.length = q) : (upMid Rs Ns f t q).length = t - f := by unfold upMid; simp; omega
theorem mid_at (Ms : List Rw) (hm : Ms.length = t - f) (hf : f ≤ t) (ht : t ≤ Rs.length) (i : Nat) : (Rs.take f ++ Ms ++ Rs.drop (f + Ms.length)).getD i r0 = if i < f then Rs.getD i r0 else if i < t then Ms.getD (i - f) r0 else Rs.getD i r0 := by
  rw [getD_app, getD_app, List.length_append, List.length_take, hm, show min f Rs.length = f by omega]
  by_cases c1 : i < f
  · rw [if_pos (by omega), if_pos c1, if_pos c1, getD_cut, if_pos c1]
  · rw [if_neg c1]
    by_cases c2 : i < t
    · rw [if_pos (by omega), if_neg c1, if_pos c2]
    · rw [if_neg (by omega), if_neg c2, getD_off, show f + (t - f) + (i - (f + (t - f))) = i by omega, if_neg c1]
theorem up_at (hf : f ≤ t) (ht : t ≤ Rs.length) (hq : q ≤ t - f) (hn : Ns.length = q) (i : Nat) (hi : i < t - f) : (upMid Rs Ns f t q).getD i r0 = if i + q < t - f then Rs.getD (f + q + i) r0 else Ns.getD (i + q - (t - f)) r0 := by
  unfold upMid
  rw [getD_app, List.length_drop, List.length_take, List.length_drop, getD_off, getD_cut, getD_off]
  by_cases c : i + q < t - f
  · rw [if_pos (by omega), if_pos (by omega), if_pos c]
    congr 1
    omega
  · rw [if_neg (by omega), if_neg c]
    congr 1
    omega
/-- Moved rows lie apart as they did. -/
theorem up_rows {Z : Zone} {w : World} {B : Nat} (h : RowsAt Z w B (Rs ++ Ns)) (hf : f ≤ t) (ht : t ≤ Rs.length) (hq : q ≤ t - f) (hn : Ns.length = q) : RowsAt Z w B (Rs.take f ++ upMid Rs Ns f t q ++ Rs.drop (f + (upMid Rs Ns f t q).length)) := by
  have hml := upMid_len hf ht hq hn
  have hln : (Rs.take f ++ upMid Rs Ns f t q ++ Rs.drop (f + (upMid Rs Ns f t q).length)).length = Rs.length := by rw [List.length_append, List.length_append, List.length_take, List.length_drop, hml]; omega
  refine h.sub (fun i => if i < f then i else if i < t then (if i - f + q < t - f then i + q else Rs.length + (i + q - t)) else i) (fun i hi => ?_) (fun i j hi hj hne => ?_)
  · rw [hln] at hi
    rw [mid_at _ hml hf ht, List.length_append, hn]
    by_cases c1 : i < f
    · simp only [if_pos c1]
      exact ⟨by omega, by rw [getD_app, if_pos hi]⟩
    · simp only [if_neg c1]
      by_cases c2 : i < t
      · simp only [if_pos c2]
        rw [up_at hf ht hq hn _ (by omega)]
        by_cases c3 : i - f + q < t - f
        · simp only [if_pos c3]
          refine ⟨by omega, ?_⟩
          rw [getD_app, if_pos (by omega)]
          congr 1
          omega
        · simp only [if_neg c3]
          refine ⟨by omega, ?_⟩
          rw [getD_app, if_neg (by omega)]
          congr 1
          omega
      · simp only [if_neg c2]
        exact ⟨by omega, by rw [getD_app, if_pos hi]⟩
  · rw [hln] at hi hj
    intro e
    try simp only at e
    split at e <;> split at e <;> (try split at e) <;> (try split at e) <;> (try split at e) <;> (try split at e) <;> omega
end
end Go.Proofs.YtoeggiplcaegoaaGreatDoor
/- scroll.Up. -/
namespace Go.Proofs.YtoeggiplcaegoaaGreatDoor
open Go.RowKit Go.ChangeShapes Go.WideShapes
variable {Yo : Zone}
def NsAt (w : World) (M : Nat) (Ns : List Rw) : Prop := ∃ Z : Zone, (∀ b, Z b → M ≤ b ∧ b < w.heap.size) ∧ RowsAt Z w M Ns
theorem NsAt.upd {S : Zone} {w w' : World} {M : Nat} {Ns : List Rw} (h : NsAt w M Ns) (hu : Upd S w w') (hs : ∀ b, S b → b < M) : NsAt w' M Ns := by
  obtain ⟨Z, h1, h2⟩ := h
  exact ⟨Z, fun b hz => ⟨(h1 b hz).1, Nat.lt_of_lt_of_le (h1 b hz).2 hu.size⟩, h2.upd hu (fun b hz e => by have := hs b e; have := h1 b hz; omega) fun i hi => ⟨fun e => by have := hs _ e; have := h2.lt i hi; omega, fun e => by have := hs _ e; have := h2.lt i hi; omega⟩⟩
theorem two_ptrs {Z : Zone} {w : World} {B : Nat} {a b : Value} {la lb : List (Option Nat)} (ha : HeldE ptrE Z w a la) (hb : HeldE ptrE Z w b lb) (hB : B ≤ w.heap.size) (hz : ∀ b, B ≤ b → Z b) : HeldE ptrsE Z (w.alloc (.cells #[a, b] 117)) (.slice (some ⟨w.heap.size, 0, none⟩) 2 2) [la, lb] := by
  refine (OwnE.lit w ptrsE [[a], [b]] [la, lb] 2 rfl rfl hB (by decide) (fun i hi => ?_) _ rfl).held (fun b hb _ => hz b hb)
  match i, hi with
  | 0, _ => exact ⟨_, rfl, ha⟩
  | 1, _ => exact ⟨_, rfl, hb⟩
/-- A block of the old grid that may be written, or a new one. -/
def GridB (w : World) (gr : Nat) (Rs : List Rw) (b : Nat) : Prop := b = gr ∨ (∃ i, i < Rs.length ∧ (b = (Rs.getD i r0).g ∨ b = (Rs.getD i r0).gc)) ∨ w.heap.size ≤ b
/-- What moving rows leaves: the rows Rs' put together of the old ones and new blank ones. -/
def MoveY (Yo : Zone) (w : World) (B gg gr wd f q : Nat) (Rs : List Rw) (R : List Rw → List Rw) (w' : World) : Prop := ∃ Ns : List Rw, (Ns.map lineOf = List.replicate q (List.replicate wd zc, false) ∧ ∀ i, i < Ns.length → w.heap.size ≤ (Ns.getD i r0).g ∧ w.heap.size ≤ (Ns.getD i r0).gc) ∧ GridY Yo w' B gg gr wd (if f = 0 then R Ns else offAt (R Ns) (f - 1)) ∧ Upd (GridB w gr Rs) w w'
theorem lines_wide {Ns : List Rw} {q wd : Nat} (h : Ns.map lineOf = List.replicate q (List.replicate wd zc, false)) : Ns.length = q ∧ ∀ i, i < q → (Ns.getD i r0).L.length = wd := by
  have hl : Ns.length = q := by have := congrArg List.length h; simpa using this
  refine ⟨hl, fun i hi => ?_⟩
  have e : (Ns.map lineOf).getD i zl = (List.replicate wd zc, false) := by rw [h]; simp [List.getD, List.getElem?_replicate, hi]
  have e2 : (Ns.map lineOf).getD i zl = lineOf (Ns.getD i r0) := by simp [List.getD, List.getElem?_eq_getElem (show i < Ns.length by omega)]
  rw [e2] at e
  have := congrArg (fun x : Ln => x.1.length) e
  simpa [lineOf] using this
set_option maxRecDepth 100000 in
/-- scroll.set of moved rows. -/
theorem scset_up (B gg gr wd f t q M : Nat) (Rs Ns : List Rw) (v : Value) (w ws : World) (h : GridY Yo w B gg gr wd Rs) (hb : Below w.heap.size w ws) (hf : f < t) (ht : t ≤ Rs.length) (hq : q ≤ t - f) (hN : NsAt ws M Ns) (hM : w.heap.size ≤ M) (hl : Ns.map lineOf = List.replicate q (List.replicate wd zc, false)) (hv : HeldE ptrE (fun b => w.heap.size ≤ b) ws v (ptrs (upMid Rs Ns f t q))) : Calls Tryz.prog 265 #[.pointer (some ⟨gg, 0, none⟩), .int .i64 f, v] ws (fun e w' => e = .returned (.tuple #[]) ∧ MoveY Yo w B gg gr wd f q Rs (fun Ns => Rs.take f ++ upMid Rs Ns f t q ++ Rs.drop (f + (upMid Rs Ns f t q).length)) w' ∧ Upd (fun b => b < w.heap.size) ws w') := by
  have hlt := h.lt
  obtain ⟨hnl, hnw⟩ := lines_wide hl
  have hml := upMid_len (Rs := Rs) (Ns := Ns) (f := f) (t := t) (q := q) (by omega) ht hq hnl
  obtain ⟨Z, cap, k1, k2, k3, k4, k5, k6, k7, k8, k9, k10⟩ := h
  obtain ⟨Zn, n1, n2⟩ := hN
  have hap := RowsAt.append (M := M) (k7.below hb) n2 (by have := k2.lt; omega) (fun b hz => by have := k1 b hz; omega) (fun i hi => by have := hlt.2.2.2.2.2 i hi; omega) (fun b hz => (n1 b hz).1) (Nat.le_refl _)
  have hrw := up_rows hap (by omega) ht hq hnl
  have hs := scset_any B gg gr wd f cap _ Rs (upMid Rs Ns f t q) v ws (by rw [hml]; omega) (by rw [hml]; omega) k10.1 (fun b hz => by
      have := hb.size
      rcases hz with hz | hz
      · have := k1 b hz; omega
      · have := n1 b hz; have := k2.lt; omega) (fun x hx => k10.2 x (by
      have := hb.size
      rcases hx with (hz | hz) | hz
      · exact .inl hz
      · exact .inr (by have := n1 x hz; omega)
      · exact .inr (by omega))) (k2.below hb k2.lt) k3 (k4.below hb) (fun hz => by
      rcases hz with hz | hz
      · exact k5 hz
      · have := n1 _ hz; have := hlt.2.1; omega) (fun hz => by
      rcases hz with hz | hz
      · exact k6 hz
      · have := n1 _ hz; have := hlt.2.2.2.1; omega) hrw (fun i hi => by
      rw [mid_at _ hml (by omega) ht]
      have hil : i < Rs.length := by
        rw [List.length_append, List.length_append, List.length_take, List.length_drop, hml] at hi; omega
      split
      · exact k8 i hil
      · split
        · rw [up_at (by omega) ht hq hnl _ (by omega)]
          split
          · exact k8 _ (by omega)
          · exact hnw _ (by omega)
        · exact k8 i hil) (hv.zone fun b _ hz => by have := hlt.2.2.2.1; omega)
  refine hs.mono ?_
  rintro e w' ⟨rfl, hg, hu⟩
  refine ⟨rfl, ⟨Ns, ⟨hl, fun i hi => by have := n2.lt i hi; omega⟩, hg, ((Upd.ofBelow hb).trans hu).mono fun b _ e => ?_⟩, hu.mono fun b _ e => ?_⟩
  · rcases e with e | ⟨h0, e⟩
    · exact .inl e
    · rw [mid_at _ hml (by omega) ht, if_pos (by omega)] at e
      exact .inr (.inl ⟨f - 1, by omega, e⟩)
  rcases e with e | ⟨h0, e⟩
  · have := hlt.2.2.2.1; omega
  · rw [mid_at _ hml (by omega) ht, if_pos (by omega)] at e
    have := hlt.2.2.2.2.2 (f - 1) (by omega)
    rcases e with e | e <;> omega
set_option maxRecDepth 100000 in
set_option maxHeartbeats 3000000 in
theorem scup_good (B gg gr wd f t q : Nat) (Rs : List Rw) (a b k : Int) (w : World) (h : GridY Yo w B gg gr wd Rs) (hf : heldF Rs.length a = f) (ht : heldF Rs.length b = t) (hk : heldK Rs.length a b k = (q : Int)) (hq : 0 < q) : Calls Tryz.prog 227 #[.pointer (some ⟨gg, 0, none⟩), .int .i64 a, .int .i64 b, .int .i64 k] w (fun e w' => e = .returned (.tuple #[]) ∧ MoveY Yo w B gg gr wd f q Rs (fun Ns => Rs.take f ++ upMid Rs Ns f t q ++ Rs.drop (f + (upMid Rs Ns f t q).length)) w') := by
  have hsz := h.sizes
  have htl : t ≤ Rs.length := by rw [← ht]; exact heldF_le _ _
  have hqt : q ≤ t - f ∧ f < t := by unfold heldK at hk; rw [hf, ht] at hk; omega
  have hhe := scheld_raw (.pointer (some ⟨gg, 0, none⟩)) Rs.length hsz.2.1 a b k w (ghigh_any B gg gr wd Rs w h)
  rw [hf, ht, hk] at hhe
  have HHE := Lib.hid hhe
  have HG := Lib.hid h
  have HTK := Lib.hid (sctaken_any B gg gr wd f t Rs w h (by omega) htl)
  have HLT := Lib.hid h.lt
  have HTL := Lib.hid htl
  have hq1 : decide ((q : Int) < 1) = false := by rw [decide_eq_false_iff_not]; omega
  have hq2 : decide (q < 1) = false := by rw [decide_eq_false_iff_not]; omega
  obtain ⟨T, hT⟩ : ∃ T, T = ptrs ((Rs.drop f).take (t - f)) := ⟨_, rfl⟩
  have hTl : T.length = t - f := by rw [hT, ptrs_len, List.length_take, List.length_drop]; omega
  have HTE := Lib.hid hT
  rw [← hT] at HTK
  have hq9 : q ≤ 1024 := by omega
  have ht9 : t - f ≤ 1024 := by omega
  clear h hf ht hk hhe hT htl hsz
  go_enter Tryz.func227, Tryz.ntmps227
  go_wp2_with fail
  refine HHE.out.mono ?_
  rintro e w1 ⟨rfl, rfl⟩
  go_wp2_with fail
  refine HTK.out.mono ?_
  rintro e w1 ⟨v1, rfl, ho1, b1⟩
  obtain ⟨gt, ct, rfl, hgt1, hgt2⟩ := ho1.some (by omega)
  have hh1 := ho1.held (Z := fun b => w.heap.size ≤ b) (fun b hb _ => hb)
  obtain ⟨l, hl⟩ : ∃ l, l = t - f := ⟨_, rfl⟩
  rw [hTl] at hh1 ⊢
  rw [← hl] at hh1 hTl hqt ⊢
  have hcl : l ≤ ct := by obtain ⟨_, hn, _⟩ := hh1.spots; exact hn
  have HH := Lib.hid hh1
  have HB1 := Lib.hid b1
  have HQT := Lib.hid hqt
  have HT2 := Lib.hid (show T.length = l ∧ l ≤ 1024 from ⟨hTl, by rw [hl]; exact ht9⟩)
  have HLE := Lib.hid hl
  have HC := Lib.hid (show ∀ w', Below w1.heap.size w1 w' → HeldE ptrE (fun b => w.heap.size ≤ b) w' (.slice (if ct = q then some ⟨gt, 0, none⟩ else some ⟨gt, q, none⟩) (l - q) (ct - q)) (T.drop q) from fun w' b => by
    have h3 := HH.out.below b
    rw [← hTl] at h3
    obtain ⟨_, _, e, hcm, hmx, _⟩ := id h3
    cases e
    have hp := h3.part q T.length (by omega) (Nat.le_refl _) (if ct = q then some ⟨gt, 0, none⟩ else some ⟨gt, q, none⟩) (ct - q) (fun e => by cases e) (fun b off e hlt => by cases e; rw [if_neg (by omega)]; simp [show ptrE.size = 1 from rfl]) (fun _ _ => by split <;> simp) (by omega) (by omega)
    rw [List.take_of_length_le (by rw [List.length_drop]; exact Nat.le_refl _), hTl] at hp
    exact hp)
  have HMID := Lib.hid (show ∀ Ns, T.drop q ++ ptrs Ns = ptrs (upMid Rs Ns f t q) from fun Ns => by rw [HTE.out]; unfold upMid ptrs; rw [List.map_append, List.map_drop])
  have hz1 : q ≤ l := hqt.1
  have hz2 : q ≤ ct := by omega
  have hz3 : (q : Int) ≤ (l : Int) := by omega
  have hz4 : (q : Int) ≤ (ct : Int) := by omega
  clear ho1 b1 hh1 hl HTK HHE hq1 hq2
  go_upto_region 3 with (fail)
  obtain ⟨Erg, hErg⟩ : ∃ EE : Nat → Value → World → Prop, EE = fun jj xx ww => match jj with
      | 0 => xx = .pointer (some ⟨gg, 0, none⟩)
      | 1 => xx = .int .i64 f
      | 2 => xx = .slice (some ⟨gt, 0, none⟩) l ct
      | 3 => xx = .int .i64 q
      | 4 => xx = .slice (if ct = q then some ⟨gt, 0, none⟩ else some ⟨gt, q, none⟩) (l - q) (ct - q)
      | 5 => xx = .pointer (some ⟨gg, 0, none⟩)
      | 6 => xx = .int .i64 q
      | 7 => (fun x w' => ∃ Ns, NsAt w' w1.heap.size Ns ∧ HeldE ptrE (fun b => w.heap.size ≤ b) w' x (ptrs Ns) ∧ Ns.map lineOf = List.replicate q (List.replicate wd zc, false)) xx ww
      | 8 => (fun x w' => ∃ Ns, NsAt w' w1.heap.size Ns ∧ HeldE ptrsE (fun b => w.heap.size ≤ b) w' x [T.drop q, ptrs Ns] ∧ Ns.map lineOf = List.replicate q (List.replicate wd zc, false)) xx ww
      | 9 => (fun x w' => ∃ Ns, NsAt w' w1.heap.size Ns ∧ HeldE ptrE (fun b => w.heap.size ≤ b) w' x (T.drop q ++ ptrs Ns) ∧ Ns.map lineOf = List.replicate q (List.replicate wd zc, false)) xx ww
      | 10 => xx = .tuple #[]
      | _ => True := ⟨_, rfl⟩
  have erg0 : ∀ xx ww, Erg 0 xx ww = (xx = .pointer (some ⟨gg, 0, none⟩)) := fun xx ww => congrFun (congrFun (congrFun hErg 0) xx) ww
  have erg1 : ∀ xx ww, Erg 1 xx ww = (xx = .int .i64 f) := fun xx ww => congrFun (congrFun (congrFun hErg 1) xx) ww
  have erg2 : ∀ xx ww, Erg 2 xx ww = (xx = .slice (some ⟨gt, 0, none⟩) l ct) := fun xx ww => congrFun (congrFun (congrFun hErg 2) xx) ww
  have erg3 : ∀ xx ww, Erg 3 xx ww = (xx = .int .i64 q) := fun xx ww => congrFun (congrFun (congrFun hErg 3) xx) ww
  have erg4 : ∀ xx ww, Erg 4 xx ww = (xx = .slice (if ct = q then some ⟨gt, 0, none⟩ else some ⟨gt, q, none⟩) (l - q) (ct - q)) := fun xx ww => congrFun (congrFun (congrFun hErg 4) xx) ww
  have erg5 : ∀ xx ww, Erg 5 xx ww = (xx = .pointer (some ⟨gg, 0, none⟩)) := fun xx ww => congrFun (congrFun (congrFun hErg 5) xx) ww
  have erg6 : ∀ xx ww, Erg 6 xx ww = (xx = .int .i64 q) := fun xx ww => congrFun (congrFun (congrFun hErg 6) xx) ww
  have erg7 : ∀ xx ww, Erg 7 xx ww = ((fun x w' => ∃ Ns, NsAt w' w1.heap.size Ns ∧ HeldE ptrE (fun b => w.heap.size ≤ b) w' x (ptrs Ns) ∧ Ns.map lineOf = List.replicate q (List.replicate wd zc, false)) xx ww) := fun xx ww => congrFun (congrFun (congrFun hErg 7) xx) ww
  have erg8 : ∀ xx ww, Erg 8 xx ww = ((fun x w' => ∃ Ns, NsAt w' w1.heap.size Ns ∧ HeldE ptrsE (fun b => w.heap.size ≤ b) w' x [T.drop q, ptrs Ns] ∧ Ns.map lineOf = List.replicate q (List.replicate wd zc, false)) xx ww) := fun xx ww => congrFun (congrFun (congrFun hErg 8) xx) ww
  have erg9 : ∀ xx ww, Erg 9 xx ww = ((fun x w' => ∃ Ns, NsAt w' w1.heap.size Ns ∧ HeldE ptrE (fun b => w.heap.size ≤ b) w' x (T.drop q ++ ptrs Ns) ∧ Ns.map lineOf = List.replicate q (List.replicate wd zc, false)) xx ww) := fun xx ww => congrFun (congrFun (congrFun hErg 9) xx) ww
  have erg10 : ∀ xx ww, Erg 10 xx ww = (xx = .tuple #[]) := fun xx ww => congrFun (congrFun (congrFun hErg 10) xx) ww
  obtain ⟨Crg, hCrg⟩ : ∃ CC : Array Bool → World → Prop, CC = fun L8 w' => (Mix.one L8 10 = 0 → Below w1.heap.size w1 w') ∧ (Mix.one L8 10 = 1 → MoveY Yo w B gg gr wd f q Rs (fun Ns => Rs.take f ++ upMid Rs Ns f t q ++ Rs.drop (f + (upMid Rs Ns f t q).length)) w') := ⟨_, rfl⟩
  have krg : ∀ i L w, i ≠ 10 →  Crg L w → Crg (L.setIfInBounds i true) w := by
    intro i L w q10 h
    rw [hCrg] at h ⊢
    simp only [Mix.one_ne q10]; exact h
  obtain ⟨Xrg, hXrg⟩ : ∃ XX : World → World → Prop, XX = fun x y => Upd (fun b => b < w.heap.size) x y := ⟨_, rfl⟩
  have xrg : ∀ w, Xrg w w := fun w => by rw [hXrg]; exact Upd.refl _ _
  have strg : ∀ j x w w1, Xrg w w1 → Erg j x w → Erg j x w1 := by
    intro j x w w1 hx h
    rw [hXrg] at hx
    match j with
    | 0 => rw [erg0] at h ⊢; exact h
    | 1 => rw [erg1] at h ⊢; exact h
    | 2 => rw [erg2] at h ⊢; exact h
    | 3 => rw [erg3] at h ⊢; exact h
    | 4 => rw [erg4] at h ⊢; exact h
    | 5 => rw [erg5] at h ⊢; exact h
    | 6 => rw [erg6] at h ⊢; exact h
    | 7 => rw [erg7] at h ⊢; ((obtain ⟨Ns, h7, h8, h9⟩ := h; exact ⟨Ns, h7.upd hx (fun b e => Nat.lt_of_lt_of_le e HB1.out.size), HeldE.upd h8 hx (fun b hb e => by omega), h9⟩))
    | 8 => rw [erg8] at h ⊢; ((obtain ⟨Ns, h7, h8, h9⟩ := h; exact ⟨Ns, h7.upd hx (fun b e => Nat.lt_of_lt_of_le e HB1.out.size), HeldE.upd h8 hx (fun b hb e => by omega), h9⟩))
    | 9 => rw [erg9] at h ⊢; ((obtain ⟨Ns, h7, h8, h9⟩ := h; exact ⟨Ns, h7.upd hx (fun b e => Nat.lt_of_lt_of_le e HB1.out.size), HeldE.upd h8 hx (fun b hb e => by omega), h9⟩))
    | 10 => rw [erg10] at h ⊢; exact h
    | j + 11 => rw [hErg]; trivial
  have crg : Crg (Array.replicate 11 false) w1.drew := by rw [hCrg]; exact ⟨fun _ => (Below.refl _ _).drew, fun e => absurd e (by decide)⟩
  have brg : ∀ L w w1, Crg L w → Below w.heap.size w w1 → Crg L w1 := by
    intro L w w1 h hb
    rw [hCrg] at h ⊢
    exact ⟨fun e => (h.1 e).trans (hb.mono (h.1 e).size), fun e => by obtain ⟨Ns, q1, q2, q3⟩ := h.2 e; exact ⟨Ns, q1, q2.below hb, q3.trans (.ofBelow hb)⟩⟩
  have xbrg : ∀ w w1, Below w.heap.size w w1 → Xrg w w1 := by
    intro w w1 hb
    rw [hXrg]
    exact Upd.ofBelow hb
  have Hrgb := Lib.hid brg
  have Hrgxb := Lib.hid xbrg
  clear brg xbrg
  clear hErg
  have Hrgk := Lib.hid krg
  have Hrgx := Lib.hid xrg
  have Hrgst := Lib.hid strg
  have Hrgc := Lib.hid crg
  have HrghC := Lib.hid hCrg
  have HrghX := Lib.hid hXrg
  have Hrge0 := Lib.hid erg0
  have Hrge1 := Lib.hid erg1
  have Hrge2 := Lib.hid erg2
  have Hrge3 := Lib.hid erg3
  have Hrge4 := Lib.hid erg4
  have Hrge5 := Lib.hid erg5
  have Hrge6 := Lib.hid erg6
  have Hrge7 := Lib.hid erg7
  have Hrge8 := Lib.hid erg8
  have Hrge9 := Lib.hid erg9
  have Hrge10 := Lib.hid erg10
  clear krg xrg strg crg hCrg hXrg erg0 erg1 erg2 erg3 erg4 erg5 erg6 erg7 erg8 erg9 erg10
  go_wp2_with fail
  refine Reg.regionF Erg Crg Xrg Hrgst.out (by kernel_rfl) (by kernel_rfl) (by kernel_rfl) Hrgc.out (fun Frg hFrg => ?_)
  simp only [Reg.frame, Reg.dsts, List.map_cons, List.map_nil, Mix.put_lit, List.set_cons_succ, List.set_cons_zero, Nat.zero_add, Nat.reduceAdd] at hFrg
  refine ⟨?_, ?_⟩
  · refine ⟨?_, ?_, ?_, ?_, ?_, ?_, ?_, ?_, ?_, ?_, ?_, trivial⟩
    · intro Lq wq xq hh
      simp only [hFrg]
      refine .inl ⟨rfl, ?_⟩
      unfold Reg.upon
      have hk := Hrgk.out 0 Lq wq (by decide)  hh.cls
      have hx := Hrgx.out wq
      have he : Erg 0 (.pointer (some ⟨gg, 0, none⟩)) wq := by rw [Hrge0.out]
      have HK := Lib.hid (And.intro hk (And.intro he hx))
      clear hk hx he
      go_simp
      exact HK.out
    · intro Lq wq xq hh
      simp only [hFrg]
      refine .inl ⟨rfl, ?_⟩
      unfold Reg.upon
      have hk := Hrgk.out 1 Lq wq (by decide)  hh.cls
      have hx := Hrgx.out wq
      have he : Erg 1 (.int .i64 f) wq := by rw [Hrge1.out]
      have HK := Lib.hid (And.intro hk (And.intro he hx))
      clear hk hx he
      go_simp
      exact HK.out
    · intro Lq wq xq hh
      simp only [hFrg]
      refine .inl ⟨rfl, ?_⟩
      unfold Reg.upon
      have hk := Hrgk.out 2 Lq wq (by decide)  hh.cls
      have hx := Hrgx.out wq
      have he : Erg 2 (.slice (some ⟨gt, 0, none⟩) l ct) wq := by rw [Hrge2.out]
      have HK := Lib.hid (And.intro hk (And.intro he hx))
      clear hk hx he
      go_simp
      exact HK.out
    · intro Lq wq xq hh
      simp only [hFrg]
      refine .inl ⟨rfl, ?_⟩
      unfold Reg.upon
      have hk := Hrgk.out 3 Lq wq (by decide)  hh.cls
      have hx := Hrgx.out wq
      have he : Erg 3 (.int .i64 q) wq := by rw [Hrge3.out]
      have HK := Lib.hid (And.intro hk (And.intro he hx))
      clear hk hx he
      go_simp
      exact HK.out
    · intro Lq wq xq hh
      have d2 : Erg 2 (xq 2) wq := hh.val 2 (by kernel_rfl) (by kernel_rfl)
      rw [Hrge2.out] at d2
      have d3 : Erg 3 (xq 3) wq := hh.val 3 (by kernel_rfl) (by kernel_rfl)
      rw [Hrge3.out] at d3
      simp only [hFrg, d2, d3]
      clear d2 d3
      refine .inl ⟨rfl, ?_⟩
      unfold Reg.upon
      have hk := Hrgk.out 4 Lq wq (by decide)  hh.cls
      have hx := Hrgx.out wq
      have he : Erg 4 (.slice (if ct = q then some ⟨gt, 0, none⟩ else some ⟨gt, q, none⟩) (l - q) (ct - q)) wq := by rw [Hrge4.out]
      have HK := Lib.hid (And.intro hk (And.intro he hx))
      clear hk hx he
      go_simp
      exact HK.out
    · intro Lq wq xq hh
      simp only [hFrg]
      refine .inl ⟨rfl, ?_⟩
      unfold Reg.upon
      have hk := Hrgk.out 5 Lq wq (by decide)  hh.cls
      have hx := Hrgx.out wq
      have he : Erg 5 (.pointer (some ⟨gg, 0, none⟩)) wq := by rw [Hrge5.out]
      have HK := Lib.hid (And.intro hk (And.intro he hx))
      clear hk hx he
      go_simp
      exact HK.out
    · intro Lq wq xq hh
      simp only [hFrg]
      refine .inl ⟨rfl, ?_⟩
      unfold Reg.upon
      have hk := Hrgk.out 6 Lq wq (by decide)  hh.cls
      have hx := Hrgx.out wq
      have he : Erg 6 (.int .i64 q) wq := by rw [Hrge6.out]
      have HK := Lib.hid (And.intro hk (And.intro he hx))
      clear hk hx he
      go_simp
      exact HK.out
    · intro Lq wq xq hh
      have d5 : Erg 5 (xq 5) wq := hh.val 5 (by kernel_rfl) (by kernel_rfl)
      rw [Hrge5.out] at d5
      have d6 : Erg 6 (xq 6) wq := hh.val 6 (by kernel_rfl) (by kernel_rfl)
      rw [Hrge6.out] at d6
      simp only [hFrg, d5, d6]
      clear d5 d6
      refine .inl ⟨rfl, ?_⟩
      unfold Reg.upon
      have hc : Crg Lq wq := hh.cls
      rw [HrghC.out] at hc
      have hc7 := hc.1 (Mix.one_un (hh.notYet 10 (by kernel_rfl)))
      go_simp
      refine (scblanks_any B gg gr wd q Rs wq (HG.out.below (HB1.out.trans (hc7.mono HB1.out.size))) hq9).mono ?_
      rintro e w2 ⟨v2, Ns, rfl, ⟨Zn, n1, n2, n3, n4⟩, hm, hb⟩
      refine ⟨_, rfl, Hrgk.out 7 Lq w2 (by decide) (Hrgb.out Lq wq w2 hh.cls hb), ?_, Hrgxb.out wq w2 hb⟩
      rw [Hrge7.out]
      exact ⟨Ns, ⟨Zn, fun b hz => ⟨Nat.le_trans hc7.size (n1 b hz).1, (n1 b hz).2⟩, ⟨fun i hi => (n4.row i hi).base hc7.size, n4.out, n4.apart⟩⟩, (n2.zoneP (Y := fun b => w.heap.size ≤ b)).held (fun b hb _ => Nat.le_trans (Nat.le_trans HB1.out.size hc7.size) hb), hm⟩
    · intro Lq wq xq hh
      have d4 : Erg 4 (xq 4) wq := hh.val 4 (by kernel_rfl) (by kernel_rfl)
      rw [Hrge4.out] at d4
      have d7 : Erg 7 (xq 7) wq := hh.val 7 (by kernel_rfl) (by kernel_rfl)
      rw [Hrge7.out] at d7
      simp only [hFrg, d4]
      clear d4
      refine .inl ⟨rfl, ?_⟩
      unfold Reg.upon
      have hc : Crg Lq wq := hh.cls
      rw [HrghC.out] at hc
      have hc0 := hc.1 (Mix.one_un (hh.notYet 10 (by kernel_rfl)))
      obtain ⟨Ns, hn, hh8, hm⟩ := d7
      obtain ⟨ao4, ca4, e4⟩ := hh8.len
      obtain ⟨A8, hA8⟩ : ∃ A8, A8 = (if ct = q then some (⟨gt, 0, none⟩ : Addr) else some ⟨gt, q, none⟩) := ⟨_, rfl⟩
      have hb1 := (Below.refl wq.heap.size wq).alloc (Nat.le_refl _) (.cells #[.slice A8 (l - q) (ct - q), xq 7] 117)
      have hcc := HC.out wq hc0
      rw [← hA8] at hcc ⊢
      have ho := two_ptrs (Z := fun b => w.heap.size ≤ b) (B := w.heap.size) hcc hh8 (Nat.le_trans HB1.out.size hc0.size) (fun _ h => h)
      rw [e4] at ho hb1 ⊢
      clear hA8 hcc
      go_simp
      refine ⟨Hrgk.out 8 Lq _ (by decide) (Hrgb.out Lq wq _ hh.cls hb1), ?_, Hrgxb.out wq _ hb1⟩
      rw [Hrge8.out]
      exact ⟨Ns, hn.upd (S := fun b => b < w1.heap.size) (.ofBelow hb1) (fun _ e => e), ho, hm⟩
    · intro Lq wq xq hh
      have d8 : Erg 8 (xq 8) wq := hh.val 8 (by kernel_rfl) (by kernel_rfl)
      rw [Hrge8.out] at d8
      simp only [hFrg]
      refine .inl ⟨rfl, ?_⟩
      unfold Reg.upon
      have hc : Crg Lq wq := hh.cls
      rw [HrghC.out] at hc
      have hc0 := hc.1 (Mix.one_un (hh.notYet 10 (by kernel_rfl)))
      obtain ⟨Ns, hn, hh9, hm⟩ := d8
      have hnl := (lines_wide hm).1
      go_simp
      refine (pconcat_any (fun b => w.heap.size ≤ b) _ _ wq hh9 (by simp) (by have := HT2.out; simp only [List.flatten_cons, List.flatten_nil, List.append_nil, List.length_append, List.length_drop, ptrs_len]; omega)).mono ?_
      rintro e w4 ⟨v4, rfl, ho, hb⟩
      refine ⟨_, rfl, Hrgk.out 9 Lq w4 (by decide) (Hrgb.out Lq wq w4 hh.cls hb), ?_, Hrgxb.out wq w4 hb⟩
      rw [Hrge9.out]
      exact ⟨Ns, hn.upd (S := fun b => b < w1.heap.size) (.ofBelow hb) (fun _ e => e), by simpa using ho.held (fun b h _ => Nat.le_trans (Nat.le_trans HB1.out.size hc0.size) h), hm⟩
    · intro Lq wq xq hh
      have d0 : Erg 0 (xq 0) wq := hh.val 0 (by kernel_rfl) (by kernel_rfl)
      rw [Hrge0.out] at d0
      have d1 : Erg 1 (xq 1) wq := hh.val 1 (by kernel_rfl) (by kernel_rfl)
      rw [Hrge1.out] at d1
      have d9 : Erg 9 (xq 9) wq := hh.val 9 (by kernel_rfl) (by kernel_rfl)
      rw [Hrge9.out] at d9
      simp only [hFrg, d0, d1]
      clear d0 d1
      refine .inl ⟨rfl, ?_⟩
      unfold Reg.upon
      have hc : Crg Lq wq := hh.cls
      rw [HrghC.out] at hc
      have hc0 := hc.1 hh.un
      have hbw := HB1.out.trans (hc0.mono HB1.out.size)
      obtain ⟨Ns, hn, hh9, hm⟩ := d9
      rw [HMID.out] at hh9
      go_simp
      refine (scset_up B gg gr wd f t q w1.heap.size Rs Ns _ w wq HG.out hbw HQT.out.2 HTL.out (by rw [← HLE.out]; exact HQT.out.1) hn HB1.out.size hm hh9).mono ?_
      rintro e w4 ⟨rfl, hmd, hu⟩
      refine ⟨_, rfl, ?_, (by rw [Hrge10.out]), (by rw [HrghX.out]; exact hu)⟩
      rw [HrghC.out]
      dsimp only
      refine ⟨fun e => ?_, fun _ => hmd⟩
      rw [Mix.one_set (by rw [hh.size]; decide)] at e
      exact absurd e (by decide)
  intro xq wrg hcrg hvrg
  rw [HrghC.out] at hcrg
  simp only [hFrg]
  have vrg10 : Erg 10 (xq 10) wrg := hvrg 10 (by decide)
  rw [Hrge10.out] at vrg10
  rw [vrg10]
  clear hvrg hFrg Hrgk Hrgx Hrgst Hrgc HrghC HrghX Hrgb Hrgxb Hrge0 Hrge1 Hrge2 Hrge3 Hrge4 Hrge5 Hrge6 Hrge7 Hrge8 Hrge9 Hrge10
  have HE := Lib.hid (hcrg.2 (by kernel_rfl))
  clear hcrg vrg10
  go_wp2
  exact bodyPost_end (by kernel_rfl) rfl ⟨rfl, HE.out⟩
end Go.Proofs.YtoeggiplcaegoaaGreatDoor
/- scroll.Down. -/
namespace Go.Proofs.YtoeggiplcaegoaaGreatDoor
open Go.RowKit Go.ChangeShapes Go.WideShapes
end Go.Proofs.YtoeggiplcaegoaaGreatDoor
/- scroll: where nothing is moved; the law's do (33). -/
namespace Go.Proofs.YtoeggiplcaegoaaGreatDoor
open Go.RowKit Go.ChangeShapes Go.WideShapes
set_option maxRecDepth 100000 in
theorem scup_raw (p : Value) (n : Nat) (hn : n ≤ 1024) (a b k : Int) (w : World) (hh : Calls Tryz.prog 95 #[p] w fun e w' => e = .returned (.int .i64 n) ∧ w = w') (hk : heldK n a b k < 1) : Calls Tryz.prog 227 #[p, .int .i64 a, .int .i64 b, .int .i64 k] w fun e w' => e = .returned (.tuple #[]) ∧ w = w' := by
  have HHE := Lib.hid (scheld_raw p n hn a b k w hh)
  obtain ⟨K, hK⟩ : ∃ K, K = heldK n a b k := ⟨_, rfl⟩
  rw [← hK] at HHE hk
  have hd : decide (K < 1) = true := by rw [decide_eq_true_eq]; exact hk
  clear hK hh hk
  go_enter Tryz.func227, Tryz.ntmps227
  go_wp2_with fail
  refine HHE.out.mono ?_
  rintro e w1 ⟨rfl, rfl⟩
  go_wp2
  first
    | exact bodyPost_ret (v := .tuple #[]) (by simp [results, Tryz.results227, go_sem]) rfl ⟨rfl, rfl⟩
    | exact bodyPost_end (by kernel_rfl) rfl ⟨rfl, rfl⟩
end Go.Proofs.YtoeggiplcaegoaaGreatDoor
/- What moved rows' lines are (33). -/
namespace Go.Proofs.YtoeggiplcaegoaaGreatDoor
open Go.RowKit Go.ChangeShapes Go.WideShapes
def srcM (Ls : List Ln) (f t q : Nat) (up : Bool) (i : Nat) : Ln :=
  if f ≤ i ∧ i < t then (if up = true then (if i + q < t then Ls.getD (i + q) zl else (List.replicate (Ls.getD i zl).1.length zc, false)) else (if f + q ≤ i then Ls.getD (i - q) zl else (List.replicate (Ls.getD i zl).1.length zc, false))) else Ls.getD i zl
def entM (Ls : List Ln) (f t q : Nat) (up : Bool) (i : Nat) : Ln := ((srcM Ls f t q up i).1, if i + 1 = f ∨ (up = false ∧ i + 1 = t) then false else (srcM Ls f t q up i).2)
def moveL (Ls : List Ln) (f t q : Nat) (up : Bool) : List Ln := (List.range Ls.length).map (entM Ls f t q up)
theorem lines_at_i {Rs : List Rw} {Ls : List Ln} (h : Rs.map lineOf = Ls) (i : Nat) (hi : i < Rs.length) : lineOf (Rs.getD i r0) = Ls.getD i zl := by
  rw [← h]
  simp [List.getD, List.getElem?_eq_getElem hi]
theorem lines_ext {Rs : List Rw} {g : Nat → Ln} {n : Nat} (hl : Rs.length = n) (h : ∀ i, i < n → lineOf (Rs.getD i r0) = g i) : Rs.map lineOf = (List.range n).map g := by
  apply List.ext_getElem (by simp [hl])
  intro i h1 h2
  have hi : i < Rs.length := by simpa using h1
  have := h i (by omega)
  simp only [List.getElem_map, List.getElem_range]
  rw [← this]
  simp [List.getD, List.getElem?_eq_getElem hi]
theorem off_at (R : List Rw) (j i : Nat) (hj : j < R.length) : lineOf ((offAt R j).getD i r0) = if i = j then ((lineOf (R.getD i r0)).1, false) else lineOf (R.getD i r0) := by
  unfold offAt
  rw [getD_setI _ _ _ _ _ hj]
  by_cases e : i = j
  · subst e; rw [if_pos rfl, if_pos rfl]; rfl
  · rw [if_neg e, if_neg e]
theorem up_lines {Rs Ns : List Rw} {Ls : List Ln} {f t q wd : Nat} (h : Rs.map lineOf = Ls) (hf : f < t) (ht : t ≤ Rs.length) (hq : q ≤ t - f) (hm : Ns.map lineOf = List.replicate q (List.replicate wd zc, false)) (hw : ∀ i, i < Rs.length → (Rs.getD i r0).L.length = wd) :
    (if f = 0 then Rs.take f ++ upMid Rs Ns f t q ++ Rs.drop (f + (upMid Rs Ns f t q).length) else offAt (Rs.take f ++ upMid Rs Ns f t q ++ Rs.drop (f + (upMid Rs Ns f t q).length)) (f - 1)).map lineOf = moveL Ls f t q true := by
  have hnl := (lines_wide hm).1
  have hml := upMid_len (Rs := Rs) (Ns := Ns) (f := f) (t := t) (q := q) (by omega) ht hq hnl
  have hLl : Ls.length = Rs.length := by rw [← h]; simp
  obtain ⟨R', hR'⟩ : ∃ R', R' = Rs.take f ++ upMid Rs Ns f t q ++ Rs.drop (f + (upMid Rs Ns f t q).length) := ⟨_, rfl⟩
  have hrl : R'.length = Rs.length := by rw [hR', List.length_append, List.length_append, List.length_take, List.length_drop, hml]; omega
  have hat : ∀ i, i < Rs.length → lineOf (R'.getD i r0) = srcM Ls f t q true i := fun i hi => by
    rw [hR', mid_at _ hml (by omega) ht]
    unfold srcM
    by_cases c1 : i < f
    · rw [if_pos c1, if_neg (by omega)]; exact lines_at_i h i hi
    · rw [if_neg c1]
      by_cases c2 : i < t
      · rw [if_pos c2, if_pos ⟨by omega, c2⟩, if_pos rfl, up_at (by omega) ht hq hnl _ (by omega)]
        by_cases c3 : i + q < t
        · rw [if_pos (by omega), if_pos c3, show f + q + (i - f) = i + q by omega]
          exact lines_at_i h _ (by omega)
        · rw [if_neg (by omega), if_neg c3, ← lines_at_i h i hi, lines_at_i hm _ (by omega)]
          have e : (List.replicate q ((List.replicate wd zc, false) : Ln)).getD (i - f + q - (t - f)) zl = (List.replicate wd zc, false) := by simp [List.getD, List.getElem?_replicate, show i - f + q - (t - f) < q by omega]
          rw [e, show (lineOf (Rs.getD i r0)).1.length = wd from hw i hi]
      · rw [if_neg c2, if_neg (by omega)]; exact lines_at_i h i hi
  rw [← hR']
  unfold moveL
  rw [hLl]
  by_cases h0 : f = 0
  · rw [if_pos h0]
    refine lines_ext hrl fun i hi => ?_
    rw [hat i hi]
    unfold entM
    rw [if_neg (by rintro (e | ⟨e, _⟩); omega; exact absurd e (by decide))]
  · rw [if_neg h0]
    refine lines_ext (by unfold offAt; rw [List.length_set]; exact hrl) fun i hi => ?_
    rw [off_at _ _ _ (by rw [hrl]; omega), hat i hi]
    unfold entM
    by_cases c : i = f - 1
    · rw [if_pos c, if_pos (.inl (by omega))]
    · rw [if_neg c, if_neg (by rintro (e | ⟨e, _⟩); omega; exact absurd e (by decide))]
end Go.Proofs.YtoeggiplcaegoaaGreatDoor
/- The reference's Move (33). -/
namespace Go.Proofs.YtoeggiplcaegoaaGreatDoor
open Go.RowKit Go.ChangeShapes Go.WideShapes
end Go.Proofs.YtoeggiplcaegoaaGreatDoor
/- The reference's Move, where something is moved (33). -/
namespace Go.Proofs.YtoeggiplcaegoaaGreatDoor
open Go.RowKit Go.ChangeShapes Go.WideShapes
end Go.Proofs.YtoeggiplcaegoaaGreatDoor
/- The reference's Move down, where something is moved (33). -/
namespace Go.Proofs.YtoeggiplcaegoaaGreatDoor
open Go.RowKit Go.ChangeShapes Go.WideShapes
end Go.Proofs.YtoeggiplcaegoaaGreatDoor
/- The works of layer 33. -/
namespace Go.Proofs.YtoeggiplcaegoaaGreatDoor
open Go.RowKit Go.ChangeShapes Go.WideShapes
end Go.Proofs.YtoeggiplcaegoaaGreatDoor
/- MovedY Yo rows, whatever is asked (33): the reference's Move, and do on a grid. -/
namespace Go.Proofs.YtoeggiplcaegoaaGreatDoor
open Go.RowKit Go.ChangeShapes Go.WideShapes
variable {Yo : Zone}
/-- What is moved, if anything is. -/
def mvd (Ls : List Ln) (a b k : Int) (up : Bool) : List Ln := if heldK Ls.length a b k < 1 then Ls else moveL Ls (heldF Ls.length a) (heldF Ls.length b) (heldK Ls.length a b k).toNat up
theorem mvd_len (Ls : List Ln) (a b k : Int) (up : Bool) : (mvd Ls a b k up).length = Ls.length := by
  unfold mvd
  split
  · rfl
  · simp [moveL]
/-- Each row of the new grid is one of the old, or new. -/
def RowsFrom (w : World) (Rs Rs' : List Rw) : Prop := ∀ i, i < Rs'.length → (∃ j, j < Rs.length ∧ (Rs'.getD i r0).g = (Rs.getD j r0).g ∧ (Rs'.getD i r0).gc = (Rs.getD j r0).gc) ∨ (w.heap.size ≤ (Rs'.getD i r0).g ∧ w.heap.size ≤ (Rs'.getD i r0).gc)
theorem RowsFrom.off {w : World} {Rs Rs' : List Rw} (h : RowsFrom w Rs Rs') (k : Nat) : RowsFrom w Rs (offAt Rs' k) := by
  intro i hi
  unfold offAt at hi ⊢
  rw [List.length_set] at hi
  by_cases e : k < Rs'.length
  · rw [getD_setI _ _ _ _ _ e]
    by_cases e2 : i = k
    · subst e2; rw [if_pos rfl]; exact h i hi
    · rw [if_neg e2]; exact h i hi
  · rw [List.set_eq_of_length_le (by omega)]; exact h i hi
theorem up_from {w : World} {Rs Ns : List Rw} {f t q : Nat} (hf : f < t) (ht : t ≤ Rs.length) (hq : q ≤ t - f) (hn : Ns.length = q) (hns : ∀ i, i < Ns.length → w.heap.size ≤ (Ns.getD i r0).g ∧ w.heap.size ≤ (Ns.getD i r0).gc) : RowsFrom w Rs (Rs.take f ++ upMid Rs Ns f t q ++ Rs.drop (f + (upMid Rs Ns f t q).length)) := by
  intro i hi
  have hml := upMid_len (Rs := Rs) (Ns := Ns) (f := f) (t := t) (q := q) (by omega) ht hq hn
  have hil : i < Rs.length := by rw [List.length_append, List.length_append, List.length_take, List.length_drop, hml] at hi; omega
  rw [mid_at _ hml (by omega) ht]
  split
  · exact .inl ⟨i, hil, rfl, rfl⟩
  · split
    · rw [up_at (by omega) ht hq hn _ (by omega)]
      split
      · exact .inl ⟨_, by omega, rfl, rfl⟩
      · exact .inr (hns _ (by omega))
    · exact .inl ⟨i, hil, rfl, rfl⟩
/-- What Up and Down leave. -/
def MovedY (Yo : Zone) (w : World) (B gg gr wd : Nat) (Rs : List Rw) (Ls' : List Ln) (e : Ending) (w' : World) : Prop := e = .returned (.tuple #[]) ∧ ∃ Rs', GridY Yo w' B gg gr wd Rs' ∧ Rs'.map lineOf = Ls' ∧ Upd (GridB w gr Rs) w w' ∧ RowsFrom w Rs Rs'
abbrev Moved (w : World) (B gg gr wd : Nat) (Rs : List Rw) (Ls' : List Ln) (e : Ending) (w' : World) : Prop := MovedY (fun _ => True) w B gg gr wd Rs Ls' e w'
theorem map_len {Rs : List Rw} {Ls : List Ln} (h : Rs.map lineOf = Ls) : Rs.length = Ls.length := by rw [← h]; simp
theorem RowsFrom.self (w : World) (Rs : List Rw) : RowsFrom w Rs Rs := fun i hi => .inl ⟨i, hi, rfl, rfl⟩
theorem scup_all (B gg gr wd : Nat) (Rs : List Rw) (Ls : List Ln) (a b k : Int) (w : World) (h : GridY Yo w B gg gr wd Rs) (hL : Rs.map lineOf = Ls) : Calls Tryz.prog 227 #[.pointer (some ⟨gg, 0, none⟩), .int .i64 a, .int .i64 b, .int .i64 k] w (MovedY Yo w B gg gr wd Rs (mvd Ls a b k true)) := by
  have hll := map_len hL
  have hsz := h.sizes
  by_cases hk : heldK Ls.length a b k < 1
  · refine (scup_raw _ Ls.length (by omega) a b k w (by rw [← hll]; exact ghigh_any B gg gr wd Rs w h) hk).mono ?_
    rintro e w' ⟨rfl, rfl⟩
    refine ⟨rfl, Rs, h, ?_, .refl _ _, .self _ _⟩
    unfold mvd
    rw [if_pos hk, hL]
  · have hq : heldK Ls.length a b k = (((heldK Ls.length a b k).toNat : Nat) : Int) := by omega
    have h0 : 0 < (heldK Ls.length a b k).toNat := by omega
    have hfl := heldF_le Ls.length b
    have hkk : heldK Ls.length a b k ≤ (heldF Ls.length b : Int) - heldF Ls.length a := by unfold heldK; omega
    refine (scup_good B gg gr wd (heldF Ls.length a) (heldF Ls.length b) (heldK Ls.length a b k).toNat Rs a b k w h (by rw [hll]) (by rw [hll]) (by rw [hll]; exact hq) h0).mono ?_
    rintro e w' ⟨rfl, Ns, ⟨hm, hns⟩, hg, hu⟩
    refine ⟨rfl, _, hg, ?_, hu, ?_⟩
    · unfold mvd
      rw [if_neg hk]
      exact up_lines hL (by omega) (by omega) (by omega) hm (fun i hi => hsz.2.2.2.2 i hi)
    · have hr := up_from (w := w) (f := heldF Ls.length a) (t := heldF Ls.length b) (q := (heldK Ls.length a b k).toNat) (Rs := Rs) (by omega) (by omega) (by omega) (lines_wide hm).1 hns
      split
      · exact hr
      · exact hr.off _
/-- Zones apart from a grid's blocks. -/
def OffG (Z : Zone) (gg gr : Nat) (Rs : List Rw) : Prop := ∀ b, Z b → b ≠ gg ∧ b ≠ gr ∧ ∀ i, i < Rs.length → b ≠ (Rs.getD i r0).g ∧ b ≠ (Rs.getD i r0).gc
theorem OffG.from {Z : Zone} {gg gr : Nat} {Rs Rs' : List Rw} {w : World} (h : OffG Z gg gr Rs) (hz : ∀ b, Z b → b < w.heap.size) (hr : RowsFrom w Rs Rs') : OffG Z gg gr Rs' := fun b hb => by
  obtain ⟨h1, h2, h3⟩ := h b hb
  refine ⟨h1, h2, fun i hi => ?_⟩
  have hlt := hz b hb
  rcases hr i hi with ⟨j, hj, e1, e2⟩ | ⟨e1, e2⟩
  · rw [e1, e2]; exact h3 j hj
  · omega
theorem OffG.not {Z : Zone} {gg gr : Nat} {Rs : List Rw} {w : World} (h : OffG Z gg gr Rs) (hz : ∀ b, Z b → b < w.heap.size) (b : Nat) (hb : Z b) : ¬ GridB w gr Rs b := by
  obtain ⟨h1, h2, h3⟩ := h b hb
  have hlt := hz b hb
  rintro (e | ⟨i, hi, e⟩ | e)
  · exact h2 e
  · rcases e with e | e
    · exact (h3 i hi).1 e
    · exact (h3 i hi).2 e
  · omega
end Go.Proofs.YtoeggiplcaegoaaGreatDoor
/- Grids keep off a block that has no text; a pen's block. -/
namespace Go.Proofs.YtoeggiplcaegoaaGreatDoor
open Go.RowKit Go.ChangeShapes Go.WideShapes
variable {Yo : Zone}
def NoTx (w : World) (g : Nat) : Prop := ∀ o x, w.cell? ⟨g, o, none⟩ ≠ some (.int .i32 x)
theorem text_off {Z : Zone} {w : World} {v : Value} {xs : List Int} {g : Nat} (h : HeldE (intE .i32) Z w v xs) (hg : NoTx w g) : HeldE (intE .i32) (fun b => Z b ∧ b ≠ g) w v xs := by
  obtain ⟨ao, cap, rfl, hl, hm, hn, hc⟩ := h
  refine ⟨ao, cap, rfl, hl, hm, hn, fun i hi => ?_⟩
  obtain ⟨b, off, rfl, hb, hz, C, hC, hr⟩ := hc i hi
  have hr' : C = [.int .i32 (xs.getD i 0)] := hr
  refine ⟨b, off, rfl, hb, ⟨hz, fun e => ?_⟩, C, hC, hr⟩
  subst e
  have h0 := hC 0 (by decide)
  rw [hr'] at h0
  exact hg _ _ h0
theorem row_off {Z : Zone} {w : World} {B g gc gp : Nat} {L : List Cl} {wrap : Bool} (h : RowAt Z w B g gc L wrap) (hg : NoTx w gp) : RowAt (fun b => Z b ∧ b ≠ gp) w B g gc L wrap := by
  obtain ⟨cap, h1, h2, h3, ⟨CS, k1, k2, k3⟩, h5⟩ := h
  refine ⟨cap, h1, h2, h3, ⟨CS, k1, k2, fun i hi => ?_⟩, h5⟩
  obtain ⟨tv, e, ht⟩ := cell_rep.1 (k3 i hi)
  exact cell_rep.2 ⟨tv, e, (text_off ht hg).zone fun b _ hz => ⟨⟨⟨hz.1.1.1, hz.2⟩, hz.1.1.2⟩, hz.1.2⟩⟩
theorem rows_off {Z : Zone} {w : World} {B gp : Nat} {Rs : List Rw} (h : RowsAt Z w B Rs) (hg : NoTx w gp) : RowsAt (fun b => Z b ∧ b ≠ gp) w B Rs :=
  ⟨fun i hi => row_off (h.row i hi) hg, fun i hi => ⟨fun hz => (h.out i hi).1 hz.1, fun hz => (h.out i hi).2 hz.1⟩, h.apart⟩
theorem GridY.off {w : World} {B gg gr wd gp : Nat} {Rs : List Rw} (h : GridY Yo w B gg gr wd Rs) (hg : NoTx w gp) : ∃ (Z : Zone) (cap : Nat), (∀ b, Z b → B ≤ b ∧ b < w.heap.size ∧ b ≠ gp) ∧ Has w gg [.int .i64 wd, .slice (some ⟨gr, 0, none⟩) Rs.length cap] 119 ∧ B ≤ gg ∧ OwnE ptrE (fun _ => True) w B 113 (.slice (some ⟨gr, 0, none⟩) Rs.length cap) (ptrs Rs) ∧ ¬ Z gg ∧ ¬ Z gr ∧ RowsAt Z w B Rs ∧ (∀ i, i < Rs.length → (Rs.getD i r0).L.length = wd) ∧ 0 < Rs.length ∧ Rs.length ≤ 1024 ∧ ∀ b, (Z b ∨ w.heap.size ≤ b) → Yo b := by
  obtain ⟨Z, cap, h1, h2, h3, h4, h5, h6, h7, h8, h9, h10, hY⟩ := h
  exact ⟨fun b => Z b ∧ b ≠ gp, cap, fun b hz => ⟨(h1 b hz.1).1, (h1 b hz.1).2, hz.2⟩, h2, h3, h4, fun hz => h5 hz.1, fun hz => h6 hz.1, rows_off h7 hg, h8, h9, h10, fun b hb => hY b (hb.imp And.left id)⟩
/-- A block of another type is none of the grid's. -/
theorem GridY.other {w : World} {B gg gr wd g : Nat} {Rs : List Rw} (h : GridY Yo w B gg gr wd Rs) {C : List Value} {t : TypeId} (hg : Has w g C t) (t1 : t ≠ 119) (t2 : t ≠ 113) (t3 : t ≠ 187) (t4 : t ≠ 147) : g ≠ gg ∧ g ≠ gr ∧ ∀ i, i < Rs.length → g ≠ (Rs.getD i r0).g ∧ g ≠ (Rs.getD i r0).gc := by
  obtain ⟨Z, cap, h1, h2, h3, h4, h5, h6, h7, h8⟩ := h
  obtain ⟨D, hD⟩ := own_type h4 (b := gr) rfl
  refine ⟨fun e => by subst e; exact other_type hg h2 t1, fun e => by subst e; exact other_type hg hD t2, fun i hi => ?_⟩
  obtain ⟨⟨D, hD⟩, D', hD'⟩ := (h7.row i hi).types
  exact ⟨fun e => by subst e; exact other_type hg hD t3, fun e => by subst e; exact other_type hg hD' t4⟩
/-- A write to a block that has no text and is none of the grid's leaves the grid. -/
theorem GridY.pen {w w' : World} {B gg gr wd gp : Nat} {Rs : List Rw} (h : GridY Yo w B gg gr wd Rs) (hg : NoTx w gp) (ho : gp ≠ gg ∧ gp ≠ gr ∧ ∀ i, i < Rs.length → gp ≠ (Rs.getD i r0).g ∧ gp ≠ (Rs.getD i r0).gc) (hu : Upd (fun b => b = gp) w w') : GridY Yo w' B gg gr wd Rs := by
  obtain ⟨Z, cap, h1, h2, h3, h4, h5, h6, h7, h8, h9, h10, hY⟩ := h.off hg
  have hk := hu.keep
  refine ⟨Z, cap, fun b hz => ⟨(h1 b hz).1, Nat.lt_of_lt_of_le (h1 b hz).2.1 hu.size⟩, hk.has h2 (fun e => ho.1 e.symm), h3, ?_, h5, h6, h7.upd hu (fun b hz e => (h1 b hz).2.2 e) (fun i hi => ⟨fun e => (ho.2.2 i hi).1 e.symm, fun e => (ho.2.2 i hi).2 e.symm⟩), h8, h9, h10, fun b hb => hY b (hb.imp id (Nat.le_trans hu.size))⟩
  exact own_ptrs (hk.own h4.ptrs fun b hb e => by
    have : gr = b := by simpa [Value.ownBlock] using hb
    exact ho.2.1 (by rw [this]; exact e.symm))
end Go.Proofs.YtoeggiplcaegoaaGreatDoor
/- The pen in the world, and what its steps leave. -/
namespace Go.Proofs.YtoeggiplcaegoaaGreatDoor
open Go.RowKit Go.ChangeShapes Go.WideShapes
variable {Yo : Zone}
/-- A pen at block gp, over a grid with the lines Ls. -/
def PenY (Yo : Zone) (w : World) (B gp gg gr wd : Nat) (Rs : List Rw) (Ls : List Ln) (r c : Int) (pd au : Bool) : Prop :=
  Has w gp [.pointer (some ⟨gg, 0, none⟩), .int .i64 r, .int .i64 c, .bool pd, .bool au] 42 ∧ B ≤ gp ∧ GridY Yo w B gg gr wd Rs ∧ Rs.map lineOf = Ls
abbrev PenAt (w : World) (B gp gg gr wd : Nat) (Rs : List Rw) (Ls : List Ln) (r c : Int) (pd au : Bool) : Prop := PenY (fun _ => True) w B gp gg gr wd Rs Ls r c pd au
/-- The blocks that a pen may write. -/
def PZ (w : World) (gp gr : Nat) (Rs : List Rw) (b : Nat) : Prop := b = gp ∨ GridB w gr Rs b
theorem RowsFrom.trans {w w1 : World} {Rs R1 R2 : List Rw} (h : RowsFrom w Rs R1) (k : RowsFrom w1 R1 R2) (hs : w.heap.size ≤ w1.heap.size) : RowsFrom w Rs R2 := fun i hi => by
  rcases k i hi with ⟨j, hj, e1, e2⟩ | ⟨e1, e2⟩
  · rcases h j hj with ⟨q, hq, f1, f2⟩ | ⟨f1, f2⟩
    · exact .inl ⟨q, hq, e1.trans f1, e2.trans f2⟩
    · exact .inr ⟨by omega, by omega⟩
  · exact .inr ⟨by omega, by omega⟩
theorem PZ.from {w w1 : World} {gp gr : Nat} {Rs R1 : List Rw} (h : RowsFrom w Rs R1) (hs : w.heap.size ≤ w1.heap.size) (b : Nat) (hb : PZ w1 gp gr R1 b) : PZ w gp gr Rs b := by
  rcases hb with e | e | ⟨i, hi, e⟩ | e
  · exact .inl e
  · exact .inr (.inl e)
  · rcases h i hi with ⟨q, hq, f1, f2⟩ | ⟨f1, f2⟩
    · exact .inr (.inr (.inl ⟨q, hq, by rcases e with e | e; exact .inl (e.trans f1); exact .inr (e.trans f2)⟩))
    · exact .inr (.inr (.inr (by rcases e with e | e <;> omega)))
  · exact .inr (.inr (.inr (by omega)))
section
variable {w w1 w2 : World} {B gp gg gr wd : Nat} {Rs R1 : List Rw} {Ls : List Ln} {r c : Int} {pd au : Bool}
theorem PenY.notx (h : PenY Yo w B gp gg gr wd Rs Ls r c pd au) : NoTx w gp := fun o x e => by
  rw [cell_of_row w gp o _ _ (0, 0) h.1] at e
  match o with
  | 0 => simp at e
  | 1 => simp at e
  | 2 => simp at e
  | 3 => simp at e
  | 4 => simp at e
  | o + 5 => simp at e
theorem PenY.other (h : PenY Yo w B gp gg gr wd Rs Ls r c pd au) : gp ≠ gg ∧ gp ≠ gr ∧ ∀ i, i < Rs.length → gp ≠ (Rs.getD i r0).g ∧ gp ≠ (Rs.getD i r0).gc := h.2.2.1.other h.1 (by decide) (by decide) (by decide) (by decide)
theorem PenY.any (h : PenY Yo w B gp gg gr wd Rs Ls r c pd au) : PenAt w B gp gg gr wd Rs Ls r c pd au := ⟨h.1, h.2.1, h.2.2.1.any, h.2.2.2⟩
theorem PenY.lt (h : PenY Yo w B gp gg gr wd Rs Ls r c pd au) : gp < w.heap.size := h.1.lt
/-- The pen's own block was turned. -/
theorem PenY.turn (h : PenY Yo w B gp gg gr wd Rs Ls r c pd au) {r' c' : Int} {pd' au' : Bool} (hh : Has w1 gp [.pointer (some ⟨gg, 0, none⟩), .int .i64 r', .int .i64 c', .bool pd', .bool au'] 42) (hu : Upd (fun b => b = gp) w w1) : PenY Yo w1 B gp gg gr wd Rs Ls r' c' pd' au' :=
  ⟨hh, h.2.1, h.2.2.1.pen h.notx h.other hu, h.2.2.2⟩
theorem PenY.off (h : PenY Yo w B gp gg gr wd Rs Ls r c pd au) : ¬ GridB w gr Rs gp := fun e => by
  have ho := h.other
  have hl := h.lt
  rcases e with e | ⟨i, hi, e⟩ | e
  · exact ho.2.1 e
  · rcases e with e | e
    · exact (ho.2.2 i hi).1 e
    · exact (ho.2.2 i hi).2 e
  · omega
/-- The grid was turned. -/
theorem PenY.grid (h : PenY Yo w B gp gg gr wd Rs Ls r c pd au) {Ls' : List Ln} (hg : GridY Yo w1 B gg gr wd R1) (hm : R1.map lineOf = Ls') (hu : Upd (GridB w gr Rs) w w1) : PenY Yo w1 B gp gg gr wd R1 Ls' r c pd au :=
  ⟨hu.keep.has h.1 h.off, h.2.1, hg, hm⟩
theorem PenY.below (h : PenY Yo w B gp gg gr wd Rs Ls r c pd au) (hb : Below w.heap.size w w1) : PenY Yo w1 B gp gg gr wd Rs Ls r c pd au := ⟨h.1.below hb h.lt, h.2.1, h.2.2.1.below hb, h.2.2.2⟩
/-- What a step leaves. -/
def PDoY (Yo : Zone) (w : World) (B gp gg gr wd : Nat) (Rs : List Rw) (Ls' : List Ln) (r c : Int) (pd au : Bool) (w1 : World) : Prop := ∃ R1, PenY Yo w1 B gp gg gr wd R1 Ls' r c pd au ∧ Upd (PZ w gp gr Rs) w w1 ∧ RowsFrom w Rs R1
abbrev PDo (w : World) (B gp gg gr wd : Nat) (Rs : List Rw) (Ls' : List Ln) (r c : Int) (pd au : Bool) (w1 : World) : Prop := PDoY (fun _ => True) w B gp gg gr wd Rs Ls' r c pd au w1
theorem PDoY.trans {L2 : List Ln} {r2 c2 : Int} {pd2 au2 : Bool} (hu : Upd (PZ w gp gr Rs) w w1) (hf : RowsFrom w Rs R1) (k : PDoY Yo w1 B gp gg gr wd R1 L2 r2 c2 pd2 au2 w2) : PDoY Yo w B gp gg gr wd Rs L2 r2 c2 pd2 au2 w2 := by
  obtain ⟨R2, h1, h2, h3⟩ := k
  exact ⟨R2, h1, hu.trans (h2.mono fun b _ hb => PZ.from hf hu.size b hb), hf.trans h3 hu.size⟩
theorem PDoY.turn (h : PenY Yo w B gp gg gr wd Rs Ls r c pd au) {r' c' : Int} {pd' au' : Bool} (hh : Has w1 gp [.pointer (some ⟨gg, 0, none⟩), .int .i64 r', .int .i64 c', .bool pd', .bool au'] 42) (hu : Upd (fun b => b = gp) w w1) : PDoY Yo w B gp gg gr wd Rs Ls r' c' pd' au' w1 :=
  ⟨Rs, h.turn hh hu, hu.mono fun b _ e => .inl e, RowsFrom.self _ _⟩
theorem PDoY.grid (h : PenY Yo w B gp gg gr wd Rs Ls r c pd au) {Ls' : List Ln} (hg : GridY Yo w1 B gg gr wd R1) (hm : R1.map lineOf = Ls') (hu : Upd (GridB w gr Rs) w w1) (hf : RowsFrom w Rs R1) : PDoY Yo w B gp gg gr wd Rs Ls' r c pd au w1 :=
  ⟨R1, h.grid hg hm hu, hu.mono fun b _ e => .inr e, hf⟩
theorem PDoY.below (h : PenY Yo w B gp gg gr wd Rs Ls r c pd au) (hb : Below w.heap.size w w1) : PDoY Yo w B gp gg gr wd Rs Ls r c pd au w1 := ⟨Rs, h.below hb, .ofBelow hb, RowsFrom.self _ _⟩
/-- The sizes and the cells of a pen's grid. -/
theorem PenY.sizes (h : PenY Yo w B gp gg gr wd Rs Ls r c pd au) : 0 < Ls.length ∧ Ls.length ≤ 1024 ∧ 0 < wd ∧ wd ≤ 1024 ∧ Rs.length = Ls.length ∧ ∀ i, i < Ls.length → (Ls.getD i zl).1.length = wd := by
  have hs := h.2.2.1.sizes
  have hl := map_len h.2.2.2
  refine ⟨by omega, by omega, hs.2.2.1, hs.2.2.2.1, hl, fun i hi => ?_⟩
  rw [← lines_at_i h.2.2.2 i (by omega)]
  exact hs.2.2.2.2 i (by omega)
theorem set_lines {Rs : List Rw} {Ls : List Ln} (h : Rs.map lineOf = Ls) (i g gc : Nat) (L : List Cl) (b : Bool) : (Rs.set i ⟨g, gc, L, b⟩).map lineOf = Ls.set i (L, b) := by rw [List.map_set, h]; rfl
theorem rows_set {w : World} (Rs : List Rw) (i : Nat) (L : List Cl) (b : Bool) : RowsFrom w Rs (Rs.set i ⟨(Rs.getD i r0).g, (Rs.getD i r0).gc, L, b⟩) := fun j hj => by
  rw [List.length_set] at hj
  refine .inl ⟨j, hj, ?_⟩
  by_cases e : j = i
  · subst e; rw [getD_setI _ _ _ _ _ hj, if_pos rfl]; exact ⟨rfl, rfl⟩
  · rw [show (Rs.set i (⟨(Rs.getD i r0).g, (Rs.getD i r0).gc, L, b⟩ : Rw)).getD j r0 = Rs.getD j r0 from by simp [List.getD, List.getElem?_set_ne (Ne.symm e)]]; exact ⟨rfl, rfl⟩
/-- A call that paints a row of the grid. -/
theorem GridY.painted {i : Nat} {L : List Cl} {b : Bool} {f : FuncId} {args : Array Value} (h : GridY Yo w B gg gr wd Rs) (hi : i < Rs.length) (hl : L.length = wd) (hc : ∀ Z : Zone, (∀ b, w.heap.size ≤ b → Z b) → RowAt Z w B (Rs.getD i r0).g (Rs.getD i r0).gc (Rs.getD i r0).L (Rs.getD i r0).wrap → Calls Tryz.prog f args w (PaintOk Z B (Rs.getD i r0).g (Rs.getD i r0).gc w L b)) :
    Calls Tryz.prog f args w (fun e w1 => e = .returned .nilIface ∧ GridY Yo w1 B gg gr wd (Rs.set i ⟨(Rs.getD i r0).g, (Rs.getD i r0).gc, L, b⟩) ∧ Upd (fun x => x = (Rs.getD i r0).g ∨ x = (Rs.getD i r0).gc) w w1) := by
  obtain ⟨cap', hp⟩ := h.part
  have hap := hp.apart (b := gr) rfl
  have hgp := hp.gapart
  have hlt := h.lt
  obtain ⟨Z, cap, h1, h2, h3, h4, h5, h6, h7, h8, h9, h10⟩ := h
  have hri := hlt.2.2.2.2.2 i hi
  refine (hc (fun b => Z b ∨ w.heap.size ≤ b) (fun b hb => .inr hb) ((h7.row i hi).keep (.refl _ _) fun b _ hz => .inl hz)).mono ?_
  rintro e w1 ⟨rfl, hr1, hu⟩
  refine ⟨rfl, ?_, hu⟩
  refine ⟨fun b => Z b ∨ (w.heap.size ≤ b ∧ b < w1.heap.size), cap, fun b hz => by have := hu.size; rcases hz with hz | hz; have := h1 b hz; omega; omega, ?_, h3, ?_, ?_, ?_, ?_, fun j hj => ?_, by rw [List.length_set]; exact h9, by rw [List.length_set]; exact h10.1, fun x hx => h10.2 x (by
    have := hu.size
    rcases hx with (hz | hz) | hz
    · exact .inl hz
    · exact .inr hz.1
    · exact .inr (by omega))⟩
  · rw [List.length_set]
    exact hu.keep.has h2 (fun e => by rcases e with e | e; exact (hgp i hi).1 e.symm; exact (hgp i hi).2 e.symm)
  · have he : ptrs (Rs.set i ⟨(Rs.getD i r0).g, (Rs.getD i r0).gc, L, b⟩) = ptrs Rs := by
      unfold ptrs
      rw [List.map_set]
      apply List.ext_getElem?
      intro j
      by_cases e : j = i
      · subst e
        rw [List.getElem?_set_self (by rw [List.length_map]; exact hi)]
        simp [List.getD, List.getElem?_eq_getElem hi]
      · rw [List.getElem?_set_ne (Ne.symm e)]
    rw [he, List.length_set]
    exact own_ptrs (hu.keep.own h4.ptrs fun b hb e => by
      have : gr = b := by simpa [Value.ownBlock] using hb
      subst this
      rcases e with e | e
      · exact (hap.2 i hi).1 e.symm
      · exact (hap.2 i hi).2 e.symm)
  · rintro (hz | hz)
    · exact h5 hz
    · have := hlt.2.1; omega
  · rintro (hz | hz)
    · exact h6 hz
    · have := hlt.2.2.2.1; omega
  · have hz1 : RowAt (fun b => Z b ∨ (w.heap.size ≤ b ∧ b < w1.heap.size)) w1 B (Rs.getD i r0).g (Rs.getD i r0).gc L b := hr1.keep (.refl _ _) fun b hb hz => by rcases hz with hz | hz; exact .inl hz; exact .inr ⟨hz, hb⟩
    refine h7.put hi hz1 ⟨fun hz => by rcases hz with hz | hz; exact (h7.out i hi).1 hz; omega, fun hz => by rcases hz with hz | hz; exact (h7.out i hi).2 hz; omega⟩ (fun j hj hne => ((h7.row j hj).upd hu (fun b hz e => by rcases e with e | e; exact (h7.out i hi).1 (e ▸ hz); exact (h7.out i hi).2 (e ▸ hz)) (fun e => by rcases e with e | e; exact (h7.apart j i hj hi hne).1 e; exact h7.cross j i hj hi e) (fun e => by rcases e with e | e; exact h7.cross i j hi hj e.symm; exact (h7.apart j i hj hi hne).2 e)).keep (.refl _ _) fun b _ hz => .inl hz) (fun j hj hne => ?_) (fun j hj hne => h7.apart i j hi hj (Ne.symm hne)) h7.apart
    have hrj := hlt.2.2.2.2.2 j hj
    exact ⟨fun hz => by rcases hz with hz | hz; exact (h7.out j hj).1 hz; omega, fun hz => by rcases hz with hz | hz; exact (h7.out j hj).2 hz; omega⟩
  · rw [List.length_set] at hj
    rw [getD_setI _ _ _ _ _ hi]
    by_cases e : j = i
    · rw [if_pos e]; exact hl
    · rw [if_neg e]; exact h8 j hj
end
end Go.Proofs.YtoeggiplcaegoaaGreatDoor
/- What a pen's steps make of lines. Of no program's code. -/
namespace Go.Proofs.YtoeggiplcaegoaaGreatDoor
open Go.RowKit Go.ChangeShapes Go.WideShapes
/-- Lines of one width. -/
def Even (Ls : List Ln) (wd : Nat) : Prop := 0 < Ls.length ∧ Ls.length ≤ 1000 ∧ 0 < wd ∧ wd ≤ 1024 ∧ ∀ i, i < Ls.length → (Ls.getD i zl).1.length = wd
theorem Even.set {Ls : List Ln} {wd : Nat} (h : Even Ls wd) (i : Nat) {x : Ln} (hx : x.1.length = wd) : Even (Ls.set i x) wd := by
  refine ⟨by rw [List.length_set]; exact h.1, by rw [List.length_set]; exact h.2.1, h.2.2.1, h.2.2.2.1, fun j hj => ?_⟩
  rw [List.length_set] at hj
  by_cases e : j = i
  · subst e; rw [getD_setI _ _ _ _ _ hj, if_pos rfl]; exact hx
  · rw [show (Ls.set i x).getD j zl = Ls.getD j zl from by simp [List.getD, List.getElem?_set_ne (Ne.symm e)]]; exact h.2.2.2.2 j hj
theorem src_len {Ls : List Ln} {wd f t q : Nat} {up : Bool} (h : Even Ls wd) (hf : f < t) (ht : t ≤ Ls.length) (i : Nat) (hi : i < Ls.length) : (srcM Ls f t q up i).1.length = wd := by
  have h5 := h.2.2.2.2
  have hz : (List.replicate (Ls.getD i zl).1.length zc).length = wd := by rw [List.length_replicate]; exact h5 i hi
  unfold srcM
  repeat' split
  all_goals first
    | exact h5 _ (by omega)
    | (simp only [List.length_replicate]; exact h5 _ (by omega))
theorem Even.mvd {Ls : List Ln} {wd : Nat} (h : Even Ls wd) (a b k : Int) (up : Bool) : Even (mvd Ls a b k up) wd := by
  refine ⟨by rw [mvd_len]; exact h.1, by rw [mvd_len]; exact h.2.1, h.2.2.1, h.2.2.2.1, fun j hj => ?_⟩
  rw [mvd_len] at hj
  unfold Go.Proofs.YtoeggiplcaegoaaGreatDoor.mvd
  split
  · exact h.2.2.2.2 j hj
  · rename_i hk
    have hh := heldF_le Ls.length b
    unfold moveL
    rw [show ((List.range Ls.length).map (entM Ls (heldF Ls.length a) (heldF Ls.length b) (heldK Ls.length a b k).toNat up)).getD j zl = entM Ls (heldF Ls.length a) (heldF Ls.length b) (heldK Ls.length a b k).toNat up j from by simp [List.getD, hj]]
    exact src_len h (by unfold heldK at hk; omega) hh j hj
/-- Down: the lines and the row. -/
def downL (Ls : List Ln) (r : Nat) : List Ln := if r + 1 < Ls.length then Ls else mvd Ls 0 Ls.length 1 true
def downR (Ls : List Ln) (r : Nat) : Nat := if r + 1 < Ls.length then r + 1 else r
def markL (Ls : List Ln) (r : Nat) : List Ln := Ls.set r ((Ls.getD r zl).1, true)
def goL (Ls : List Ln) (r : Nat) : List Ln := downL (markL Ls r) r
def pntL (Ls : List Ln) (r c : Nat) (p : List Cl) : List Ln := Ls.set r (paintL (Ls.getD r zl).1 p c, (Ls.getD r zl).2 && !lastHit (Ls.getD r zl).1 p c)
theorem mark_len (Ls : List Ln) (r : Nat) : (markL Ls r).length = Ls.length := by unfold markL; rw [List.length_set]
theorem pnt_len (Ls : List Ln) (r c : Nat) (p : List Cl) : (pntL Ls r c p).length = Ls.length := by unfold pntL; rw [List.length_set]
theorem down_len (Ls : List Ln) (r : Nat) : (downL Ls r).length = Ls.length := by unfold downL; split; rfl; rw [mvd_len]
theorem go_len (Ls : List Ln) (r : Nat) : (goL Ls r).length = Ls.length := by unfold goL; rw [down_len, mark_len]
theorem down_lt {Ls : List Ln} {r : Nat} (h : r < Ls.length) : downR Ls r < Ls.length := by unfold downR; split <;> omega
theorem Even.down {Ls : List Ln} {wd : Nat} (h : Even Ls wd) (r : Nat) : Even (downL Ls r) wd := by unfold downL; split; exact h; exact h.mvd _ _ _ _
theorem Even.mark {Ls : List Ln} {wd : Nat} (h : Even Ls wd) {r : Nat} (hr : r < Ls.length) : Even (markL Ls r) wd := h.set r (h.2.2.2.2 r hr)
theorem Even.go {Ls : List Ln} {wd : Nat} (h : Even Ls wd) {r : Nat} (hr : r < Ls.length) : Even (goL Ls r) wd := (h.mark hr).down r
theorem Even.pnt {Ls : List Ln} {wd : Nat} (h : Even Ls wd) {r : Nat} (hr : r < Ls.length) (c : Nat) (p : List Cl) : Even (pntL Ls r c p) wd := h.set r (by show (paintL _ _ _).length = wd; rw [paint_len]; exact h.2.2.2.2 r hr)
/-- Put, behind Hold: the width and the text that are put; then row by row. -/
def plcK (wd : Nat) (n : Int) : Int := if (wd : Int) < max 1 (min n 2) then 1 else max 1 (min n 2)
def plcX (wd : Nat) (n : Int) (xs : List Int) : List Int := if (wd : Int) < max 1 (min n 2) then [65533] else xs
def p1L (Ls : List Ln) (r : Nat) (pd : Bool) : List Ln := if pd then goL Ls r else Ls
def p1R (Ls : List Ln) (r : Nat) (pd : Bool) : Nat := if pd then downR Ls r else r
def p1C (c : Nat) (pd : Bool) : Nat := if pd then 0 else c
/-- Room for what is 2 wide. -/
def p2L (wd : Nat) (k : Int) (Ls : List Ln) (r c : Nat) (au : Bool) : List Ln := if k = 2 ∧ c + 1 = wd then (if au then goL (pntL Ls r c [zc]) r else Ls) else Ls
def p2R (wd : Nat) (k : Int) (Ls : List Ln) (r c : Nat) (au : Bool) : Nat := if k = 2 ∧ c + 1 = wd then (if au then downR Ls r else r) else r
def p2C (wd : Nat) (k : Int) (c : Nat) (au : Bool) : Nat := if k = 2 ∧ c + 1 = wd then (if au then 0 else c - 1) else c
theorem plcK_cases (wd : Nat) (n : Int) : plcK wd n = 1 ∨ plcK wd n = 2 ∧ 2 ≤ wd := by unfold plcK; split <;> omega
theorem p1_lt {Ls : List Ln} {r : Nat} (pd : Bool) (h : r < Ls.length) : p1R Ls r pd < (p1L Ls r pd).length ∧ (p1L Ls r pd).length = Ls.length := by
  unfold p1R p1L
  cases pd
  · exact ⟨h, rfl⟩
  · exact ⟨by rw [if_pos rfl, if_pos rfl, go_len]; exact down_lt h, by rw [if_pos rfl, go_len]⟩
theorem p2_lt {wd : Nat} {k : Int} {Ls : List Ln} {r c : Nat} (au : Bool) (h : r < Ls.length) : p2R wd k Ls r c au < (p2L wd k Ls r c au).length ∧ (p2L wd k Ls r c au).length = Ls.length := by
  unfold p2R p2L
  split
  · cases au
    · exact ⟨h, rfl⟩
    · exact ⟨by rw [if_pos rfl, if_pos rfl, go_len, pnt_len]; exact down_lt h, by rw [if_pos rfl, go_len, pnt_len]⟩
  · exact ⟨h, rfl⟩
theorem p1_even {Ls : List Ln} {wd r : Nat} (h : Even Ls wd) (pd : Bool) (hr : r < Ls.length) : Even (p1L Ls r pd) wd := by
  unfold p1L; cases pd; exact h; exact h.go hr
theorem p2_even {Ls : List Ln} {wd r c : Nat} {k : Int} (h : Even Ls wd) (au : Bool) (hr : r < Ls.length) : Even (p2L wd k Ls r c au) wd := by
  unfold p2L
  split
  · cases au
    · exact h
    · exact (h.pnt hr c [zc]).go (by rw [pnt_len]; exact hr)
  · exact h
theorem p2_room {wd : Nat} {k : Int} {c : Nat} (au : Bool) (hk : k = 1 ∨ k = 2 ∧ 2 ≤ wd) (hc : c < wd) : (p2C wd k c au : Int) + k ≤ wd ∧ p2C wd k c au < wd := by
  unfold p2C
  split
  · cases au
    · rw [if_neg (by decide)]; omega
    · rw [if_pos rfl]; omega
  · omega
/-- Put as a whole: lines, row and column of the cluster. -/
def plcL (Ls : List Ln) (wd r c : Nat) (pd au : Bool) (n : Int) (xs : List Int) : List Ln :=
  pntL (p2L wd (plcK wd n) (p1L Ls r pd) (p1R Ls r pd) (p1C c pd) au) (p2R wd (plcK wd n) (p1L Ls r pd) (p1R Ls r pd) (p1C c pd) au) (p2C wd (plcK wd n) (p1C c pd) au) (ofC (plcK wd n) (plcX wd n xs))
def plcR (Ls : List Ln) (wd r c : Nat) (pd au : Bool) (n : Int) : Nat := p2R wd (plcK wd n) (p1L Ls r pd) (p1R Ls r pd) (p1C c pd) au
def plcC (wd c : Nat) (pd au : Bool) (n : Int) : Nat := p2C wd (plcK wd n) (p1C c pd) au
theorem plc_even {Ls : List Ln} {wd r c : Nat} (h : Even Ls wd) (pd au : Bool) (n : Int) (xs : List Int) (hr : r < Ls.length) : Even (plcL Ls wd r c pd au n xs) wd := by
  have h1 := p1_lt pd hr
  have h2 := p2_lt (wd := wd) (k := plcK wd n) (c := p1C c pd) au h1.1
  exact (p2_even (p1_even h pd hr) au h1.1).pnt h2.1 _ _
theorem plc_lt {Ls : List Ln} {wd r c : Nat} (pd au : Bool) (n : Int) (xs : List Int) (hr : r < Ls.length) (hc : c < wd) : plcR Ls wd r c pd au n < Ls.length ∧ plcC wd c pd au n < wd ∧ (plcC wd c pd au n : Int) + plcK wd n ≤ wd ∧ (plcL Ls wd r c pd au n xs).length = Ls.length := by
  have h1 := p1_lt pd hr
  have h2 := p2_lt (wd := wd) (k := plcK wd n) (c := p1C c pd) au h1.1
  have h3 := p2_room (c := p1C c pd) au (plcK_cases wd n) (by unfold p1C; split <;> omega)
  refine ⟨by unfold plcR; omega, h3.2, h3.1, ?_⟩
  unfold plcL
  rw [pnt_len]
  omega
end Go.Proofs.YtoeggiplcaegoaaGreatDoor
/- What controls make of lines and cursors. Of no program's code. -/
namespace Go.Proofs.YtoeggiplcaegoaaGreatDoor
open Go.RowKit Go.ChangeShapes Go.WideShapes
def ctL (Ls : List Ln) (r2 : Nat) (k : Int) : List Ln := if k = 10 then downL Ls r2 else Ls
def ctR (Ls : List Ln) (r : Int) (r2 : Nat) (k : Int) : Int := if k = 13 ∨ k = 8 then r2 else if k = 10 then (downR Ls r2 : Nat) else r
def ctC (c : Int) (c2 : Nat) (k : Int) : Int := if k = 13 then 0 else if k = 10 then c2 else if k = 8 then ((c2 - 1 : Nat) : Int) else c
def ctP (pd : Bool) (k : Int) : Bool := if k = 13 ∨ k = 10 ∨ k = 8 then false else pd
theorem ct_13 (Ls : List Ln) (r c : Int) (r2 c2 : Nat) (pd : Bool) : ctL Ls r2 13 = Ls ∧ ctR Ls r r2 13 = r2 ∧ ctC c c2 13 = 0 ∧ ctP pd 13 = false := ⟨rfl, rfl, rfl, rfl⟩
theorem ct_10 (Ls : List Ln) (r c : Int) (r2 c2 : Nat) (pd : Bool) : ctL Ls r2 10 = downL Ls r2 ∧ ctR Ls r r2 10 = (downR Ls r2 : Nat) ∧ ctC c c2 10 = c2 ∧ ctP pd 10 = false := ⟨rfl, rfl, rfl, rfl⟩
theorem ct_8 (Ls : List Ln) (r c : Int) (r2 c2 : Nat) (pd : Bool) : ctL Ls r2 8 = Ls ∧ ctR Ls r r2 8 = r2 ∧ ctC c c2 8 = ((c2 - 1 : Nat) : Int) ∧ ctP pd 8 = false := ⟨rfl, rfl, rfl, rfl⟩
theorem ct_no (Ls : List Ln) (r c : Int) (r2 c2 : Nat) (pd : Bool) (k : Int) (h : k ≠ 13 ∧ k ≠ 10 ∧ k ≠ 8) : ctL Ls r2 k = Ls ∧ ctR Ls r r2 k = r ∧ ctC c c2 k = c ∧ ctP pd k = pd := by
  unfold ctL ctR ctC ctP
  simp [h.1, h.2.1, h.2.2]
theorem ct_len (Ls : List Ln) (r2 : Nat) (k : Int) : (ctL Ls r2 k).length = Ls.length := by unfold ctL; split; exact down_len _ _; rfl
end Go.Proofs.YtoeggiplcaegoaaGreatDoor
/- The reference's pen: Wide, Hold, With. -/
namespace Go.Proofs.YtoeggiplcaegoaaGreatDoor
open Go.RowKit Go.ChangeShapes Go.WideShapes
/-- A pen's box that was turned, beside the result's. -/
theorem pturn {w W : World} {g : Nat} {p a b d e : Value} {D : List Value} (h : Has W g [p, a, b, d, e] 43) (k : Has W (g + 1) D 43) (hb : Below w.heap.size w W) (hg : w.heap.size ≤ g) (x y z : Value) : ∃ W', W' = ((W.setCell ⟨g, 1, none⟩ x).setCell ⟨g, 2, none⟩ y).setCell ⟨g, 3, none⟩ z ∧ Has W' g [p, x, y, z, e] 43 ∧ Has W' (g + 1) D 43 ∧ Below w.heap.size w W' ∧ Upd (fun b => b = g) W W' :=
  ⟨_, rfl, ((h.set 1 x).set 2 y).set 3 z, ((k.setOther ⟨g, 1, none⟩ x (by show g + 1 ≠ g; omega)).setOther ⟨g, 2, none⟩ y (by show g + 1 ≠ g; omega)).setOther ⟨g, 3, none⟩ z (by show g + 1 ≠ g; omega),
    hb.trans ((((Upd.refl (fun b => w.heap.size ≤ b) W).setCell (p := ⟨g, 1, none⟩) (.inl hg) x).setCell (p := ⟨g, 2, none⟩) (.inl hg) y).setCell (p := ⟨g, 3, none⟩) (.inl hg) z |>.below hb.size fun _ e => e), (((Upd.refl (fun b => b = g) W).setCell (p := ⟨g, 1, none⟩) (.inl rfl) x).setCell (p := ⟨g, 2, none⟩) (.inl rfl) y).setCell (p := ⟨g, 3, none⟩) (.inl rfl) z⟩
/-- The result's box was written. -/
theorem pres {w W : World} {g : Nat} (hb : Below w.heap.size w W) (hg : w.heap.size ≤ g) (a b c d e : Value) : Below w.heap.size w (((((W.setCell ⟨g, 0, none⟩ a).setCell ⟨g, 1, none⟩ b).setCell ⟨g, 2, none⟩ c).setCell ⟨g, 3, none⟩ d).setCell ⟨g, 4, none⟩ e) :=
  hb.trans ((((((Upd.refl (fun b => w.heap.size ≤ b) W).setCell (p := ⟨g, 0, none⟩) (.inl hg) a).setCell (p := ⟨g, 1, none⟩) (.inl hg) b).setCell (p := ⟨g, 2, none⟩) (.inl hg) c).setCell (p := ⟨g, 3, none⟩) (.inl hg) d).setCell (p := ⟨g, 4, none⟩) (.inl hg) e |>.below hb.size fun _ e => e)
end Go.Proofs.YtoeggiplcaegoaaGreatDoor
/- The reference's pen: With. -/
namespace Go.Proofs.YtoeggiplcaegoaaGreatDoor
open Go.RowKit Go.ChangeShapes Go.WideShapes
end Go.Proofs.YtoeggiplcaegoaaGreatDoor
/- The reference's pen: Paint. -/
namespace Go.Proofs.YtoeggiplcaegoaaGreatDoor
open Go.RowKit Go.ChangeShapes Go.WideShapes
/-- The result's box, five cells. -/
theorem pres_upd {W : World} (g : Nat) (a b c d e : Value) : Upd (fun x => x = g) W (((((W.setCell ⟨g, 0, none⟩ a).setCell ⟨g, 1, none⟩ b).setCell ⟨g, 2, none⟩ c).setCell ⟨g, 3, none⟩ d).setCell ⟨g, 4, none⟩ e) :=
  (((((Upd.refl (fun x => x = g) W).setCell (p := ⟨g, 0, none⟩) (.inl rfl) a).setCell (p := ⟨g, 1, none⟩) (.inl rfl) b).setCell (p := ⟨g, 2, none⟩) (.inl rfl) c).setCell (p := ⟨g, 3, none⟩) (.inl rfl) d).setCell (p := ⟨g, 4, none⟩) (.inl rfl) e
theorem pres_has {W : World} {g : Nat} {x0 x1 x2 x3 x4 : Value} (h : Has W g [x0, x1, x2, x3, x4] 43) (a b c d e : Value) : Has (((((W.setCell ⟨g, 0, none⟩ a).setCell ⟨g, 1, none⟩ b).setCell ⟨g, 2, none⟩ c).setCell ⟨g, 3, none⟩ d).setCell ⟨g, 4, none⟩ e) g [a, b, c, d, e] 43 := ((((h.set 0 a).set 1 b).set 2 c).set 3 d).set 4 e
end Go.Proofs.YtoeggiplcaegoaaGreatDoor
/- A cluster that is put once more where it stands. Of no program's code. -/
namespace Go.Proofs.YtoeggiplcaegoaaGreatDoor
open Go.RowKit Go.ChangeShapes Go.WideShapes
theorem paint_twice (L p0 p : List Cl) (a0 a : Nat) (h0 : a ≤ a0) (h1 : a0 + p0.length ≤ a + p.length) : paintL (paintL L p0 a0) p a = paintL L p a ∧ (lastHit L p0 a0 || lastHit (paintL L p0 a0) p a) = lastHit L p a := by
  have hin : ∀ i, inP a0 p0.length i → inP a p.length i := fun i h => ⟨Nat.le_trans h0 h.1, Nat.lt_of_lt_of_le h.2 h1⟩
  have htorn : ∀ i, tornP L a0 p0.length i → tornP L a p.length i := fun i h => h.imp (fun h => ⟨h.1, hin _ h.2⟩) (fun h => ⟨h.1, h.2.1, hin _ h.2.2⟩)
  have hsame : ∀ i, i < L.length → ¬ inP a p.length i → ¬ tornP L a0 p0.length i → (paintL L p0 a0).getD i zc = L.getD i zc := fun i hi hn ht => by
    rw [paint_get L p0 a0 i hi]
    unfold paintAt
    rw [if_neg (fun e => hn (hin i e)), if_neg ht]
  have hblank : ∀ i, i < L.length → ¬ inP a p.length i → tornP L a0 p0.length i → (paintL L p0 a0).getD i zc = zc := fun i hi hn ht => by
    rw [paint_get L p0 a0 i hi]
    unfold paintAt
    rw [if_neg (fun e => hn (hin i e)), if_pos ht]
  have htn : ∀ i, i < L.length → ¬ inP a p.length i → tornP L a0 p0.length i → ¬ tornP (paintL L p0 a0) a p.length i := fun i hi hn ht e => by
    unfold tornP at e
    rw [hblank i hi hn ht] at e
    rcases e with ⟨e, _⟩ | ⟨e, _⟩ <;> cases e
  have hts : ∀ i, i < L.length → ¬ inP a p.length i → ¬ tornP L a0 p0.length i → (tornP (paintL L p0 a0) a p.length i ↔ tornP L a p.length i) := fun i hi hn ht => by
    unfold tornP
    rw [hsame i hi hn ht]
  constructor
  · apply List.ext_getElem
    · rw [paint_len, paint_len, paint_len]
    · intro i h2 h3
      have hi : i < L.length := by rw [paint_len] at h3; exact h3
      have e1 := paint_get (paintL L p0 a0) p a i (by rw [paint_len]; exact hi)
      have e2 := paint_get L p a i hi
      have f1 : (paintL (paintL L p0 a0) p a).getD i zc = (paintL (paintL L p0 a0) p a)[i] := by simp [List.getD, List.getElem?_eq_getElem h2]
      have f2 : (paintL L p a).getD i zc = (paintL L p a)[i] := by simp [List.getD, List.getElem?_eq_getElem h3]
      rw [← f1, ← f2, e1, e2]
      unfold paintAt
      by_cases hn : inP a p.length i
      · rw [if_pos hn, if_pos hn]
      · rw [if_neg hn, if_neg hn]
        by_cases ht : tornP L a0 p0.length i
        · rw [if_neg (htn i hi hn ht), if_pos (htorn i ht)]
          exact hblank i hi hn ht
        · by_cases ht2 : tornP L a p.length i
          · rw [if_pos ((hts i hi hn ht).2 ht2), if_pos ht2]
          · rw [if_neg (fun e => ht2 ((hts i hi hn ht).1 e)), if_neg ht2]
            exact hsame i hi hn ht
  · rcases Nat.eq_zero_or_pos L.length with hz | hz
    · obtain rfl : L = [] := List.length_eq_zero_iff.1 hz
      have hp0 : paintL [] p0 a0 = [] := rfl
      rw [hp0]
      by_cases e : lastHit [] p0 a0 = true
      · rw [e, Bool.true_or]
        unfold lastHit at e ⊢
        rw [Bool.or_eq_true, decide_eq_true_eq, decide_eq_true_eq] at e
        symm
        rw [Bool.or_eq_true, decide_eq_true_eq, decide_eq_true_eq]
        exact e.imp (hin _) (htorn _)
      · rw [Bool.eq_false_iff.2 e, Bool.false_or]
    · unfold lastHit
      rw [paint_len]
      have hi : L.length - 1 < L.length := by omega
      by_cases hn : inP a p.length (L.length - 1)
      · rw [decide_eq_true hn, Bool.true_or, Bool.true_or, Bool.or_true]
      · rw [decide_eq_false hn, decide_eq_false (fun e => hn (hin _ e)), Bool.false_or, Bool.false_or, Bool.false_or]
        by_cases ht : tornP L a0 p0.length (L.length - 1)
        · rw [decide_eq_true ht, decide_eq_true (htorn _ ht), Bool.true_or]
        · rw [decide_eq_false ht, Bool.false_or]
          exact decide_eq_decide.2 (hts _ hi hn ht)
theorem pnt_over (Ls : List Ln) (r a0 a : Nat) (p0 p : List Cl) (hr : r < Ls.length) (h0 : a ≤ a0) (h1 : a0 + p0.length ≤ a + p.length) : pntL (pntL Ls r a0 p0) r a p = pntL Ls r a p := by
  obtain ⟨e1, e2⟩ := paint_twice (Ls.getD r zl).1 p0 p a0 a h0 h1
  have hg : (pntL Ls r a0 p0).getD r zl = (paintL (Ls.getD r zl).1 p0 a0, (Ls.getD r zl).2 && !lastHit (Ls.getD r zl).1 p0 a0) := by
    unfold pntL
    rw [getD_setI _ _ _ _ _ hr, if_pos rfl]
  have hq : ∀ (K : List Ln) (x : Ln), K.getD r zl = x → pntL K r a p = K.set r (paintL x.1 p a, x.2 && !lastHit x.1 p a) := fun K x e => by subst e; rfl
  rw [hq _ _ hg, hq Ls _ rfl]
  show (pntL Ls r a0 p0).set r (paintL (paintL (Ls.getD r zl).1 p0 a0) p a, ((Ls.getD r zl).2 && !lastHit (Ls.getD r zl).1 p0 a0) && !lastHit (paintL (Ls.getD r zl).1 p0 a0) p a) = _
  rw [e1, Bool.and_assoc, ← Bool.not_or, e2]
  unfold pntL
  rw [List.set_set]
theorem ofK_len (wd : Nat) (n : Int) (xs : List Int) : ((ofC (plcK wd n) (plcX wd n xs)).length : Int) = plcK wd n := by
  rw [ofC_len]
  rcases plcK_cases wd n with h | h
  · rw [h]; rfl
  · rw [h.1]; rfl
theorem plcK_mono (wd : Nat) {n0 n1 : Int} (h : n0 ≤ n1) (h0 : 0 < wd) : plcK wd n0 ≤ plcK wd n1 := by
  unfold plcK
  split <;> split <;> omega
/-- A cluster that was put, and is put once more where it stands, no narrower: as if it had been put so at once. -/
theorem plc_again (Ls : List Ln) (wd r c : Nat) (pd au : Bool) (n0 n1 : Int) (t0 t1 : List Int) (hr : r < Ls.length) (hc : c < wd) (hn : n0 ≤ n1) :
    plcL (plcL Ls wd r c pd au n0 t0) wd (plcR Ls wd r c pd au n0) (plcC wd c pd au n0) false au n1 t1 = plcL Ls wd r c pd au n1 t1 ∧
    plcR (plcL Ls wd r c pd au n0 t0) wd (plcR Ls wd r c pd au n0) (plcC wd c pd au n0) false au n1 = plcR Ls wd r c pd au n1 ∧
    plcC wd (plcC wd c pd au n0) false au n1 = plcC wd c pd au n1 := by
  have hlt := plc_lt (Ls := Ls) pd au n0 t0 hr hc
  have h1 := p1_lt (Ls := Ls) pd hr
  have hc1 : p1C c pd < wd := by unfold p1C; split <;> omega
  have hm := plcK_mono wd hn (by omega)
  have hl0 := ofK_len wd n0 t0
  have hl1 := ofK_len wd n1 t1
  have h2 := p2_lt (wd := wd) (k := plcK wd n0) (c := p1C c pd) au h1.1
  revert hlt
  unfold plcL plcR plcC
  rw [show ∀ L R, p1L L R false = L from fun _ _ => rfl, show ∀ L R, p1R L R false = R from fun _ _ => rfl, show ∀ C, p1C C false = C from fun _ => rfl]
  generalize p1L Ls r pd = M at *
  generalize p1R Ls r pd = r1 at *
  generalize p1C c pd = c1 at *
  generalize ofC (plcK wd n0) (plcX wd n0 t0) = q0 at *
  generalize ofC (plcK wd n1) (plcX wd n1 t1) = q1 at *
  have k0 := plcK_cases wd n0
  have k1 := plcK_cases wd n1
  generalize plcK wd n0 = K0 at *
  generalize plcK wd n1 = K1 at *
  intro hlt
  by_cases hK : K0 = K1
  · subst hK
    have hx : ¬ (K0 = 2 ∧ p2C wd K0 c1 au + 1 = wd) := by omega
    have e1 : ∀ L : List Ln, p2L wd K0 L (p2R wd K0 M r1 c1 au) (p2C wd K0 c1 au) au = L := fun L => by
      conv => lhs; unfold p2L
      exact if_neg hx
    have e2 : ∀ L : List Ln, p2R wd K0 L (p2R wd K0 M r1 c1 au) (p2C wd K0 c1 au) au = p2R wd K0 M r1 c1 au := fun L => by
      conv => lhs; unfold p2R
      exact if_neg hx
    have e3 : p2C wd K0 (p2C wd K0 c1 au) au = p2C wd K0 c1 au := by
      conv => lhs; unfold p2C
      exact if_neg hx
    rw [e1, e2, e3]
    exact ⟨pnt_over _ _ _ _ _ _ h2.1 (Nat.le_refl _) (by omega), rfl, rfl⟩
  · obtain ⟨rfl, rfl⟩ : K0 = 1 ∧ K1 = 2 := by omega
    have n1 : ¬ ((1 : Int) = 2 ∧ c1 + 1 = wd) := fun h => absurd h.1 (by decide)
    have e1 : p2L wd 1 M r1 c1 au = M := by unfold p2L; exact if_neg n1
    have e2 : p2R wd 1 M r1 c1 au = r1 := by unfold p2R; exact if_neg n1
    have e3 : p2C wd 1 c1 au = c1 := by unfold p2C; exact if_neg n1
    rw [e1, e2, e3]
    by_cases hw : c1 + 1 = wd
    · have hx : (2 : Int) = 2 ∧ c1 + 1 = wd := ⟨rfl, hw⟩
      unfold p2L p2R p2C
      rw [if_pos hx, if_pos hx, if_pos hx, if_pos hx, if_pos hx]
      cases au
      · rw [if_neg (by decide), if_neg (by decide), if_neg (by decide)]
        exact ⟨pnt_over _ _ _ _ _ _ h1.1 (by omega) (by omega), rfl, rfl⟩
      · rw [if_pos rfl, if_pos rfl, if_pos rfl, if_pos rfl, if_pos rfl]
        have hz : pntL (pntL M r1 c1 q0) r1 c1 [zc] = pntL M r1 c1 [zc] := pnt_over _ _ _ _ _ _ h1.1 (Nat.le_refl _) (by show c1 + q0.length ≤ c1 + 1; omega)
        rw [hz]
        have hd : downR (pntL M r1 c1 q0) r1 = downR M r1 := by unfold downR; rw [pnt_len]
        rw [hd]
        exact ⟨rfl, rfl, rfl⟩
    · have hx : ¬ ((2 : Int) = 2 ∧ c1 + 1 = wd) := fun h => hw h.2
      unfold p2L p2R p2C
      rw [if_neg hx, if_neg hx, if_neg hx, if_neg hx, if_neg hx]
      exact ⟨pnt_over _ _ _ _ _ _ h1.1 (Nat.le_refl _) (by omega), rfl, rfl⟩
end Go.Proofs.YtoeggiplcaegoaaGreatDoor
