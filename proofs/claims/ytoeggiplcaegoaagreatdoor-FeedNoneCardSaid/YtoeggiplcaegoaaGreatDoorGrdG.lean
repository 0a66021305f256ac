/- Grids: Set; a row put in, a row turned; Lines of nil. -/
import Derived.Test.YtoeggiplcaegoaaGreatDoorMg6
import Derived.Test.YtoeggiplcaegoaaGreatDoorMg1
namespace Go.Proofs.YtoeggiplcaegoaaGreatDoor
open Go.RowKit Go.ChangeShapes Go.WideShapes
variable {Yo : Zone}
theorem getD_setI {α : Type} (l : List α) (d x : α) (i j : Nat) (hi : i < l.length) : (l.set i x).getD j d = if j = i then x else l.getD j d := by
  by_cases e : j = i
  · subst e
    rw [if_pos rfl]
    simp [List.getD, List.getElem?_set_self hi]
  · rw [if_neg e]
    simp [List.getD, List.getElem?_set_ne (Ne.symm e)]
theorem RowsAt.put {Z Y : Zone} {w w' : World} {B i : Nat} {Rs : List Rw} (_ : RowsAt Z w B Rs) (hi : i < Rs.length) {g gc : Nat} {L : List Cl} {wrap : Bool} (hr : RowAt Y w' B g gc L wrap) (ho : ¬ Y g ∧ ¬ Y gc)
    (hk : ∀ j, j < Rs.length → j ≠ i → RowAt Y w' B (Rs.getD j r0).g (Rs.getD j r0).gc (Rs.getD j r0).L (Rs.getD j r0).wrap) (ho2 : ∀ j, j < Rs.length → j ≠ i → ¬ Y (Rs.getD j r0).g ∧ ¬ Y (Rs.getD j r0).gc) (ha : ∀ j, j < Rs.length → j ≠ i → g ≠ (Rs.getD j r0).g ∧ gc ≠ (Rs.getD j r0).gc)
    (hb : ∀ j k, j < Rs.length → k < Rs.length → j ≠ k → (Rs.getD j r0).g ≠ (Rs.getD k r0).g ∧ (Rs.getD j r0).gc ≠ (Rs.getD k r0).gc) : RowsAt Y w' B (Rs.set i ⟨g, gc, L, wrap⟩) := by
  refine ⟨fun j hj => ?_, fun j hj => ?_, fun j k hj hkk hjk => ?_⟩
  · rw [List.length_set] at hj
    rw [getD_setI _ _ _ _ _ hi]
    by_cases e : j = i
    · rw [if_pos e]; exact hr
    · rw [if_neg e]; exact hk j hj e
  · rw [List.length_set] at hj
    rw [getD_setI _ _ _ _ _ hi]
    by_cases e : j = i
    · rw [if_pos e]; exact ho
    · rw [if_neg e]; exact ho2 j hj e
  · rw [List.length_set] at hj hkk
    rw [getD_setI _ _ _ _ _ hi, getD_setI _ _ _ _ _ hi]
    by_cases e : j = i
    · have e2 : k ≠ i := fun e2 => hjk (e.trans e2.symm)
      rw [if_pos e, if_neg e2]
      exact ha k hkk e2
    · rw [if_neg e]
      by_cases e2 : k = i
      · rw [if_pos e2]
        exact ⟨Ne.symm (ha j hj e).1, Ne.symm (ha j hj e).2⟩
      · rw [if_neg e2]
        exact hb j k hj hkk hjk
theorem GridY.part {w : World} {B gg gr wd : Nat} {Rs : List Rw} (h : GridY Yo w B gg gr wd Rs) : ∃ cap, PartAt w B gg wd (.slice (some ⟨gr, 0, none⟩) Rs.length cap) (ptrs Rs) Rs := by
  obtain ⟨Z, cap, h1, h2, h3, h4, h5, h6, h7, h8, _⟩ := h
  exact ⟨cap, Z, h1, h2, h3, h4, h5, (fun b e => by
    have : gr = b := by simpa [Value.ownBlock] using e
    subst this
    exact h6), h7, h8⟩
/-- A row that was made behind the grid takes a place of it. -/
theorem GridY.put {w w' : World} {B gg gr wd i : Nat} {Rs : List Rw} (h : GridY Yo w B gg gr wd Rs) (hi : i < Rs.length) (hb : Below w.heap.size w w') {g gc : Nat} {L : List Cl} {wrap : Bool} (hr : RowAt (fun b => w.heap.size ≤ b) w' w.heap.size g gc L wrap) (hl : L.length = wd) : GridY Yo (w'.setCell ⟨gr, i, none⟩ (ptrV (some g))) B gg gr wd (Rs.set i ⟨g, gc, L, wrap⟩) ∧ (∃ u, w'.cell? ⟨gr, i, none⟩ = some u) ∧ w'.frozen? ⟨gr, i, none⟩ = false := by
  obtain ⟨cap', hp⟩ := h.part
  have hap := hp.apart (b := gr) rfl
  have hlt := h.lt
  obtain ⟨Z, cap, h1, h2, h3, h4, h5, h6, h7, h8, h9, h10⟩ := h
  have hrl := hr.lt
  have hu := (Upd.refl (fun b => b = gr) w').setCell (p := ⟨gr, i, none⟩) (.inl rfl) (ptrV (some g))
  have h4' := h4.below hb
  have hcc := ptr_cell h4' i (by rw [ptrs_len]; exact hi)
  refine ⟨?_, ⟨_, hcc.1⟩, hcc.2⟩
  have hpt := ptr_put h4' i (by rw [ptrs_len]; exact hi) (some g)
  have he : (ptrs Rs).set i (some g) = ptrs (Rs.set i ⟨g, gc, L, wrap⟩) := by unfold ptrs; rw [List.map_set]
  rw [he] at hpt
  have hh2 := hu.keep.has (h2.below hb h2.lt) (fun e => hap.1 e)
  refine ⟨fun b => Z b ∨ (w.heap.size ≤ b ∧ b < w'.heap.size ∧ b ≠ g ∧ b ≠ gc), cap, fun b hz => ?_, by rw [List.length_set]; exact hh2, h3, by rw [List.length_set]; exact hpt, ?_, ?_, ?_, fun j hj => ?_, by rw [List.length_set]; exact h9, by rw [List.length_set]; exact h10.1, fun x hx => h10.2 x (by
    have := hb.size
    have := hu.size
    rcases hx with (hz | hz) | hz
    · exact .inl hz
    · exact .inr hz.1
    · exact .inr (by omega))⟩
  · have := hu.size
    rcases hz with hz | hz
    · have := h1 b hz; have := hb.size; omega
    · omega
  · rintro (hz | hz)
    · exact h5 hz
    · omega
  · rintro (hz | hz)
    · exact h6 hz
    · omega
  · refine h7.put hi ((hr.tight.base (B' := B) (by omega)).keep (hu.keep.mono fun b _ hz => ?_) fun b _ hz => .inr hz) ?_ (fun j hj hne => ?_) (fun j hj hne => ?_) (fun j hj hne => ?_) h7.apart
    · rcases hz with hz | hz | hz <;> omega
    · exact ⟨fun hz => by rcases hz with hz | hz; have := h1 _ hz; omega; exact hz.2.2.1 rfl, fun hz => by rcases hz with hz | hz; have := h1 _ hz; omega; exact hz.2.2.2 rfl⟩
    · exact ((h7.row j hj).below hb).keep (hu.keep.mono fun b _ hz => by
        rcases hz with hz | rfl | rfl
        · exact fun e => h6 (e ▸ hz)
        · exact (hap.2 j hj).1
        · exact (hap.2 j hj).2) fun b _ hz => .inl hz
    · have := h7.lt j hj
      exact ⟨fun hz => by rcases hz with hz | hz; exact (h7.out j hj).1 hz; omega, fun hz => by rcases hz with hz | hz; exact (h7.out j hj).2 hz; omega⟩
    · have := h7.lt j hj
      exact ⟨by omega, by omega⟩
  · rw [List.length_set] at hj
    rw [getD_setI _ _ _ _ _ hi]
    by_cases e : j = i
    · rw [if_pos e]; exact hl
    · rw [if_neg e]; exact h8 j hj
/-- Whether a row of the grid goes on. -/
theorem ggoon_any (B gg gr wd i : Nat) (Rs : List Rw) (b : Bool) (w : World) (h : GridY Yo w B gg gr wd Rs) (hi : i < Rs.length) : Calls Tryz.prog 71 #[.pointer (some ⟨(Rs.getD i r0).g, 0, none⟩), .bool b] w fun e w' => e = .returned (.tuple #[]) ∧ GridY Yo w' B gg gr wd (Rs.set i ⟨(Rs.getD i r0).g, (Rs.getD i r0).gc, (Rs.getD i r0).L, b⟩) ∧ Upd (fun x => x = (Rs.getD i r0).g ∨ x = (Rs.getD i r0).gc) w w' := by
  obtain ⟨cap', hp⟩ := h.part
  have hap := hp.apart (b := gr) rfl
  have hgp := hp.gapart
  obtain ⟨Z, cap, h1, h2, h3, h4, h5, h6, h7, h8, h9, h10⟩ := h
  refine (rgoon_any Z B _ _ _ _ b w (h7.row i hi)).mono ?_
  rintro e w' ⟨rfl, hr, hu⟩
  refine ⟨rfl, ⟨Z, cap, fun b hz => ⟨(h1 b hz).1, Nat.lt_of_lt_of_le (h1 b hz).2 hu.size⟩, ?_, h3, ?_, h5, h6, ?_, fun j hj => ?_, by rw [List.length_set]; exact h9, by rw [List.length_set]; exact h10.1, fun x hx => h10.2 x (hx.imp id (Nat.le_trans hu.size))⟩, hu⟩
  · rw [List.length_set]
    exact hu.keep.has h2 (fun e => by rcases e with e | e; exact (hgp i hi).1 e.symm; exact (hgp i hi).2 e.symm)
  · have he : ptrs (Rs.set i ⟨(Rs.getD i r0).g, (Rs.getD i r0).gc, (Rs.getD i r0).L, b⟩) = ptrs Rs := by
      unfold ptrs
      rw [List.map_set]
      apply List.ext_getElem?
      intro j
      by_cases e : j = i
      · subst e
        rw [List.getElem?_set_self (by rw [List.length_map]; exact hi)]
        simp [List.getD, List.getElem?_eq_getElem hi]
      · rw [List.getElem?_set_ne (Ne.symm e)]
    rw [he, List.length_set]
    exact own_ptrs (hu.keep.own h4.ptrs fun b hb e => by
      have : gr = b := by simpa [Value.ownBlock] using hb
      subst this
      rcases e with e | e
      · exact (hap.2 i hi).1 e.symm
      · exact (hap.2 i hi).2 e.symm)
  · refine h7.put hi hr (h7.out i hi) (fun j hj hne => (h7.row j hj).upd hu (fun b hz e => by rcases e with e | e; exact (h7.out i hi).1 (e ▸ hz); exact (h7.out i hi).2 (e ▸ hz)) (fun e => by rcases e with e | e; exact (h7.apart j i hj hi hne).1 e; exact h7.cross j i hj hi e) (fun e => by rcases e with e | e; exact h7.cross i j hi hj e.symm; exact (h7.apart j i hj hi hne).2 e)) (fun j hj _ => h7.out j hj) (fun j hj hne => h7.apart i j hi hj (Ne.symm hne)) h7.apart
  · rw [List.length_set] at hj
    rw [getD_setI _ _ _ _ _ hi]
    by_cases e : j = i
    · rw [if_pos e]; exact h8 i hi
    · rw [if_neg e]; exact h8 j hj
theorem ghigh_raw (gg : Nat) (v : Option Addr) (n cap : Nat) (w : World) (c1 : w.cell? ⟨gg, 1, none⟩ = some (.slice v n cap)) : Calls Tryz.prog 95 #[.pointer (some ⟨gg, 0, none⟩)] w fun e w' => e = .returned (.int .i64 n) ∧ w = w' := by
  go_enter Tryz.func95, Tryz.ntmps95
  go_wp2
  go_ret
  exact ⟨(ret_eq (by first | rfl | (simp <;> omega))), rfl⟩
set_option maxRecDepth 100000 in
set_option maxHeartbeats 1600000 in
theorem gset_fit (gg gr wd n cap i : Nat) (Zr : Zone) (Br g gc : Nat) (L : List Cl) (wrap : Bool) (w : World) (c0 : w.cell? ⟨gg, 0, none⟩ = some (.int .i64 wd)) (c1 : w.cell? ⟨gg, 1, none⟩ = some (.slice (some ⟨gr, 0, none⟩) n cap)) (hcap : n ≤ cap) (u : Value) (cr : w.cell? ⟨gr, i, none⟩ = some u) (fr : w.frozen? ⟨gr, i, none⟩ = false) (hi : i < n) (hn : n ≤ 1024) (hr : RowAt Zr w Br g gc L wrap) (hl : L.length = wd) :
    Calls Tryz.prog 174 #[.pointer (some ⟨gg, 0, none⟩), .int .i64 i, .pointer (some ⟨g, 0, none⟩)] w fun e w' => e = .returned (.bool true) ∧ ∃ w1, Below w.heap.size w w1 ∧ w' = w1.setCell ⟨gr, i, none⟩ (ptrV (some g)) := by
  have HH := Lib.hid (fun u : Growth w => ghigh_raw gg _ n cap (ext w u) (ext_cell c1 u))
  have HW := Lib.hid (fun u : Growth w => rwide_any _ _ g gc L wrap (ext w u) (hr.below u.ok))
  rw [hl] at HW
  have hgr := World.block_lt_of_cell? w ⟨gr, i, none⟩ cr
  have d0 := ext_cell c0
  have d1 := ext_cell c1
  have d2 := ext_cell cr
  have d3 := ext_free hgr fr
  have hd0 : decide ((i : Int) < 0) = false := by rw [decide_eq_false_iff_not]; omega
  have hd1 : decide ((n : Int) ≤ i) = false := by rw [decide_eq_false_iff_not]; omega
  have hd2 : decide (n ≤ i) = false := by rw [decide_eq_false_iff_not]; omega
  have hne : ((wd : Int) != (wd : Int)) = false := by simp
  clear hr hl c0 c1 cr fr hgr
  go_enter Tryz.func174, Tryz.ntmps174
  go_wp2
  refine wp_region_ext (by kernel_rfl) (by kernel_rfl) ?_
  repeat (go_big_quiet_step (((first | (go_at_call 95; exact callx_same (HH.out _)) | (go_at_call 70; exact callx_same (HW.out _))))))
  refine wpQuiet_nil ?_
  intro _ hw'
  obtain ⟨u, hw''⟩ := hw'
  subst hw''
  have hb := u.ok
  have e1 := d1 u
  have e2 := d2 u
  have e3 := d3 u
  obtain ⟨w1, hw1⟩ : ∃ w1, w1 = ext w u := ⟨_, rfl⟩
  have HB := Lib.hid (show Below w.heap.size w w1 by rw [hw1]; exact u.ok)
  rw [← hw1] at e1 e2 e3 ⊢
  clear hw1 hb d0 d1 d2 d3 hd1 hd2 hne
  go_wp2
  go_ret
  exact ⟨(ret_eq (by first | rfl | (simp <;> omega))), w1, HB.out, rfl⟩
end Go.Proofs.YtoeggiplcaegoaaGreatDoor
