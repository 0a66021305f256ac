/- clone.Cells. -/
import Derived.Test.YtomfclkldmmmgaaDoorCloneC
namespace Go.Proofs.YtomfclkldmmmgaaDoor
open Go.RowKit Go.ChangeShapes Go.WideShapes
theorem OwnE.some {α : Type} {E : Elem α} {Z : Zone} {w : World} {B : Nat} {ty : TypeId} {v : Value} {L : List α} (h : OwnE E Z w B ty v L) (hl : 0 < L.length) : ∃ g cap, v = .slice (some ⟨g, 0, none⟩) L.length cap ∧ B ≤ g ∧ g < w.heap.size := by
  obtain ⟨CS, h1, _⟩ := h
  rcases h1.2 with ⟨rfl, h0⟩ | ⟨g, cap, cur, rfl, hB, hg, _⟩
  · omega
  · exact ⟨g, cap, rfl, hB, (Array.getElem?_eq_some_iff.1 hg).1⟩
theorem OwnE.zone {α : Type} {E : Elem α} {Z Y : Zone} {w : World} {B : Nat} {ty : TypeId} {v : Value} {L : List α} (h : OwnE E Z w B ty v L) (hy : ∀ b, b < w.heap.size → Z b → Y b) : OwnE E Y w B ty v L := h.keep (.refl _ _) hy
set_option maxRecDepth 100000 in
theorem scclone_any (v : Value) (L : List Cl) (w : World) (hv : HeldE cellE (fun b => b < w.heap.size) w v L) (hl : L.length ≤ 1000000) : Calls Tryd.prog 101 #[v] w (MadeE cellE (fun b => b < w.heap.size) 27 w L) := by
  obtain ⟨ao, cap, rfl⟩ := hv.len
  cases ao with
  | none =>
    obtain ⟨rfl, _, rfl⟩ := hv.nilL
    clear hv
    have q := fun w => run_eql_slice_nil (P := Tryd.prog) w 22 27 none 0 0 Tryd.underlying22
    go_enter Tryd.func101, Tryd.ntmps101
    go_wp2
    go_ret
    exact ⟨_, rfl, OwnE.nil _ _ _ _ _, Below.refl _ _⟩
  | some a =>
    have hb := (Below.refl w.heap.size w).alloc (Nat.le_refl _) (.cells #[] 27)
    have HE := Lib.hid (OwnE.fresh0 (E := cellE) (Z := fun b => b < w.heap.size) w 27 (Nat.le_refl w.heap.size))
    have hlo := HE.out.lt
    have HU := Lib.hid (show HeldE cellE (fun b => b < w.heap.size ∧ _ ≠ some b) _ _ L from (hv.below hb).zone (fun b _ hz => ⟨hz, fun e => by have := (hlo b e).1; omega⟩))
    have HB := Lib.hid hb
    clear hv hb hlo
    have q := fun w => run_eql_slice_nil (P := Tryd.prog) w 22 27 (some a) L.length cap Tryd.underlying22
    go_enter Tryd.func101, Tryd.ntmps101
    go_wp2_with (at_builtin; refine wpList_append_e (E := cellE) (Z := fun b => b < w.heap.size) rfl (.tmp 5) (.tmp 6) 22 rfl (.agg #[.int .i64 0, .slice none 0 0]) 32 Tryd.underlying22 info_cell rfl (by decide) rfl rfl HE.out HU.out (by simp; omega) (by simp; omega) HB.out.size ?_)
    intro v2 w2 ho2 hb2 _ _
    have H2 := Lib.hid ho2
    have B2 := Lib.hid (HB.out.trans hb2)
    clear ho2 hb2
    go_wp2
    go_ret
    exact ⟨_, rfl, by simpa using H2.out, B2.out⟩
theorem set_same {α : Type} (l : List α) (d : α) (k : Nat) (h : k < l.length) : l.set k (l.getD k d) = l := by
  apply List.ext_getElem?
  intro i
  by_cases e : i = k
  · subst e
    rw [List.getElem?_set_self h]
    simp [List.getD, List.getElem?_eq_getElem h]
  · rw [List.getElem?_set_ne (Ne.symm e)]
set_option maxRecDepth 100000 in
set_option maxHeartbeats 1600000 in
theorem clonecs_any (Z : Zone) (v : Value) (L : List Cl) (w : World) (hv : HeldE cellE Z w v L) (hl : L.length ≤ 1000000) (ht : ∀ k, k < L.length → (L.getD k zc).2.length ≤ 1000000000) :
    Calls Tryd.prog 75 #[v] w (MadeE cellE (fun b => w.heap.size ≤ b) 27 w L) := by
  have HC := Lib.hid (scclone_any v L w hv.lower hl)
  have HT := Lib.hid ht
  obtain ⟨ao, cap, rfl⟩ := hv.len
  clear hv ht
  by_cases h0 : L.length = 0
  · obtain rfl : L = [] := List.eq_nil_of_length_eq_zero h0
    clear h0 hl
    go_enter Tryd.func75, Tryd.ntmps75
    go_wp2_with fail
    refine HC.out.mono ?_
    rintro e w1 ⟨v1, rfl, ho1, b1⟩
    obtain ⟨a1, c1, rfl⟩ := ((ho1.zone (Y := fun _ => True) (fun _ _ _ => trivial)).held (fun _ _ _ => trivial)).len
    have HO := Lib.hid (OwnI.all (Z := fun b => w.heap.size ≤ b) ho1.each (fun i b hi => absurd hi (Nat.not_lt_zero _)))
    have HB := Lib.hid b1
    clear ho1 b1
    simp only [List.length_nil]
    go_wp2
    go_loopw [9] (fun i wr => i = .int .i64 0 ∧ wr = w1) (fun i _ => 0)
    case atStart => exact ⟨rfl, (by first | rfl | trivial)⟩
    case round =>
      obtain ⟨rfl, hww⟩ := hrel
      subst hww
      go_wp2
      go_ret
      exact ⟨_, rfl, HO.out, HB.out⟩
  · have hpos : 0 < L.length := by omega
    clear h0
    go_enter Tryd.func75, Tryd.ntmps75
    go_wp2_with fail
    refine HC.out.mono ?_
    rintro e w1 ⟨v1, rfl, ho1, b1⟩
    obtain ⟨g, c1, rfl, hg1, hg2⟩ := ho1.some hpos
    have HO1 := Lib.hid ho1
    have HB1 := Lib.hid b1
    clear ho1 b1 HC
    go_wp2
    go_loopw [9] (fun i wr => ∃ k : Nat, k ≤ L.length ∧ i = .int .i64 k ∧ OwnI cellE (fun j => if j < k then (fun b => w.heap.size ≤ b) else (fun b => b < w.heap.size)) wr w.heap.size 27 (.slice (some ⟨g, 0, none⟩) L.length c1) L ∧ Below w.heap.size w wr) (fun i _ => L.length - (intOf i).toNat)
    case atStart => exact ⟨0, Nat.zero_le _, rfl, HO1.out.each.keep (.refl _ _) (fun i b _ _ h => h), HB1.out⟩
    case round =>
      obtain ⟨k, hk, rfl, hown, hbw⟩ := hrel
      have HBW := Lib.hid hbw
      clear hbw
      by_cases hlt : k < L.length
      · have htl := HT.out k hlt
        have hs := set_same L zc k hlt
        obtain ⟨C, hC, hr⟩ := hown.at hlt
        obtain ⟨tv, rfl, hh⟩ := cell_rep.1 hr
        have hh : HeldE (intE .i32) _ wr tv (L.getD k zc).2 := hh
        have q0 : wr.cell? ⟨g, k * 2, none⟩ = some (.int .i64 (L.getD k zc).1) := (hC 0 (by decide)).1
        have q1 : wr.cell? ⟨g, k * 2 + 1, none⟩ = some tv := (hC 1 (by decide)).1
        have hglt : g < wr.heap.size := (hown.lt g rfl).2
        obtain ⟨⟨K, T⟩, hKT⟩ : ∃ y, y = L.getD k zc := ⟨_, rfl⟩
        rw [← hKT] at q0 hh hs htl
        simp only at q0 hh htl
        have HH := Lib.hid hh.ints
        have HS := Lib.hid hs
        have HOW := Lib.hid hown
        clear hown hC hr hKT hh hs
        obtain ⟨to, tc, rfl, _⟩ := HH.out.view
        have hb1 := (Below.refl wr.heap.size wr).alloc (Nat.le_refl _) (.cells #[.int .i64 K, .slice to T.length tc] 27)
        have HCL := Lib.hid (clonec_any K _ T _ (HH.out.below hb1) htl)
        have HBX := Lib.hid hb1
        clear hb1
        go_wp2_with fail
        refine HCL.out.mono ?_
        rintro e w3 ⟨v3, rfl, hh3, b3⟩
        have hb4 : Below wr.heap.size wr w3 := HBX.out.trans (b3.mono HBX.out.size)
        have HO3 := Lib.hid (HOW.out.below hb4)
        have HB3 := Lib.hid (HBW.out.trans (hb4.mono HBW.out.size))
        have HH3 := Lib.hid (show cellE.rep (fun b => w.heap.size ≤ b ∧ b ≠ g) w3 [.int .i64 K, v3] (K, T) from cell_rep.2 ⟨_, rfl, hh3.zone (fun b _ h => by have := HBW.out.size; simp only [World.size_alloc] at h; exact ⟨by omega, by omega⟩)⟩)
        obtain ⟨a3, c3, rfl⟩ := hh3.len
        clear hh3 b3 hb4 q0 q1
        go_wp2_with (refine wpList_put_e (E := cellE) (Y := fun b => w.heap.size ≤ b) (i := k) rfl 27 (.tmp 18) (.tmp 17) rfl rfl rfl [.int .i64 K, .slice a3 T.length c3] rfl (by kernel_rfl) HO3.out hlt (K, T) HH3.out ?_)
        intro w4 ho4 hu4
        rw [HS.out] at ho4
        have HO4 := Lib.hid (ho4.keep (Yi := fun j => if j < k + 1 then (fun b => w.heap.size ≤ b) else (fun b => b < w.heap.size)) (.refl _ _) (fun i b _ _ h => by
          by_cases e : i = k
          · subst e; simp at h; simpa using h
          · simp only [if_neg e] at h
            by_cases e2 : i < k
            · simp only [if_pos e2] at h; simp only [if_pos (show i < k + 1 by omega)]; exact h
            · simp only [if_neg e2] at h; simp only [if_neg (show ¬ i < k + 1 by omega)]; exact h))
        have HB4 := Lib.hid (HB3.out.upd hu4 HB3.out.size (fun x e => by omega))
        clear ho4 hu4
        go_wp2
        go_roundw
        case rel => exact ⟨k + 1, by omega, by go_num, HO4.out, HB4.out⟩
        case measure => simp [intOf] <;> omega
      · obtain rfl : k = L.length := by omega
        have HO := Lib.hid (OwnI.all (Z := fun b => w.heap.size ≤ b) hown (fun i b hi _ h => by simpa [hi] using h))
        clear hown
        go_wp2
        go_ret
        exact ⟨_, rfl, HO.out, HBW.out⟩
end Go.Proofs.YtomfclkldmmmgaaDoor
