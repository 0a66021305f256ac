/- Rows: what one is in memory; New, Wide, Cell, Cells, Wrap, GoOn, Copy. -/
import Derived.Test.YtgndolgihplngaaDoorMg3
namespace Go.Proofs.YtgndolgihplngaaDoor
open Go.RowKit Go.ChangeShapes Go.WideShapes
/-- The row at block g, its cells at block gc; what its cells lead to lies in the zone. -/
def RowAt (Z : Zone) (w : World) (B g gc : Nat) (L : List Cl) (wrap : Bool) : Prop :=
  ∃ cap, Has w g [.slice (some ⟨gc, 0, none⟩) L.length cap, .bool wrap] 118 ∧ B ≤ g ∧ gc ≠ g ∧ OwnE cellE (fun b => Z b ∧ b ≠ g) w B 73 (.slice (some ⟨gc, 0, none⟩) L.length cap) L ∧ 0 < L.length ∧ L.length ≤ 1024 ∧ soundB L = true
section
variable {Z Y S : Zone} {w w' : World} {B g gc : Nat} {L : List Cl} {wrap : Bool}
theorem RowAt.lt (h : RowAt Z w B g gc L wrap) : g < w.heap.size ∧ gc < w.heap.size ∧ B ≤ gc ∧ B ≤ g := by
  obtain ⟨cap, h1, h2, h3, h4, h5, _⟩ := h
  exact ⟨h1.lt, (h4.lt gc rfl).2, (h4.lt gc rfl).1, h2⟩
theorem RowAt.keep (h : RowAt Z w B g gc L wrap) (hk : KeepZ (fun b => Z b ∨ b = g ∨ b = gc) w w') (hy : ∀ b, b < w.heap.size → Z b → Y b) : RowAt Y w' B g gc L wrap := by
  obtain ⟨cap, h1, h2, h3, h4, h5⟩ := h
  refine ⟨cap, hk.has h1 (.inr (.inl rfl)), h2, h3, h4.keep (hk.mono fun b _ hz => ?_) (fun b hb hz => ⟨hy b hb hz.1, hz.2⟩), h5⟩
  rcases hz with hz | hz
  · exact .inl hz.1
  · exact .inr (.inr (by simpa [Value.ownBlock] using hz.symm))
theorem RowAt.below (h : RowAt Z w B g gc L wrap) (hb : Below w.heap.size w w') : RowAt Z w' B g gc L wrap := h.keep (.all hb _) fun _ _ h => h
theorem RowAt.upd (h : RowAt Z w B g gc L wrap) (hu : Upd S w w') (hz : ∀ b, Z b → ¬ S b) (hg : ¬ S g) (hgc : ¬ S gc) : RowAt Z w' B g gc L wrap :=
  h.keep (hu.keep.mono fun b _ hb => by rcases hb with hb | rfl | rfl; exact hz b hb; exact hg; exact hgc) fun _ _ h => h
theorem RowAt.base (h : RowAt Z w B g gc L wrap) {B' : Nat} (hb : B' ≤ B) : RowAt Z w B' g gc L wrap := by
  obtain ⟨cap, h1, h2, h3, h4, h5⟩ := h
  exact ⟨cap, h1, by omega, h3, h4.base hb, h5⟩
theorem RowAt.len (h : RowAt Z w B g gc L wrap) : 0 < L.length ∧ L.length ≤ 1024 ∧ soundB L = true := by
  obtain ⟨cap, _, _, _, _, h5⟩ := h
  exact h5
theorem RowAt.held (h : RowAt Z w B g gc L wrap) : ∃ cap, Has w g [.slice (some ⟨gc, 0, none⟩) L.length cap, .bool wrap] 118 ∧ HeldE cellE (fun b => True) w (.slice (some ⟨gc, 0, none⟩) L.length cap) L := by
  obtain ⟨cap, h1, h2, h3, h4, h5⟩ := h
  exact ⟨cap, h1, (h4.zone (Y := fun _ => True) (fun _ _ _ => trivial)).held fun _ _ _ => trivial⟩
end
theorem sound_right {L : List Cl} (h : soundB L = true) : ∀ k, k < L.length → rightB (L.getD k zc) = true := by
  intro k hk
  rw [sound_iff] at h
  have := okTo_at hk h
  unfold okAt at this
  simp only [Bool.and_eq_true] at this
  exact this.1.1
theorem right_short {c : Cl} (h : rightB c = true) : c.2.length ≤ 16 := by
  obtain ⟨k, t⟩ := c
  unfold rightB at h
  split at h
  · simp at h; simp [h]
  · simp only [Bool.and_eq_true, decide_eq_true_eq] at h
    exact h.1.2
theorem sound_short {L : List Cl} (h : soundB L = true) : ∀ k, k < L.length → (L.getD k zc).2.length ≤ 1000000000 := fun k hk => by have := right_short (sound_right h k hk); omega
/-- What hands back a new row. -/
def RowMade (Z : Zone) (w : World) (L : List Cl) (wrap : Bool) (e : Ending) (w' : World) : Prop := ∃ g gc, e = .returned (.pointer (some ⟨g, 0, none⟩)) ∧ RowAt Z w' w.heap.size g gc L wrap ∧ Below w.heap.size w w'
/-- A row laid behind its cells. -/
theorem row_new {Z : Zone} {w : World} {B : Nat} {v : Value} {L : List Cl} {wrap : Bool} (h : OwnE cellE Z w B 73 v L) (hB : B ≤ w.heap.size) (h0 : 0 < L.length) (h1 : L.length ≤ 1024) (hs : soundB L = true) : ∃ gc, RowAt Z (w.alloc (.cells #[v, .bool wrap] 118)) B w.heap.size gc L wrap := by
  obtain ⟨gc, cap, rfl, hg1, hg2⟩ := h.some h0
  refine ⟨gc, cap, Has.new w _ _, hB, by omega, (h.keep (Y := fun b => Z b ∧ b ≠ w.heap.size) (.all ((Below.refl _ _).alloc (Nat.le_refl _) _) _) (fun b hb hz => ⟨hz, by omega⟩)), h0, h1, hs⟩
theorem blank_sound (m : Nat) : soundB (List.replicate m zc) = true := by
  unfold soundB
  induction m with
  | zero => rfl
  | succ m ih => rw [List.replicate_succ]; show (true && true && soundF false _) = true; rw [ih]; rfl
def rowN (n : Int) : Nat := (min (max n 1) 1024).toNat
theorem blankN_row (n : Int) : blankN (max n 1) = rowN n ∧ 0 < rowN n ∧ rowN n ≤ 1024 ∧ max 1 (min n 1024) = (rowN n : Int) := by unfold blankN rowN; omega
set_option maxRecDepth 100000 in
theorem rnew_any (Z : Zone) (n : Int) (w : World) : Calls Tryd.prog 69 #[.int .i64 n] w (RowMade Z w (List.replicate (rowN n) zc) false) := by
  have HB := Lib.hid (blanks_any Z (max n 1) w)
  obtain ⟨h1, h2, h3, _⟩ := blankN_row n
  rw [h1] at HB
  clear h1
  go_enter Tryd.func69, Tryd.ntmps69
  go_wp2_with fail
  refine HB.out.mono ?_
  rintro e w1 ⟨v1, rfl, ho1, b1⟩
  obtain ⟨gc0, cap0, rfl, _, _⟩ := ho1.some (by simp; omega)
  obtain ⟨gc, hr⟩ := row_new (wrap := false) ho1 b1.size (by simp; omega) (by simp; omega) (blank_sound _)
  rw [List.length_replicate] at hr ⊢
  have HR := Lib.hid hr
  have HB1 := Lib.hid b1
  clear ho1 b1 hr
  go_wp2
  go_ret
  exact ⟨_, gc, rfl, HR.out, HB1.out.alloc HB1.out.size _⟩
theorem rwide_any (Z : Zone) (B g gc : Nat) (L : List Cl) (wrap : Bool) (w : World) (h : RowAt Z w B g gc L wrap) : Calls Tryd.prog 40 #[.pointer (some ⟨g, 0, none⟩)] w fun e w' => e = .returned (.int .i64 L.length) ∧ w = w' := by
  obtain ⟨cap, h1, _⟩ := h.held
  have c0 := h1.cell 0 _ rfl
  clear h h1
  go_enter Tryd.func40, Tryd.ntmps40
  go_wp2
  go_ret
  exact ⟨rfl, rfl⟩
theorem rwrap_any (Z : Zone) (B g gc : Nat) (L : List Cl) (wrap : Bool) (w : World) (h : RowAt Z w B g gc L wrap) : Calls Tryd.prog 56 #[.pointer (some ⟨g, 0, none⟩)] w fun e w' => e = .returned (.bool wrap) ∧ w = w' := by
  obtain ⟨cap, h1, _⟩ := h.held
  have c1 := h1.cell 1 _ rfl
  clear h h1
  go_enter Tryd.func56, Tryd.ntmps56
  go_wp2
  go_ret
  exact ⟨rfl, rfl⟩
theorem rgoon_nil (b : Bool) (w : World) : Calls Tryd.prog 41 #[.pointer none, .bool b] w fun e w' => e = .returned (.tuple #[]) ∧ w = w' := by
  go_enter Tryd.func41, Tryd.ntmps41
  go_wp2
  exact bodyPost_end (by kernel_rfl) rfl ⟨rfl, rfl⟩
def RowTurned (Z : Zone) (w : World) (B g gc : Nat) (L : List Cl) (wrap : Bool) (e : Ending) (w' : World) : Prop := e = .returned (.tuple #[]) ∧ RowAt Z w' B g gc L wrap ∧ Upd (fun b => b = g ∨ b = gc) w w'
theorem rgoon_any (Z : Zone) (B g gc : Nat) (L : List Cl) (wrap b : Bool) (w : World) (h : RowAt Z w B g gc L wrap) : Calls Tryd.prog 41 #[.pointer (some ⟨g, 0, none⟩), .bool b] w (RowTurned Z w B g gc L b) := by
  obtain ⟨cap, h1, h2, h3, h4, h5⟩ := h
  have hu := (Upd.refl (fun b => b = g) w).setCell (p := ⟨g, 1, none⟩) (.inl rfl) (.bool b)
  have hp : RowTurned Z w B g gc L b (.returned (.tuple #[])) (w.setCell ⟨g, 1, none⟩ (.bool b)) := by
    refine ⟨rfl, ⟨cap, ?_, h2, h3, h4.upd hu (fun b hb => ?_), h5⟩, hu.mono fun b _ h => .inl h⟩
    · have := h1.set 1 (.bool b)
      simpa using this
    · rcases hb with hb | hb
      · exact hb.2
      · have : gc = b := by simpa [Value.ownBlock] using hb
        subst this; exact h3
  have HP := Lib.hid hp
  have c1 := h1.cell 1 _ rfl
  have f1 := h1.free 1
  clear h1 h2 h3 h4 h5 hu hp
  go_enter Tryd.func41, Tryd.ntmps41
  go_wp2
  exact bodyPost_end (by kernel_rfl) rfl HP.out
end Go.Proofs.YtgndolgihplngaaDoor
