/- Texts put together: FlnC, FlnW. -/
import Derived.Test.YtgkcobmbdpgceaaFlnB
import Derived.Test.YtgkcobmbdpgceaaMg1
/- fitline: Lines, Count (22). -/
namespace Go.Proofs.Ytgkcobmbdpgceaa
open Go.RowKit Go.ChangeShapes Go.WideShapes
attribute [local go_sem] Oper.semAt_some
theorem own_rebase {α : Type} {E : Elem α} {Z : Zone} {w : World} {B0 B : Nat} {ty : TypeId} {v : Value} {L : List α} (h : OwnE E Z w B0 ty v L) (hb : ∀ k, v.ownBlock = some k → B ≤ k) : OwnE E Z w B ty v L := by
  obtain ⟨CS, ⟨h1, h2⟩, h3, h4⟩ := h
  refine ⟨CS, ⟨h1, ?_⟩, h3, h4⟩
  rcases h2 with h2 | ⟨g, cap, cur, rfl, hB, rest⟩
  · exact .inl h2
  · exact .inr ⟨g, cap, cur, rfl, hb g rfl, rest⟩
theorem ot_one {Z : Zone} {w : World} {g : Nat} (h : Has w g [.slice none 0 0] 22) : OwnE otE Z w 0 22 (.slice (some ⟨g, 0, none⟩) 1 1) [([], none)] := by
  refine ⟨[[.slice none 0 0]], ⟨rfl, .inr ⟨g, 1, _, rfl, Nat.zero_le _, h, Nat.le_refl _, by decide, rfl, rfl⟩⟩, rfl, fun i hi => ?_⟩
  have hi0 : i = 0 := by simpa using hi
  subst hi0
  exact ot_rep.2 ⟨_, rfl, OwnE.nil _ _ _ _ _, rfl, fun b e => by cases e⟩
theorem ln_new {Zn : Zone} {w : World} {g bx : Nat} (h1 : Has w g [.slice none 0 0] 22) (h2 : Has w bx [.slice (some ⟨g, 0, none⟩) 1 1] 36) (hz : Zn g) : LnAt Zn bx [] [] w :=
  ⟨g, 1, 1, [], none, h2, ot_one h1, hz, (by simp), rfl, rfl⟩
theorem rst_len (s : List (List Int) × List Int) (x : List Int × Bool) : (rst s x).2.length ≤ s.2.length + x.1.length := by
  unfold rst
  split
  · exact Nat.le_add_left _ _
  · simp
def LnJ (g bx : Nat) (hi : Nat) (t : List (List Int × Bool)) (W : World) : Prop := LnAt (fun b => b = g ∨ hi ≤ b) bx (rowsT t).1 (rowsT t).2 W ∧ (rowsT t).2.length ≤ 1000000 * t.length ∧ t.length ≤ 1000000
set_option maxRecDepth 100000 in
set_option maxHeartbeats 3000000 in
theorem flines_any (v : Value) (xs : List Int) (Wr : Int) (w : World) (hx : Held .i32 w v xs) (hn : xs.length ≤ 1000000) : Calls Try.prog 22 #[v, .int .i64 Wr] w (MadeRow w (linesC Wr xs)) := by
  obtain ⟨W2, hW2⟩ : ∃ W2, W2 = (w.alloc (.cells #[.slice none 0 0] 22)).alloc (.cells #[.slice (some ⟨w.heap.size, 0, none⟩) 1 1] 36) := ⟨_, rfl⟩
  have b2 : Below w.heap.size w W2 := by rw [hW2]; exact ((Below.refl _ _).alloc (Nat.le_refl _) _).alloc (by simp) _
  have hs2 : W2.heap.size = w.heap.size + 2 := by rw [hW2]; simp
  have hh0 : Has W2 w.heap.size [.slice none 0 0] 22 := by rw [hW2]; exact (Has.new w [.slice none 0 0] _).alloc _
  have hh1 : Has W2 (w.heap.size + 1) [.slice (some ⟨w.heap.size, 0, none⟩) 1 1] 36 := by
    have h := Has.new (w.alloc (.cells #[.slice none 0 0] 22)) [.slice (some ⟨w.heap.size, 0, none⟩) 1 1] 36
    rw [World.size_alloc] at h
    rw [hW2]; exact h
  have HWK := Lib.hid (fwalk_any v xs Wr 57 #[.pointer (some ⟨w.heap.size + 1, 0, none⟩)] W2 (fun b => b = w.heap.size ∨ b = w.heap.size + 1) (LnJ w.heap.size (w.heap.size + 1)) (hx.below b2) hn (enters_of Try.func57 (by kernel_rfl) rfl)
    (fun b e => by omega)
    (fun hi t A B h hu => ⟨h.1.upd hu (fun b hb e => by omega), h.2⟩)
    (fun hi W1 hb h1 h2 => ⟨ln_new (hh0.below hb hh0.lt) (hh1.below hb hh1.lt) (.inl rfl), Nat.zero_le _, Nat.zero_le _⟩)
    (fun hi t W xv T next h1 h2 hj hT hl ht => by
      have hrb := rowsT_bd t
      have h3 : 1000000 * t.length ≤ 1000000000000 := by omega
      refine (lin1_any _ (w.heap.size + 1) _ _ xv T next W hj.1 (fun e => by omega) (fun b hb => .inr (by omega)) (hT.zoned fun b _ hz => ⟨fun e => by omega, by omega⟩) (by have := hj.2.1; omega) (by omega)).mono ?_
      rintro e W' ⟨rfl, h4, h5⟩
      have hsn := rowsT_snoc t (T, next)
      have hrl := rst_len (rowsT t) (T, next)
      refine ⟨rfl, ⟨?_, ?_, by rw [List.length_append, List.length_singleton]; omega⟩, h5.mono fun b _ e => by omega⟩
      · rw [hsn]; exact h4
      · rw [hsn, List.length_append, List.length_singleton]
        simp only at hrl
        have := hj.2.1
        omega))
  obtain ⟨ao, ca, rfl⟩ := hx.len
  have HB2 := Lib.hid b2
  have HW2 := Lib.hid hW2
  have HS2 := Lib.hid hs2
  clear hx b2 hW2 hs2 hh0 hh1
  go_enter Try.func22, Try.ntmps22
  go_wp2_with fail
  rw [← HW2.out]
  refine HWK.out.mono ?_
  rintro e w3 ⟨rfl, ⟨hi, hhi, hj, _⟩, hu⟩
  obtain ⟨g, cap, m, Q, ob, h1, h2, h3, h4, h5, h6⟩ := hj
  have hr := ot_rows h2
  rw [show (Q ++ [((rowsT (tolds (clampW Wr) (cluA xs)).1).2, ob)]).map Prod.fst = linesC Wr xs from by unfold linesC linesOf; rw [List.map_append, h5]; rfl] at hr
  have hgl : w.heap.size ≤ g := by have := HS2.out; omega
  have hr := own_rebase (B := w.heap.size) hr (fun k e => by simp only [Value.ownBlock, Option.some.injEq] at e; omega)
  have hr := hr.keep (Y := fun b => w.heap.size ≤ b) (.refl _ _) (fun b _ hz => by have := HS2.out; omega)
  have c1 := h1.cell 0 _ rfl
  have HR := Lib.hid hr
  have HB := Lib.hid (HB2.out.upd hu HB2.out.size (fun b e => by omega))
  clear h1 h2 h3 h4 h5 h6 hr hu HWK
  go_wp2
  go_ret
  exact ⟨_, (ret_eq (by first | rfl | (simp <;> omega))), HR.out, HB.out⟩
set_option maxRecDepth 100000 in
set_option maxHeartbeats 3000000 in
theorem fcount_any (v : Value) (xs : List Int) (Wr : Int) (w : World) (hx : Held .i32 w v xs) (hn : xs.length ≤ 1000000) : Calls Try.prog 25 #[v, .int .i64 Wr] w (Gives w (.int .i64 ((linesC Wr xs).length : Int))) := by
  obtain ⟨W2, hW2⟩ : ∃ W2, W2 = w.alloc (.cells #[.int .i64 1] 3) := ⟨_, rfl⟩
  have b2 : Below w.heap.size w W2 := by rw [hW2]; exact (Below.refl _ _).alloc (Nat.le_refl _) _
  have hs2 : W2.heap.size = w.heap.size + 1 := by rw [hW2]; simp
  have hh0 : Has W2 w.heap.size [.int .i64 1] 3 := by rw [hW2]; exact Has.new w [.int .i64 1] _
  have HWK := Lib.hid (fwalk_any v xs Wr 58 #[.pointer (some ⟨w.heap.size, 0, none⟩)] W2 (fun b => b = w.heap.size) (fun hi t W => Has W w.heap.size [.int .i64 ((nextN t + 1 : Nat) : Int)] 3 ∧ t.length ≤ 1000000) (hx.below b2) hn (enters_of Try.func58 (by kernel_rfl) rfl)
    (fun b e => by omega)
    (fun hi t A B h hu => ⟨hu.keep.has h.1 (fun e => by omega), h.2⟩)
    (fun hi W1 hb h1 h2 => ⟨hh0.below hb hh0.lt, Nat.zero_le _⟩)
    (fun hi t W xv T next h1 h2 hj hT hl ht => by
      have hnl := nextN_le t
      refine (cnt1_any w.heap.size (nextN t + 1) xv next W hj.1 (by omega)).mono ?_
      rintro e W' ⟨rfl, h4, h5⟩
      have hsn := nextN_snoc t (T, next)
      refine ⟨rfl, ⟨?_, by rw [List.length_append, List.length_singleton]; omega⟩, h5.mono fun b _ e => .inl e⟩
      rw [hsn]
      rw [show nextN t + (if (T, next).2 = true then 1 else 0) + 1 = nextN t + 1 + if next = true then 1 else 0 from by simp only; omega]
      exact h4))
  obtain ⟨ao, ca, rfl⟩ := hx.len
  have HB2 := Lib.hid b2
  have HW2 := Lib.hid hW2
  clear hx b2 hW2 hs2 hh0
  go_enter Try.func25, Try.ntmps25
  go_wp2_with fail
  rw [← HW2.out]
  refine HWK.out.mono ?_
  rintro e w3 ⟨rfl, ⟨hi, hhi, hj, _⟩, hu⟩
  have hl := lines_len (tolds (clampW Wr) (cluA xs)).1
  rw [← hl, show linesOf (tolds (clampW Wr) (cluA xs)).1 = linesC Wr xs from rfl] at hj
  have c1 := hj.cell 0 _ rfl
  have HB := Lib.hid (HB2.out.upd hu HB2.out.size (fun b e => by omega))
  clear hj hu hl HWK
  obtain ⟨m, hm⟩ : ∃ m, m = (linesC Wr xs).length := ⟨_, rfl⟩
  rw [← hm] at c1 ⊢
  go_wp2
  go_ret
  exact ⟨(ret_eq (by first | rfl | (simp <;> omega))), HB.out⟩
end Go.Proofs.Ytgkcobmbdpgceaa
/- The works of layer 22. -/
namespace Go.Proofs.Ytgkcobmbdpgceaa
open Go.RowKit Go.ChangeShapes Go.WideShapes
theorem flw_lines : linesC 2 [97, 19968, 98] = [[97], [19968], [98]] := by decide +kernel
theorem flw_nil : (linesC 5 []).length = 1 := by decide +kernel
set_option maxRecDepth 100000 in
set_option maxHeartbeats 1600000 in
theorem works22_any (w : World) : Calls Try.prog 21 #[] w (Yes w) := by
  have hb1 := (Below.refl w.heap.size w).alloc (Nat.le_refl _) (.cells #[.int .i32 97, .int .i32 19968, .int .i32 98] 21)
  have HB1 := Lib.hid hb1
  have H1 := Lib.hid (flines_any (.slice (some ⟨w.heap.size, 0, none⟩) 3 3) [97, 19968, 98] 2 _ (held_new .i32 w [.int .i32 97, .int .i32 19968, .int .i32 98] 21 3 3 [97, 19968, 98] rfl rfl) (by decide))
  clear hb1
  go_enter Try.func21, Try.ntmps21
  go_wp2_with fail
  refine H1.out.mono ?_
  rintro e w1 ⟨v1, rfl, ho, b1⟩
  rw [flw_lines] at ho
  have hh := ho.held (fun b h _ => h)
  obtain ⟨a1, c1, e1⟩ := hh.len
  have e1 : v1 = .slice a1 3 c1 := e1
  subst e1
  obtain ⟨hcap, hsp⟩ := hh.spots.2
  obtain ⟨b, off, e2, hb, _, C, q, tv, hC, ht⟩ := hsp 1 (by decide)
  subst e2 hC
  have d1 : w1.cell? ⟨b, off + 1, none⟩ = some tv := by have := q 0 (by decide); simpa [show rowE.size = 1 from rfl] using this
  have ht : HeldE (intE .i32) _ w1 tv [19968] := ht
  obtain ⟨a2, c2, e3⟩ := ht.len
  have e3 : tv = .slice a2 1 c2 := e3
  subst e3
  obtain ⟨hcap2, hsp2⟩ := ht.spots.2
  obtain ⟨b2, o2, e4, hb2, _, C2, q2, hC2⟩ := hsp2 0 (by decide)
  have hC2 : C2 = [.int .i32 19968] := hC2
  subst e4 hC2
  have d2 : w1.cell? ⟨b2, o2, none⟩ = some (.int .i32 19968) := by have := q2 0 (by decide); simpa [intE] using this
  have hc1 : 1 < c1 := by omega
  have hc2 : 0 < c2 := by omega
  have B1 := Lib.hid (HB1.out.trans (b1.mono HB1.out.size))
  have h2 := fcount_any (.slice none 0 0) [] 5 w1 (HeldE.nil (intE .i32) (fun _ => True) w1).ints (by decide)
  rw [flw_nil] at h2
  have H2 := Lib.hid h2
  clear ho b1 hh hcap hsp q ht hcap2 hsp2 q2 h2 H1 hb hb2
  go_wp2_with fail
  refine H2.out.mono ?_
  rintro e w2 ⟨rfl, b2⟩
  have HF := Lib.hid (B1.out.trans (b2.mono B1.out.size))
  clear b2 H2
  go_wp2
  go_ret
  exact ⟨(ret_eq (by first | rfl | (simp <;> omega))), HF.out⟩
end Go.Proofs.Ytgkcobmbdpgceaa
