/- Texts put together: SizB, SizT. -/
import Derived.Test.YtgndolgihplngaaDoorSizA
import Derived.Test.YtgndolgihplngaaDoorMg9
import Derived.Test.YtgndolgihplngaaDoorMg1
import Derived.OpenShut
/- works of layer 39. -/
namespace Go.Proofs.YtgndolgihplngaaDoor
open Go.RowKit Go.ChangeShapes Go.WideShapes
def sk0 : List Ln := List.replicate 3 (List.replicate 1 zc, false)
def sk1 : List Ln := plcL sk0 1 2 0 false true 1 [99]
def sk2 : List Ln := szL sk1 2 2 1 2
theorem sk_1 : plcR sk0 1 2 0 false true 1 = 2 ∧ plcC 1 0 false true 1 = 0 ∧ plcK 1 1 = 1 ∧ aftC 0 1 1 = 0 ∧ aftP 0 1 1 true = true ∧ sk0.length = 3 ∧ sk1.length = 3 ∧ sk2.length = 2 ∧ ((sk2.getD 1 zl).1.getD 0 zc).2.length = 1 ∧ (sk2.getD 1 zl).1.length = 2 := by decide +kernel
theorem sk_in : inI 2 (sideI 3) = ((2 : Nat) : Int) ∧ inI 0 (sideI 1) = ((0 : Nat) : Int) := by decide
set_option maxRecDepth 100000 in
set_option maxHeartbeats 3000000 in
theorem works39_any (w : World) : Calls Tryd.prog 9 #[] w (Yes w) := by
  have HNW := Lib.hid (pnew_any 1 3 w)
  rw [show rowN 1 = 1 from rfl, show rowN 3 = 3 from rfl] at HNW
  go_enter Tryd.func9, Tryd.ntmps9
  go_wp2_with fail
  refine HNW.out.mono ?_
  rintro e w1 ⟨gp, gg, gr, R0, rfl, h1, b1⟩
  have hu := (Upd.refl (fun b => b = gp) w1).setCell (p := ⟨gp, 1, none⟩) (.inl rfl) (.int .i64 2)
  have hh := h1.1.set 1 (.int .i64 2)
  have p1 := h1.1.cell 1 _ rfl
  have f1 := h1.1.free 1
  obtain ⟨w2, hw2⟩ : ∃ w2, w2 = w1.setCell ⟨gp, 1, none⟩ (.int .i64 2) := ⟨_, rfl⟩
  rw [← hw2] at hu hh
  have h2 : PenAt w2 w.heap.size gp gg gr 1 R0 sk0 2 0 false true := h1.turn hh hu
  have b2 : Below w.heap.size w w2 := b1.trans (hu.below b1.size fun b e => by rw [e]; exact h1.2.1)
  have HW2 := Lib.hid hw2
  have hb := (Below.refl w2.heap.size w2).alloc (Nat.le_refl _) (.cells [Value.int .i32 99].toArray 21)
  have ht := heldE_one (w := w2) (ty := 21) (E := intE .i32) (Y := fun _ => False) (Z := fun b => w2.heap.size ≤ b) [.int .i32 99] 99 rfl (fun _ _ h => h.elim) (Nat.le_refl _)
  have h2' := h2.below hb
  have hp := pput_any w.heap.size gp gg gr 1 R0 sk0 2 0 false true 1 _ [99] _ h2' (pen_text h2 ht) 2 0 false (by rw [sk_1.2.2.2.2.2.1]; exact sk_in.1) sk_in.2 rfl (by rw [sk_1.2.2.2.2.2.1]; decide) (by decide)
  rw [sk_1.1, sk_1.2.1, sk_1.2.2.1] at hp
  rw [show aftC ((0 : Nat) : Int) 1 ((1 : Nat) : Int) = 0 from sk_1.2.2.2.1, show aftP ((0 : Nat) : Int) 1 ((1 : Nat) : Int) true = true from sk_1.2.2.2.2.1] at hp
  have HP := Lib.hid hp
  have H2 := Lib.hid h2'
  have B2 := Lib.hid (b2.trans (hb.mono b2.size))
  clear hb ht h2' h2 h1 b1 b2 hp hu hh hw2
  go_upto_region 5 with (fail)
  rw [← HW2.out]
  clear p1 f1 HW2 HNW
  go_wp2_with fail
  refine HP.out.mono ?_
  rintro e w3 ⟨rfl, k3⟩
  have B3 := Lib.hid (B2.out.trans (k3.belowB H2.out B2.out.size))
  obtain ⟨R3, h3, _⟩ := k3
  have hz := psize_any w.heap.size gp gg gr 1 R3 sk1 ((2 : Nat) : Int) 0 true true 2 2 w3 h3 B3.out.size 2 0 (by rw [sk_1.2.2.2.2.2.2.1]; exact sk_in.1) sk_in.2 (by rw [sk_1.2.2.2.2.2.2.1]; decide) (by decide) 2 2 rfl rfl
  rw [sk_1.2.2.2.2.2.2.1] at hz
  rw [show 2 + 1 - 2 = 1 from rfl, show min 2 (3 - 1) = 2 from rfl, show ((2 - 1 : Nat) : Int) = 1 from rfl, show ((min 0 (2 - 1) : Nat) : Int) = 0 from rfl] at hz
  have HZ := Lib.hid hz
  have H3 := Lib.hid h3
  clear hz h3 HP H2 B2
  go_wp2_with fail
  refine HZ.out.mono ?_
  rintro e w4 ⟨rfl, g4, gr4, R4, h4, u4⟩
  have B4 := Lib.hid (B3.out.trans (u4.below B3.out.size fun b e => by
    rcases e with e | e
    · rw [e]; exact H3.out.2.1
    · exact Nat.le_trans B3.out.size e))
  have H4 := Lib.hid (show PenAt w4 w.heap.size gp g4 gr4 2 R4 sk2 1 0 false true from h4)
  have y0 := h4.1.cell 0 _ rfl
  have hrl : R4.length = 2 := by rw [H4.out.sizes.2.2.2.2.1]; exact sk_1.2.2.2.2.2.2.2.1
  have hrow := H4.out.2.2.1.row (i := 1) (by omega)
  have hrw := (row_line H4.out.2.2.2 1 (by omega)).1
  obtain ⟨gk, hgk⟩ : ∃ gk, gk = (R4.getD 1 r0).g := ⟨_, rfl⟩
  have HRW := Lib.hid (show Calls Tryd.prog 38 #[.pointer (some ⟨g4, 0, none⟩), .int .i64 1] w4 (fun e w' => e = .returned (.pointer (some ⟨gk, 0, none⟩)) ∧ w4 = w') from by rw [hgk]; exact grow_in w.heap.size g4 gr4 2 R4 1 _ H4.out.2.2.1 (by omega))
  have hcl := rcell_in _ _ _ _ _ _ 0 w4 hrow (by rw [hrw, sk_1.2.2.2.2.2.2.2.2.2]; decide)
  rw [hrw, ← hgk] at hcl
  obtain ⟨zz, hzz⟩ : ∃ zz, zz = ((sk2.getD 1 zl).1.getD 0 zc) := ⟨_, rfl⟩
  have hzl : zz.2.length = 1 := by rw [hzz]; exact sk_1.2.2.2.2.2.2.2.2.1
  rw [← hzz] at hcl
  have HCL := Lib.hid hcl
  clear hcl hrow hrw hgk hzz h4 u4 HZ H3 B3 hrl
  go_wp2_with fail
  refine HRW.out.mono ?_
  rintro e w5 ⟨rfl, rfl⟩
  go_wp2_with fail
  refine HCL.out.mono ?_
  rintro e w6 ⟨tv, rfl, ht6, b6⟩
  obtain ⟨ta, tc, etv⟩ := ht6.len
  rw [hzl] at etv
  subst etv
  have hb7 := (Below.refl w6.heap.size w6).alloc (Nat.le_refl _) (.cells [Value.int .i64 zz.1, .slice ta 1 tc].toArray 73)
  have hn7 := Has.new w6 [Value.int .i64 zz.1, .slice ta 1 tc] 73
  have H7 := Lib.hid ((H4.out.below b6).below hb7)
  have B7 := Lib.hid ((B4.out.trans (b6.mono B4.out.size)).trans (hb7.mono (Nat.le_trans B4.out.size b6.size)))
  have c1 := hn7.cell 1 _ rfl
  have z0 := H7.out.1.cell 0 _ rfl
  have z1 := H7.out.1.cell 1 _ rfl
  have z2 := H7.out.1.cell 2 _ rfl
  have z3 := H7.out.1.cell 3 _ rfl
  have q1 := cur_self 1 0 false
  have HWD := Lib.hid (gwide_any w.heap.size g4 gr4 2 R4 _ H7.out.2.2.1)
  clear hb7 hn7 b6 ht6 hzl y0 H4 B4 HCL HRW
  go_wp2_with fail
  refine HWD.out.mono ?_
  rintro e w8 ⟨rfl, rfl⟩
  go_wp2
  go_ret
  exact ⟨(ret_eq (by first | rfl | (simp <;> omega))), B7.out⟩
end Go.Proofs.YtgndolgihplngaaDoor
/- Behind a Resize: pen and reference side by side. -/
namespace Go.Proofs.YtgndolgihplngaaDoor
open Go.RowKit Go.ChangeShapes Go.WideShapes
section
variable {W w1 w2 : World} {B gp gg gr wd b8 g2 gr2 nw : Nat} {R R3 : List Rw} {L2 L3 Ls : List Ln} {r2 c2 r3 c3 r c : Int} {pd2 au2 pd3 au3 pd au : Bool} {o : Option Addr} {k : Nat}
theorem QAt.resize (hW : W.heap.size ≤ B) (h : QAt W B gp gg gr wd b8 R L2 r2 c2 pd2 au2 Ls r c pd au o k w1) (hp : PenAt w2 B gp g2 gr2 nw R3 L3 r3 c3 pd3 au3) (hu : Upd (fun x => x = gp ∨ w1.heap.size ≤ x) w1 w2) (hg : GridAt w2 w1.heap.size g2 gr2 nw R3) : QAt W B gp g2 gr2 nw b8 R3 L3 r3 c3 pd3 au3 Ls r c pd au o k w2 := by
  have hb8 := h.box
  have hlt8 := h.2.1.lt
  have hl := hg.lt
  have hs := hu.size
  have hge := h.1.2.1
  have hsz := h.2.2.2.size
  refine ⟨hp, hu.keep.has h.2.1 (fun e => ?_), ((h.2.2.1.zone (Y := fun b => (¬ PZ w1 gp gr R b ∧ b ≠ b8) ∧ b < w1.heap.size) (fun b hb hz => ⟨hz, hb⟩)).upd hu (fun b hz e => ?_)).zone (fun b _ hz => ⟨fun e => ?_, hz.1.2⟩), h.2.2.2.trans (hu.below hsz (fun x e => ?_))⟩
  · rcases e with e | e
    · exact hb8 (.inl e)
    · omega
  · rcases e with e | e
    · exact hz.1.1 (.inl e)
    · have := hz.2; omega
  · have h2 := hz.2
    rcases e with e | e | ⟨i, hi, e⟩ | e
    · exact hz.1.1 (.inl e)
    · have := hl.2.2.1; omega
    · have := hl.2.2.2.2.2 i hi; rcases e with e | e <;> omega
    · omega
  · rcases e with e | e
    · omega
    · omega
end
section
variable {P : Program} {α : Type} {E : Elem α} {ok : α → Prop} {t e : TypeId}
theorem opens_arr2 (hu : P.underlying t = some (.array 2 e)) (hc : P.cellsOf t = E.size + E.size) (he : Opens P E ok e) : Opens P (prE E E) (fun x => ok x.1 ∧ ok x.2) t := by
  refine ⟨hc, fun {H} enc W base fuel cs x h => ?_⟩
  obtain ⟨xs, m, _, _, hl, hn, hf⟩ := DataW.trod_array hu h
  have t0 := hf 0 (by decide)
  have t1 := hf 1 (by decide)
  match xs, hn with
  | [y0, y1], _ =>
    simp only [List.getElem?_cons_zero, List.getElem?_cons_succ] at t0 t1
    rw [he.1] at t0 t1
    obtain ⟨x0, r0, k0⟩ := he.2 enc W base _ _ _ t0
    obtain ⟨x1, r1, k1⟩ := he.2 enc W base _ _ _ t1
    refine ⟨(x0, x1), ⟨_, _, ?_, r0, r1⟩, k0, k1⟩
    rw [hc] at hl
    simp only [Nat.zero_mul, Nat.one_mul, List.drop_zero]
    rw [List.take_of_length_le (l := List.drop E.size cs) (by simp; omega), List.take_append_drop]
end
abbrev twoE := prE (intE .i64) (intE .i64)
theorem twos_at {Z : Zone} {w : World} {ao : Option Addr} {n cap : Nat} {L : List (Int × Int)} (h : HeldE twoE Z w (.slice ao n cap) L) : n = L.length ∧ n ≤ cap ∧ ∀ i, i < L.length → ∃ b off, ao = some ⟨b, off, none⟩ ∧ b < w.heap.size ∧
    w.cell? ⟨b, off + i * 2, none⟩ = some (.int .i64 (L.getD i (0, 0)).1) ∧ w.cell? ⟨b, off + i * 2 + 1, none⟩ = some (.int .i64 (L.getD i (0, 0)).2) := by
  obtain ⟨h1, h2, h3⟩ := h.spots
  refine ⟨h1, h2, fun i hi => ?_⟩
  obtain ⟨b, off, rfl, hb, hz, C, hC, hr⟩ := h3 i hi
  obtain ⟨C1, C2, rfl, rfl, rfl⟩ := hr
  exact ⟨b, off, rfl, hb, hC 0 (by decide), hC 1 (by decide)⟩
theorem psize_nil (a b : Int) (w : World) : Calls Tryd.prog 11 #[.pointer none, .int .i64 a, .int .i64 b] w (fun e w' => e = .returned (.tuple #[]) ∧ w = w') := by
  go_enter Tryd.func11, Tryd.ntmps11
  go_wp2
  exact bodyPost_ret (v := .tuple #[]) (by simp [results, Tryd.results11, go_sem]) rfl ⟨rfl, rfl⟩
end Go.Proofs.YtgndolgihplngaaDoor
