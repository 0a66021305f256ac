/- MarkPlays (25.1, 25.2) answers true at every width, every list of calls and every column, and turns nothing. -/
import Derived.Test.YtomfclkldmmmgaaDoorMarkW
import Derived.Test.YtomfclkldmmmgaaDoorMarkT
import Derived.Test.YtomfclkldmmmgaaDoorMarkR
import Derived.Test.YtomfclkldmmmgaaDoorMarkF
import Derived.Test.YtomfclkldmmmgaaDoorCellU
import Derived.Test.YtomfclkldmmmgaaDoorCellS
import Derived.Test.YtomfclkldmmmgaaDoorErrS
import Derived.Test.YtomfclkldmmmgaaDoorCards
import Derived.Test.YtomfclkldmmmgaaDoorTie
import Derived.Test.YtomfclkldmmmgaaDoorOpen
import Derived.ProofKit
import Derived.Lib.MinMax
import Derived.Deep.Cut
namespace Go.Proofs.YtomfclkldmmmgaaDoor.lawMarkPlays
open Go.ChangeShapes Go.WideShapes Go.ChangeAt Go.RowKit
open Go.Deep
theorem drop_take_app {α : Type} (cs : List α) (a b : Nat) : (cs.drop a).take b ++ cs.drop (a + b) = cs.drop a := by
  rw [← List.drop_drop]; exact List.take_append_drop _ _
theorem opens_five {P : Program} {α β γ δ ε : Type} {E : Elem α} {F : Elem β} {G : Elem γ} {D : Elem δ} {I : Elem ε} {ok0 : α → Prop} {ok1 : β → Prop} {ok2 : γ → Prop} {ok3 : δ → Prop} {ok4 : ε → Prop} {t : TypeId} {f0 f1 f2 f3 f4 : Field}
    (hu : P.underlying t = some (.struct #[f0, f1, f2, f3, f4])) (hc : P.cellsOf t = E.size + (F.size + (G.size + (D.size + I.size)))) (h0 : f0.offset = 0) (h1 : f1.offset = E.size) (h2 : f2.offset = E.size + F.size) (h3 : f3.offset = E.size + F.size + G.size) (h4 : f4.offset = E.size + F.size + G.size + D.size)
    (he : Opens P E ok0 f0.type) (hf : Opens P F ok1 f1.type) (hg : Opens P G ok2 f2.type) (hd : Opens P D ok3 f3.type) (hi : Opens P I ok4 f4.type) :
    Opens P (prE E (prE F (prE G (prE D I)))) (fun x => ok0 x.1 ∧ ok1 x.2.1 ∧ ok2 x.2.2.1 ∧ ok3 x.2.2.2.1 ∧ ok4 x.2.2.2.2) t := by
  refine ⟨hc, fun {H} enc W base fuel cs x h => ?_⟩
  obtain ⟨xs, n, _, rfl, hl, hlen, hfs⟩ := DataW.trod_struct hu h
  match xs, hlen with
  | [y0, y1, y2, y3, y4], _ =>
    have t0 : DataW.trod enc P W base (fun _ => true) true n f0.type ((cs.drop f0.offset).take (P.cellsOf f0.type)) = some y0 := by simpa using hfs 0 f0 rfl
    have t1 : DataW.trod enc P W base (fun _ => true) true n f1.type ((cs.drop f1.offset).take (P.cellsOf f1.type)) = some y1 := by simpa using hfs 1 f1 rfl
    have t2 : DataW.trod enc P W base (fun _ => true) true n f2.type ((cs.drop f2.offset).take (P.cellsOf f2.type)) = some y2 := by simpa using hfs 2 f2 rfl
    have t3 : DataW.trod enc P W base (fun _ => true) true n f3.type ((cs.drop f3.offset).take (P.cellsOf f3.type)) = some y3 := by simpa using hfs 3 f3 rfl
    have t4 : DataW.trod enc P W base (fun _ => true) true n f4.type ((cs.drop f4.offset).take (P.cellsOf f4.type)) = some y4 := by simpa using hfs 4 f4 rfl
    rw [he.1, h0] at t0
    rw [hf.1, h1] at t1
    rw [hg.1, h2] at t2
    rw [hd.1, h3] at t3
    rw [hi.1, h4] at t4
    obtain ⟨x0, r0, k0⟩ := he.2 enc W base _ _ _ t0
    obtain ⟨x1, r1, k1⟩ := hf.2 enc W base _ _ _ t1
    obtain ⟨x2, r2, k2⟩ := hg.2 enc W base _ _ _ t2
    obtain ⟨x3, r3, k3⟩ := hd.2 enc W base _ _ _ t3
    obtain ⟨x4, r4, k4⟩ := hi.2 enc W base _ _ _ t4
    refine ⟨(x0, x1, x2, x3, x4), ⟨_, _, ?_, r0, _, _, rfl, r1, _, _, rfl, r2, _, _, rfl, r3, r4⟩, k0, k1, k2, k3, k4⟩
    rw [hc] at hl
    rw [List.take_of_length_le (l := List.drop (E.size + F.size + G.size + D.size) cs) (by simp; omega), drop_take_app, drop_take_app, drop_take_app, List.drop_zero, List.take_append_drop]
abbrev Act5 := Int × Int × Int × List Int × Bool
def actE : Elem Act5 := prE (intE .i64) (prE (intE .i64) (prE (intE .i64) (prE (slE (intE .i32)) boolE)))
abbrev za : Act5 := (0, 0, 0, [], false)
theorem acts_at {Z : Zone} {w : World} {ao : Option Addr} {n cap : Nat} {L : List Act5} (h : HeldE actE Z w (.slice ao n cap) L) : n = L.length ∧ n ≤ cap ∧ ∀ i, i < L.length → ∃ b off v, ao = some ⟨b, off, none⟩ ∧ b < w.heap.size ∧
    w.cell? ⟨b, off + i * 5, none⟩ = some (.int .i64 (L.getD i za).1) ∧ w.cell? ⟨b, off + i * 5 + 1, none⟩ = some (.int .i64 (L.getD i za).2.1) ∧ w.cell? ⟨b, off + i * 5 + 2, none⟩ = some (.int .i64 (L.getD i za).2.2.1) ∧ w.cell? ⟨b, off + i * 5 + 3, none⟩ = some v ∧
    w.cell? ⟨b, off + i * 5 + 4, none⟩ = some (.bool (L.getD i za).2.2.2.2) ∧ HeldE (intE .i32) Z w v (L.getD i za).2.2.2.1 := by
  obtain ⟨h1, h2, h3⟩ := h.spots
  refine ⟨h1, h2, fun i hi => ?_⟩
  obtain ⟨b, off, rfl, hb, hz, C, hC, hr⟩ := h3 i hi
  obtain ⟨C1, C2, rfl, rfl, C3, C4, rfl, rfl, C5, C6, rfl, rfl, C7, C8, rfl, ⟨v, rfl, ht⟩, rfl⟩ := hr
  exact ⟨b, off, v, rfl, hb, hC 0 (by decide), hC 1 (by decide), hC 2 (by decide), hC 3 (by decide), hC 4 (by decide), ht⟩
theorem tup3_open {Z : Zone} {w w' : World} {r : List Cl × Bool × Bool} {L2 : List Cl} {q2 ok2 : Bool} {e : Ending} (hA : (L2, q2, ok2) = r) (h : Tup3 Z w r e w') : ∃ v', e = .returned (.tuple #[v', .bool q2, .bool ok2]) ∧ HeldE cellE Z w' v' L2 ∧ Below w.heap.size w w' := by
  subst hA; exact h
theorem turn3_open {w w' : World} {B g gc : Nat} {r : List Cl × Bool × Bool} {L2 : List Cl} {q2 ok2 : Bool} {e : Ending} (hA : (L2, q2, ok2) = r) (h : Turned3 w B g gc r e w') : e = .returned (.bool ok2) ∧ RowAt (fun _ => True) w' B g gc L2 q2 ∧ Upd (fun b => b = g ∨ b = gc) w w' := by
  subst hA; exact h
set_option maxRecDepth 100000 in
set_option maxHeartbeats 3000000 in
theorem walkH (W : World) (n : Int) (vb : Value) (L : List Act5) (Z : Zone) (hb : HeldE actE Z W vb L) (cm : Int) (sa : Nat → Addr) (hsa : Sents W sa) : Calls Tryd.prog 4 #[.int .i64 n, vb, .int .i64 cm] W (Yes W) := by
  have hlb := hb.max
  have hb := hb.lower
  obtain ⟨bo, cb, rfl⟩ := hb.len
  obtain ⟨_, _, hc⟩ := acts_at hb
  have HC := Lib.hid hc
  have HSA := Lib.hid hsa
  clear hb hc hsa
  by_cases h1 : 60 < L.length
  · go_enter Tryd.func4, Tryd.ntmps4
    go_wp2_with fail
    refine (works25_any _).mono ?_
    rintro e w1 ⟨rfl, b1⟩
    go_wp2_with fail
    refine (works25_any _).mono ?_
    rintro e w2 ⟨rfl, b2⟩
    have b2 := b1.trans (b2.mono b1.size)
    go_wp2
    go_ret
    exact ⟨(ret_eq (by first | rfl | (simp <;> omega))), b2⟩
  · have h2 : L.length ≤ 60 := by omega
    clear h1
    obtain ⟨x, hx⟩ : ∃ x, x = IntKind.u64.wrap n := ⟨_, rfl⟩
    have hx0 : 0 ≤ x ∧ x ≤ 18446744073709551615 := by rw [hx, IntKind.wrap_u64]; omega
    obtain ⟨y, hy⟩ : ∃ y : Nat, x % 16 = y := ⟨(x % 16).toNat, by omega⟩
    have hy20 : y < 16 := by omega
    have hx' : IntKind.u64.wrap n = x := hx.symm
    obtain ⟨hx1, hx2⟩ := hx0
    clear hx
    obtain ⟨N, hN⟩ : ∃ N : Nat, (1 : Int) + y = N := ⟨y + 1, by omega⟩
    have hN1 : 1 ≤ N := by omega
    have hN2 : N ≤ 16 := by omega
    have hd60 : decide ((60 : Int) < L.length) = false := by simp; omega
    obtain ⟨i0, hi, hz0, hz1, hz2⟩ := info_parts info_cell
    have HI := Lib.hid (And.intro hi (And.intro hz0 (And.intro hz1 hz2)))
    have HRN := Lib.hid (show rowN (N : Int) = N by unfold rowN; omega)
    clear hi hz0 hz1 hz2
    go_enter Tryd.func4, Tryd.ntmps4
    go_wp2_with fail
    refine (works25_any _).mono ?_
    rintro e w1 ⟨rfl, b1⟩
    have B1 := Lib.hid b1
    clear b1
    go_wp2_with fail
    refine (rnew_any (fun _ => True) (N : Int) w1).mono ?_
    rintro e w2 ⟨g, gc, rfl, hr2, b2⟩
    rw [HRN.out] at hr2
    have hlt2 := hr2.lt
    have HLT := Lib.hid hlt2
    have HR2 := Lib.hid hr2
    have B2 := Lib.hid (B1.out.trans (b2.mono B1.out.size))
    clear hr2 b2 hlt2
    go_wp2_with (at_make; refine wpList_make_full w2 rfl (.tmp 31) (.tmp 31) 22 rfl w2.heap.size 27 i0 (.agg #[.int .i64 0, .slice none 0 0]) 2 Tryd.underlying22 HI.out.1 HI.out.2.1 HI.out.2.2.1 .i64 .i64 _ _ N rfl rfl rfl rfl (by rw [HI.out.2.2.2]; omega) (by unfold maxLen; omega) (Nat.le_refl _) ?_)
    intro w3 hown3 hg3
    have b3 : Below w2.heap.size w2 w3 := (Below.refl _ _).grown hg3 (Nat.le_refl _) (by intro k hk; cases hk)
    have ho3 := blank_own (Z := fun b => b ≠ g ∧ b ≠ gc) hown3
    have H3 := Lib.hid (ho3.held (fun b hb _ => by have := HLT.out; exact ⟨by omega, by omega⟩))
    have HR3 := Lib.hid (HR2.out.below b3)
    have B3 := Lib.hid (B2.out.trans (b3.mono B2.out.size))
    clear hown3 hg3 b3 ho3 hN
    go_wp2
    go_loopw [8, 9, 10] (fun cv wv i wr => ∃ (k : Nat) (Lk : List Cl) (wk : Bool), k ≤ L.length ∧ i = .int .i64 k ∧ wv = .bool wk ∧ RowAt (fun _ => True) wr w1.heap.size g gc Lk wk ∧ Go.RowKit.Hid (Lk.length = N) ∧ HeldE cellE (fun b => b ≠ g ∧ b ≠ gc) wr cv Lk ∧ Below W.heap.size W wr) (fun _ _ i _ => L.length - (intOf i).toNat)
    case atStart => exact ⟨0, List.replicate N zc, false, Nat.zero_le _, rfl, rfl, HR3.out, Lib.hid (by simp), H3.out, B3.out⟩
    case round =>
      obtain ⟨k, Lk, wk, hk, rfl, rfl, hr, HLN, hcv, hbw⟩ := hrel
      have R := Lib.hid hr
      have C := Lib.hid hcv
      have B := Lib.hid hbw
      by_cases hlt : k < L.length
      · obtain ⟨b, off, tv, rfl, hb, c0, c1, c2, c3, c4, hp⟩ := HC.out k hlt
        obtain ⟨⟨K, P, X, T, On⟩, hS⟩ : ∃ y, y = L.getD k za := ⟨_, rfl⟩
        rw [← hS] at c0 c1 c2 c4 hp
        simp only at c0 c1 c2 c4 hp
        have hpm := hp.max
        have HT := Lib.hid hp
        obtain ⟨ta, tc, rfl⟩ := hp.len
        have c0 := (B.out.cell (p := ⟨b, off + k * 5, none⟩) hb).trans c0
        have c1 := (B.out.cell (p := ⟨b, off + k * 5 + 1, none⟩) hb).trans c1
        have c2 := (B.out.cell (p := ⟨b, off + k * 5 + 2, none⟩) hb).trans c2
        have c3 := (B.out.cell (p := ⟨b, off + k * 5 + 3, none⟩) hb).trans c3
        have c4 := (B.out.cell (p := ⟨b, off + k * 5 + 4, none⟩) hb).trans c4
        have hbs : b < wr.heap.size := Nat.lt_of_lt_of_le hb B.out.size
        have HGG := Lib.hid (show W.heap.size ≤ g ∧ W.heap.size ≤ gc ∧ g < wr.heap.size ∧ gc < wr.heap.size from by have := hr.lt; have := B1.out.size; omega)
        obtain ⟨W5, hW5⟩ : ∃ W5, W5 = wr.alloc (.cells #[.int .i64 K, .int .i64 P, .int .i64 X, .slice ta T.length tc, .bool On] 41) := ⟨_, rfl⟩
        have b5 : Below wr.heap.size wr W5 := by rw [hW5]; exact (Below.refl _ _).alloc (Nat.le_refl _) _
        have HH := Lib.hid (show Has W5 wr.heap.size [.int .i64 K, .int .i64 P, .int .i64 X, .slice ta T.length tc, .bool On] 41 by rw [hW5]; exact Has.new wr _ _)
        replace B := Lib.hid (B.out.trans (b5.mono B.out.size))
        replace R := Lib.hid (R.out.below b5)
        replace C := Lib.hid (C.out.below b5)
        clear b5
        clear hr hcv hbw hS hp
        subst hW5
        by_cases h40 : 40 < T.length
        · have hd40 : decide ((40 : Int) < T.length) = true := by simp; omega
          go_wp2
          go_ret
          exact ⟨(ret_eq (by first | rfl | (simp <;> omega))), B.out⟩
        · have hd40 : decide ((40 : Int) < T.length) = false := by simp; omega
          go_upto_if 48 with (fail)
          go_cut [9] from 49 to 50 (fun wv wx => wv = .bool (On || wk) ∧ RowAt (fun _ => True) wx w1.heap.size g gc Lk (On || wk) ∧ HeldE cellE (fun b => b ≠ g ∧ b ≠ gc) wx u8 Lk ∧ Below W.heap.size W wx ∧ Has wx wr.heap.size [.int .i64 K, .int .i64 P, .int .i64 X, .slice ta T.length tc, .bool On] 41)
          case first =>
            cases On with
            | false =>
              go_wp2
              go_meet
              case rel => exact ⟨rfl, R.out, C.out, B.out, HH.out⟩
            | true =>
              go_wp2_with fail
              refine (rgoon_any _ _ g gc _ _ true _ R.out).mono ?_
              rintro e wx ⟨rfl, hrx, hux⟩
              have HRX := Lib.hid hrx
              have HUX := Lib.hid hux
              clear hrx hux c0 c1 c2 c3 c4
              go_wp2
              go_meet
              case rel => exact ⟨rfl, HRX.out, C.out.upd HUX.out (fun b hb e => by rcases e with e | e; exact hb.1 e; exact hb.2 e), B.out.upd HUX.out B.out.size (fun x e => by have := HGG.out; rcases e with e | e <;> omega), HUX.out.keep.has HH.out (fun e => by have := HGG.out; rcases e with e | e <;> omega)⟩
          case rest =>
            obtain ⟨rfl, hrx, hcx, hbx, hhx⟩ := hcut
            obtain ⟨q, hq⟩ : ∃ q, q = (On || wk) := ⟨_, rfl⟩
            rw [← hq] at hrx ⊢
            replace R := Lib.hid hrx
            replace C := Lib.hid hcx
            replace B := Lib.hid hbx
            replace HH := Lib.hid hhx
            clear hq hrx hcx hbx hhx c0 c1 c2 c3 c4 hbs hb h40
            have HNN := Lib.hid (show 0 < Lk.length ∧ Lk.length ≤ 1000000 by have := HLN.out; omega)
            by_cases hK0 : K = 0
            · have hk0 : (K == 0) = true := by rw [beq_iff_eq]; exact hK0
              clear hK0
              by_cases hg : wrongI (N : Int) P (ofC X T) = 0
              · obtain ⟨a, rfl, hla, _⟩ := wrong_good hg
                have HG0 := Lib.hid hg
                have HLA := Lib.hid hla
                clear hg hla
                have a0 := HH.out.cell 0 _ rfl
                have a2 := HH.out.cell 2 _ rfl
                have a3 := HH.out.cell 3 _ rfl
                go_wp2_with fail
                refine (rcof_new (fun b => b ≠ g ∧ b ≠ gc) _ X _ T wc (fun b hb => by have := R.out.lt; exact ⟨by omega, by omega⟩) (HT.out.below B.out)).mono ?_
                rintro e w4 ⟨v4, rfl, ho4, b4⟩
                have H4 := Lib.hid (ho4.held (fun b hb _ => by have := R.out.lt; exact (⟨by omega, by omega⟩ : b ≠ g ∧ b ≠ gc)))
                replace HH := Lib.hid (HH.out.below b4 HH.out.lt)
                replace B := Lib.hid (B.out.trans (b4.mono B.out.size))
                replace R := Lib.hid (R.out.below b4)
                replace C := Lib.hid (C.out.below b4)
                clear b4
                clear ho4 a0 a2 a3
                have a1 := HH.out.cell 1 _ rfl
                have hwr := rwrong_any _ (N : Int) (a : Int) _ (ofC X T) w4 H4.out (by omega) (by omega)
                rw [HG0.out] at hwr
                go_wp2_with fail
                refine hwr.mono ?_
                rintro e w5 ⟨rfl, b5⟩
                replace HH := Lib.hid (HH.out.below b5 HH.out.lt)
                replace B := Lib.hid (B.out.trans (b5.mono B.out.size))
                replace R := Lib.hid (R.out.below b5)
                replace C := Lib.hid (C.out.below b5)
                replace H4 := Lib.hid (H4.out.below b5)
                clear b5
                clear a1 hwr
                have a1 := HH.out.cell 1 _ rfl
                go_wp2_with fail
                refine (rfpaint_any (fun b => b ≠ g ∧ b ≠ gc) _ _ Lk (ofC X T) q a w5 (fun b hb => by have := R.out.lt; exact ⟨by omega, by omega⟩) C.out H4.out HNN.out.1 HNN.out.2 (by rw [HLN.out]; exact HLA.out)).mono ?_
                rintro e w6 ⟨v6, rfl, ho6, b6⟩
                replace C := Lib.hid (ho6.held (fun b hb _ => by have := R.out.lt; exact (⟨by omega, by omega⟩ : b ≠ g ∧ b ≠ gc)))
                replace HH := Lib.hid (HH.out.below b6 HH.out.lt)
                replace B := Lib.hid (B.out.trans (b6.mono B.out.size))
                replace R := Lib.hid (R.out.below b6)
                clear b6
                clear ho6 a1 H4
                have HQ := Lib.hid (mput_good _ _ g gc Lk q (a : Int) X _ T w6 R.out (HT.out.below B.out) (by rw [HLN.out]; exact HG0.out))
                rw [Int.toNat_natCast] at HQ
                have a1 := HH.out.cell 1 _ rfl
                have a2 := HH.out.cell 2 _ rfl
                have a3 := HH.out.cell 3 _ rfl
                go_wp2_with fail
                refine HQ.out.mono ?_
                rintro e w7 ⟨rfl, hr7, u7⟩
                replace R := Lib.hid hr7
                replace C := Lib.hid (C.out.upd u7 (fun b hb e => by rcases e with e | e; exact hb.1 e; exact hb.2 e))
                replace B := Lib.hid (B.out.upd u7 B.out.size (fun x e => by have := HGG.out; rcases e with e | e <;> omega))
                replace HH := Lib.hid (u7.keep.has HH.out (fun e => by have := HGG.out; rcases e with e | e <;> omega))
                clear hr7 u7 HQ a1 a2 a3
                have HL2 := Lib.hid (show (paintL Lk (ofC X T) a).length = N by rw [paint_len]; exact HLN.out)
                obtain ⟨L2, hL2⟩ : ∃ L2, L2 = paintL Lk (ofC X T) a := ⟨_, rfl⟩
                obtain ⟨q2, hq2⟩ : ∃ q2, q2 = (q && !lastHit Lk (ofC X T) a) := ⟨_, rfl⟩
                rw [← hL2] at HL2
                rw [← hL2, ← hq2] at R
                rw [← hL2] at C
                rw [← hq2]
                clear hL2 hq2
                go_wp2_with fail
                refine (code_nil w7).mono ?_
                rintro e w8 ⟨rfl, rfl⟩
                go_wp2_with fail
                refine (rcells_any _ _ g gc _ _ _ R.out).mono ?_
                rintro e wa ⟨va, rfl, hoa, ba⟩
                have HA := Lib.hid (hoa.held (fun b hb _ => hb))
                replace HH := Lib.hid (HH.out.below ba HH.out.lt)
                replace B := Lib.hid (B.out.trans (ba.mono B.out.size))
                replace R := Lib.hid (R.out.below ba)
                replace C := Lib.hid (C.out.below ba)
                clear ba
                clear hoa
                go_wp2_with fail
                refine (rcsame_any _ _ _ _ _ _ _ HA.out C.out).mono ?_
                rintro e wb ⟨rfl, bb⟩
                rw [sameC_self]
                replace HH := Lib.hid (HH.out.below bb HH.out.lt)
                replace B := Lib.hid (B.out.trans (bb.mono B.out.size))
                replace R := Lib.hid (R.out.below bb)
                replace C := Lib.hid (C.out.below bb)
                clear bb
                go_wp2_with fail
                refine (rwrap_any _ _ g gc _ _ _ R.out).mono ?_
                rintro e wd ⟨rfl, rfl⟩
                have hqq : (q2 != q2) = false := by simp
                have a1 := HH.out.cell 1 _ rfl
                go_wp2_with fail
                refine (lawat_any _ _ _ g gc _ _ _ _ R.out C.out).mono ?_
                rintro e wd ⟨rfl, bd⟩
                replace B := Lib.hid (B.out.trans (bd.mono B.out.size))
                replace R := Lib.hid (R.out.below bd)
                replace C := Lib.hid (C.out.below bd)
                clear bd
                clear a1
                go_wp2_with fail
                refine (lawat_any _ _ _ g gc _ _ _ _ R.out C.out).mono ?_
                rintro e we ⟨rfl, be⟩
                replace B := Lib.hid (B.out.trans (be.mono B.out.size))
                replace R := Lib.hid (R.out.below be)
                replace C := Lib.hid (C.out.below be)
                clear be
                clear hqq
                go_wp2
                go_roundw
                case rel => exact ⟨k + 1, L2, q2, by omega, by go_num, rfl, R.out, HL2, C.out, B.out⟩
                case measure => simp [intOf] <;> omega
              · have hg' : wrongI Lk.length P (ofC X T) ≠ 0 := by rw [HLN.out]; exact hg
                obtain ⟨m, hm8, hwm, _⟩ := mput_bad sa _ _ g gc Lk q P X _ T wc (HSA.out.below B.out) R.out (HT.out.below B.out) hg'
                have hwm' : wrongI (N : Int) P (ofC X T) = (m : Int) + 1 := by rw [← HLN.out]; exact hwm
                have HWM := Lib.hid hwm
                have HWN := Lib.hid hwm'
                have HG0 := Lib.hid hg'
                clear hg hg' hwm hwm'
                have a0 := HH.out.cell 0 _ rfl
                have a2 := HH.out.cell 2 _ rfl
                have a3 := HH.out.cell 3 _ rfl
                go_wp2_with fail
                refine (rcof_new (fun b => b ≠ g ∧ b ≠ gc) _ X _ T wc (fun b hb => by have := R.out.lt; exact ⟨by omega, by omega⟩) (HT.out.below B.out)).mono ?_
                rintro e w4 ⟨v4, rfl, ho4, b4⟩
                have H4 := Lib.hid (ho4.held (fun b hb _ => by have := R.out.lt; exact (⟨by omega, by omega⟩ : b ≠ g ∧ b ≠ gc)))
                replace HH := Lib.hid (HH.out.below b4 HH.out.lt)
                replace B := Lib.hid (B.out.trans (b4.mono B.out.size))
                replace R := Lib.hid (R.out.below b4)
                replace C := Lib.hid (C.out.below b4)
                clear b4
                clear ho4 a0 a2 a3
                have a1 := HH.out.cell 1 _ rfl
                have hwr := rwrong_any _ (N : Int) P _ (ofC X T) w4 H4.out (by omega) (by omega)
                rw [HWN.out] at hwr
                go_wp2_with fail
                refine hwr.mono ?_
                rintro e w5 ⟨rfl, b5⟩
                replace HH := Lib.hid (HH.out.below b5 HH.out.lt)
                replace B := Lib.hid (B.out.trans (b5.mono B.out.size))
                replace R := Lib.hid (R.out.below b5)
                replace C := Lib.hid (C.out.below b5)
                clear b5
                clear a1 hwr H4
                have hm0 : ((m : Int) + 1 == 0) = false := by rw [beq_eq_false_iff_ne]; omega
                obtain ⟨m2, hm2, hwm2, hcall⟩ := mput_bad sa _ _ g gc Lk q P X _ T w5 (HSA.out.below B.out) R.out (HT.out.below B.out) HG0.out
                obtain rfl : m2 = m := by have := HWM.out; omega
                have HQ := Lib.hid hcall
                clear hwm2 hcall hm2
                have a1 := HH.out.cell 1 _ rfl
                have a2 := HH.out.cell 2 _ rfl
                have a3 := HH.out.cell 3 _ rfl
                go_wp2_with fail
                refine HQ.out.mono ?_
                rintro e w6 ⟨rfl, b6⟩
                replace HH := Lib.hid (HH.out.below b6 HH.out.lt)
                replace B := Lib.hid (B.out.trans (b6.mono B.out.size))
                replace R := Lib.hid (R.out.below b6)
                replace C := Lib.hid (C.out.below b6)
                clear b6
                clear a1 a2 a3 HQ
                have hmm : ((m2 : Int) + 1 == (m2 : Int) + 1) = true := by simp
                go_wp2_with fail
                refine (code_sent sa w6 (HSA.out.below B.out) m2 hm8).mono ?_
                rintro e w7 ⟨rfl, rfl⟩
                go_wp2_with fail
                refine (rcells_any _ _ g gc _ _ _ R.out).mono ?_
                rintro e wa ⟨va, rfl, hoa, ba⟩
                have HA := Lib.hid (hoa.held (fun b hb _ => hb))
                replace HH := Lib.hid (HH.out.below ba HH.out.lt)
                replace B := Lib.hid (B.out.trans (ba.mono B.out.size))
                replace R := Lib.hid (R.out.below ba)
                replace C := Lib.hid (C.out.below ba)
                clear ba
                clear hoa
                go_wp2_with fail
                refine (rcsame_any _ _ _ _ _ _ _ HA.out C.out).mono ?_
                rintro e wb ⟨rfl, bb⟩
                rw [sameC_self]
                replace HH := Lib.hid (HH.out.below bb HH.out.lt)
                replace B := Lib.hid (B.out.trans (bb.mono B.out.size))
                replace R := Lib.hid (R.out.below bb)
                replace C := Lib.hid (C.out.below bb)
                clear bb
                go_wp2_with fail
                refine (rwrap_any _ _ g gc _ _ _ R.out).mono ?_
                rintro e wd ⟨rfl, rfl⟩
                have hqq : (q != q) = false := by simp
                have a1 := HH.out.cell 1 _ rfl
                go_wp2_with fail
                refine (lawat_any _ _ _ g gc _ _ _ _ R.out C.out).mono ?_
                rintro e wd ⟨rfl, bd⟩
                replace B := Lib.hid (B.out.trans (bd.mono B.out.size))
                replace R := Lib.hid (R.out.below bd)
                replace C := Lib.hid (C.out.below bd)
                clear bd
                clear a1
                go_wp2_with fail
                refine (lawat_any _ _ _ g gc _ _ _ _ R.out C.out).mono ?_
                rintro e we ⟨rfl, be⟩
                replace B := Lib.hid (B.out.trans (be.mono B.out.size))
                replace R := Lib.hid (R.out.below be)
                replace C := Lib.hid (C.out.below be)
                clear be
                clear hqq
                go_wp2
                go_roundw
                case rel => exact ⟨k + 1, Lk, q, by omega, by go_num, rfl, R.out, HLN, C.out, B.out⟩
                case measure => simp [intOf] <;> omega
            have hk0 : (K == 0) = false := by rw [beq_eq_false_iff_ne]; exact hK0
            clear hK0
            by_cases hK1 : K = 1 ∧ 0 < T.length
            · have hk1 : (K == 1) = true := by rw [beq_iff_eq]; exact hK1.1
              have hl0 := hK1.2
              have hd0 : decide ((0 : Int) < T.length) = true := by simp; omega
              clear hK1
              obtain ⟨_, _, hsp⟩ := HT.out.spots
              obtain ⟨tb, toff, rfl, htb, _, D, hD, hrD⟩ := hsp 0 (by omega)
              obtain ⟨x0, hx0⟩ : ∃ x0, x0 = T.getD 0 (intE .i32).zero := ⟨_, rfl⟩
              rw [← hx0] at hrD
              obtain rfl := hrD
              have hx1 : W.cell? ⟨tb, toff, none⟩ = some (.int .i32 x0) := hD 0 (by decide)
              have HX := Lib.hid (show ∀ w', Below W.heap.size W w' → w'.cell? ⟨tb, toff, none⟩ = some (.int .i32 x0) from fun w' h => (h.cell (p := ⟨tb, toff, none⟩) htb).trans hx1)
              have hlen2 := add_len Lk q P x0
              obtain ⟨⟨L2, q2, ok2⟩, hA⟩ : ∃ y, y = addL Lk q P x0 := ⟨_, rfl⟩
              rw [← hA] at hlen2
              have HL2 := Lib.hid (show L2.length = N from hlen2.trans HLN.out)
              have HAA := Lib.hid hA
              clear hlen2 hA hsp hD hx0 hx1 htb
              have a0 := HH.out.cell 0 _ rfl
              have a3 := HH.out.cell 3 _ rfl
              go_upto_region 26 with (fail)
              clear a0 a3
              obtain ⟨Erg, hErg⟩ : ∃ EE : Nat → Value → World → Prop, EE = fun jj xx ww => match jj with
                  | 0 => xx = u8
                  | 1 => xx = .bool q
                  | 2 => xx = .pointer (some ⟨wr.heap.size, 1, none⟩)
                  | 3 => xx = .int .i64 P
                  | 4 => xx = .pointer (some ⟨wr.heap.size, 3, none⟩)
                  | 5 => xx = .slice (some ⟨tb, toff, none⟩) T.length tc
                  | 6 => xx = .pointer (some ⟨tb, toff, none⟩)
                  | 7 => xx = .int .i32 x0
                  | 8 => (fun x w' => ∃ v9, x = .tuple #[v9, .bool q2, .bool ok2] ∧ HeldE cellE (fun b => b ≠ g ∧ b ≠ gc) w' v9 L2) xx ww
                  | 9 => (fun x w' => ∃ v9, x = .tuple #[v9, .bool q2, .bool ok2] ∧ HeldE cellE (fun b => b ≠ g ∧ b ≠ gc) w' v9 L2) xx ww
                  | 10 => (fun x w' => HeldE cellE (fun b => b ≠ g ∧ b ≠ gc) w' x L2) xx ww
                  | 11 => xx = .bool q2
                  | 12 => xx = .bool ok2
                  | 13 => (fun x w' => HeldE cellE (fun b => b ≠ g ∧ b ≠ gc) w' x L2) xx ww
                  | 14 => xx = .bool q2
                  | 15 => xx = .bool ok2
                  | _ => True := ⟨_, rfl⟩
              have erg0 : ∀ xx ww, Erg 0 xx ww = (xx = u8) := fun xx ww => congrFun (congrFun (congrFun hErg 0) xx) ww
              have erg1 : ∀ xx ww, Erg 1 xx ww = (xx = .bool q) := fun xx ww => congrFun (congrFun (congrFun hErg 1) xx) ww
              have erg2 : ∀ xx ww, Erg 2 xx ww = (xx = .pointer (some ⟨wr.heap.size, 1, none⟩)) := fun xx ww => congrFun (congrFun (congrFun hErg 2) xx) ww
              have erg3 : ∀ xx ww, Erg 3 xx ww = (xx = .int .i64 P) := fun xx ww => congrFun (congrFun (congrFun hErg 3) xx) ww
              have erg4 : ∀ xx ww, Erg 4 xx ww = (xx = .pointer (some ⟨wr.heap.size, 3, none⟩)) := fun xx ww => congrFun (congrFun (congrFun hErg 4) xx) ww
              have erg5 : ∀ xx ww, Erg 5 xx ww = (xx = .slice (some ⟨tb, toff, none⟩) T.length tc) := fun xx ww => congrFun (congrFun (congrFun hErg 5) xx) ww
              have erg6 : ∀ xx ww, Erg 6 xx ww = (xx = .pointer (some ⟨tb, toff, none⟩)) := fun xx ww => congrFun (congrFun (congrFun hErg 6) xx) ww
              have erg7 : ∀ xx ww, Erg 7 xx ww = (xx = .int .i32 x0) := fun xx ww => congrFun (congrFun (congrFun hErg 7) xx) ww
              have erg8 : ∀ xx ww, Erg 8 xx ww = ((fun x w' => ∃ v9, x = .tuple #[v9, .bool q2, .bool ok2] ∧ HeldE cellE (fun b => b ≠ g ∧ b ≠ gc) w' v9 L2) xx ww) := fun xx ww => congrFun (congrFun (congrFun hErg 8) xx) ww
              have erg9 : ∀ xx ww, Erg 9 xx ww = ((fun x w' => ∃ v9, x = .tuple #[v9, .bool q2, .bool ok2] ∧ HeldE cellE (fun b => b ≠ g ∧ b ≠ gc) w' v9 L2) xx ww) := fun xx ww => congrFun (congrFun (congrFun hErg 9) xx) ww
              have erg10 : ∀ xx ww, Erg 10 xx ww = ((fun x w' => HeldE cellE (fun b => b ≠ g ∧ b ≠ gc) w' x L2) xx ww) := fun xx ww => congrFun (congrFun (congrFun hErg 10) xx) ww
              have erg11 : ∀ xx ww, Erg 11 xx ww = (xx = .bool q2) := fun xx ww => congrFun (congrFun (congrFun hErg 11) xx) ww
              have erg12 : ∀ xx ww, Erg 12 xx ww = (xx = .bool ok2) := fun xx ww => congrFun (congrFun (congrFun hErg 12) xx) ww
              have erg13 : ∀ xx ww, Erg 13 xx ww = ((fun x w' => HeldE cellE (fun b => b ≠ g ∧ b ≠ gc) w' x L2) xx ww) := fun xx ww => congrFun (congrFun (congrFun hErg 13) xx) ww
              have erg14 : ∀ xx ww, Erg 14 xx ww = (xx = .bool q2) := fun xx ww => congrFun (congrFun (congrFun hErg 14) xx) ww
              have erg15 : ∀ xx ww, Erg 15 xx ww = (xx = .bool ok2) := fun xx ww => congrFun (congrFun (congrFun hErg 15) xx) ww
              obtain ⟨Crg, hCrg⟩ : ∃ CC : Array Bool → World → Prop, CC = fun L8 w' => Below wc.heap.size wc w' := ⟨_, rfl⟩
              have krg : ∀ i L w,  Crg L w → Crg (L.setIfInBounds i true) w := by
                intro i L w  h
                rw [hCrg] at h ⊢
                exact h
              obtain ⟨Xrg, hXrg⟩ : ∃ XX : World → World → Prop, XX = fun x y => Below x.heap.size x y := ⟨_, rfl⟩
              have xrg : ∀ w, Xrg w w := fun w => by rw [hXrg]; exact Below.refl _ _
              have strg : ∀ j x w w1, Xrg w w1 → Erg j x w → Erg j x w1 := by
                intro j x w w1 hx h
                rw [hXrg] at hx
                match j with
                | 0 => rw [erg0] at h ⊢; exact h
                | 1 => rw [erg1] at h ⊢; exact h
                | 2 => rw [erg2] at h ⊢; exact h
                | 3 => rw [erg3] at h ⊢; exact h
                | 4 => rw [erg4] at h ⊢; exact h
                | 5 => rw [erg5] at h ⊢; exact h
                | 6 => rw [erg6] at h ⊢; exact h
                | 7 => rw [erg7] at h ⊢; exact h
                | 8 => rw [erg8] at h ⊢; (first | exact HeldE.below h hx | (obtain ⟨v9, e9, h9⟩ := h; exact ⟨v9, e9, HeldE.below h9 hx⟩))
                | 9 => rw [erg9] at h ⊢; (first | exact HeldE.below h hx | (obtain ⟨v9, e9, h9⟩ := h; exact ⟨v9, e9, HeldE.below h9 hx⟩))
                | 10 => rw [erg10] at h ⊢; (first | exact HeldE.below h hx | (obtain ⟨v9, e9, h9⟩ := h; exact ⟨v9, e9, HeldE.below h9 hx⟩))
                | 11 => rw [erg11] at h ⊢; exact h
                | 12 => rw [erg12] at h ⊢; exact h
                | 13 => rw [erg13] at h ⊢; (first | exact HeldE.below h hx | (obtain ⟨v9, e9, h9⟩ := h; exact ⟨v9, e9, HeldE.below h9 hx⟩))
                | 14 => rw [erg14] at h ⊢; exact h
                | 15 => rw [erg15] at h ⊢; exact h
                | j + 16 => rw [hErg]; trivial
              have crg : Crg (Array.replicate 16 false) wc.drew := by rw [hCrg]; exact (Below.refl _ _).drew
              have brg : ∀ L w w1, Crg L w → Below w.heap.size w w1 → Crg L w1 := by
                intro L w w1 h hb
                rw [hCrg] at h ⊢
                exact h.trans (hb.mono h.size)
              have xbrg : ∀ w w1, Below w.heap.size w w1 → Xrg w w1 := by
                intro w w1 hb
                rw [hXrg]
                exact hb
              have Hrgb := Lib.hid brg
              have Hrgxb := Lib.hid xbrg
              clear brg xbrg
              clear hErg
              have Hrgk := Lib.hid krg
              have Hrgx := Lib.hid xrg
              have Hrgst := Lib.hid strg
              have Hrgc := Lib.hid crg
              have HrghC := Lib.hid hCrg
              have HrghX := Lib.hid hXrg
              have Hrge0 := Lib.hid erg0
              have Hrge1 := Lib.hid erg1
              have Hrge2 := Lib.hid erg2
              have Hrge3 := Lib.hid erg3
              have Hrge4 := Lib.hid erg4
              have Hrge5 := Lib.hid erg5
              have Hrge6 := Lib.hid erg6
              have Hrge7 := Lib.hid erg7
              have Hrge8 := Lib.hid erg8
              have Hrge9 := Lib.hid erg9
              have Hrge10 := Lib.hid erg10
              have Hrge11 := Lib.hid erg11
              have Hrge12 := Lib.hid erg12
              have Hrge13 := Lib.hid erg13
              have Hrge14 := Lib.hid erg14
              have Hrge15 := Lib.hid erg15
              clear krg xrg strg crg hCrg hXrg erg0 erg1 erg2 erg3 erg4 erg5 erg6 erg7 erg8 erg9 erg10 erg11 erg12 erg13 erg14 erg15
              go_wp2_with fail
              refine Reg.regionF Erg Crg Xrg Hrgst.out (by kernel_rfl) (by kernel_rfl) (by kernel_rfl) Hrgc.out (fun Frg hFrg => ?_)
              simp only [Reg.frame, Reg.dsts, List.map_cons, List.map_nil, Mix.put_lit, List.set_cons_succ, List.set_cons_zero, Nat.zero_add, Nat.reduceAdd] at hFrg
              refine ⟨?_, ?_⟩
              · refine ⟨?_, ?_, ?_, ?_, ?_, ?_, ?_, ?_, ?_, ?_, ?_, ?_, ?_, ?_, ?_, ?_, trivial⟩
                · intro Lq wq xq hh
                  have d13 := hh.old 13 (by kernel_rfl)
                  simp only [hFrg, d13]
                  clear d13
                  refine .inl ⟨rfl, ?_⟩
                  unfold Reg.upon
                  have hk := Hrgk.out 0 Lq wq  hh.cls
                  have hx := Hrgx.out wq
                  have he : Erg 0 (u8) wq := by rw [Hrge0.out]
                  have HK := Lib.hid (And.intro hk (And.intro he hx))
                  clear hk hx he
                  go_simp
                  exact HK.out
                · intro Lq wq xq hh
                  have d14 := hh.old 14 (by kernel_rfl)
                  simp only [hFrg, d14]
                  clear d14
                  refine .inl ⟨rfl, ?_⟩
                  unfold Reg.upon
                  have hk := Hrgk.out 1 Lq wq  hh.cls
                  have hx := Hrgx.out wq
                  have he : Erg 1 (.bool q) wq := by rw [Hrge1.out]
                  have HK := Lib.hid (And.intro hk (And.intro he hx))
                  clear hk hx he
                  go_simp
                  exact HK.out
                · intro Lq wq xq hh
                  simp only [hFrg]
                  refine .inl ⟨rfl, ?_⟩
                  unfold Reg.upon
                  have hk := Hrgk.out 2 Lq wq  hh.cls
                  have hx := Hrgx.out wq
                  have he : Erg 2 (.pointer (some ⟨wr.heap.size, 1, none⟩)) wq := by rw [Hrge2.out]
                  have HK := Lib.hid (And.intro hk (And.intro he hx))
                  clear hk hx he
                  go_simp
                  exact HK.out
                · intro Lq wq xq hh
                  have d2 : Erg 2 (xq 2) wq := hh.val 2 (by kernel_rfl) (by kernel_rfl)
                  rw [Hrge2.out] at d2
                  simp only [hFrg, d2]
                  clear d2
                  refine .inl ⟨rfl, ?_⟩
                  unfold Reg.upon
                  have hc : Crg Lq wq := hh.cls
                  rw [HrghC.out] at hc
                  have h3 := (HH.out.below hc HH.out.lt).cell 1 _ rfl
                  clear hc
                  have hk := Hrgk.out 3 Lq wq  hh.cls
                  have hx := Hrgx.out wq
                  have he : Erg 3 (.int .i64 P) wq := by rw [Hrge3.out]
                  have HK := Lib.hid (And.intro hk (And.intro he hx))
                  clear hk hx he
                  go_simp
                  exact HK.out
                · intro Lq wq xq hh
                  simp only [hFrg]
                  refine .inl ⟨rfl, ?_⟩
                  unfold Reg.upon
                  have hk := Hrgk.out 4 Lq wq  hh.cls
                  have hx := Hrgx.out wq
                  have he : Erg 4 (.pointer (some ⟨wr.heap.size, 3, none⟩)) wq := by rw [Hrge4.out]
                  have HK := Lib.hid (And.intro hk (And.intro he hx))
                  clear hk hx he
                  go_simp
                  exact HK.out
                · intro Lq wq xq hh
                  have d4 : Erg 4 (xq 4) wq := hh.val 4 (by kernel_rfl) (by kernel_rfl)
                  rw [Hrge4.out] at d4
                  simp only [hFrg, d4]
                  clear d4
                  refine .inl ⟨rfl, ?_⟩
                  unfold Reg.upon
                  have hc : Crg Lq wq := hh.cls
                  rw [HrghC.out] at hc
                  have h5 := (HH.out.below hc HH.out.lt).cell 3 _ rfl
                  clear hc
                  have hk := Hrgk.out 5 Lq wq  hh.cls
                  have hx := Hrgx.out wq
                  have he : Erg 5 (.slice (some ⟨tb, toff, none⟩) T.length tc) wq := by rw [Hrge5.out]
                  have HK := Lib.hid (And.intro hk (And.intro he hx))
                  clear hk hx he
                  go_simp
                  exact HK.out
                · intro Lq wq xq hh
                  have d5 : Erg 5 (xq 5) wq := hh.val 5 (by kernel_rfl) (by kernel_rfl)
                  rw [Hrge5.out] at d5
                  simp only [hFrg, d5]
                  clear d5
                  refine .inl ⟨rfl, ?_⟩
                  unfold Reg.upon
                  have hk := Hrgk.out 6 Lq wq  hh.cls
                  have hx := Hrgx.out wq
                  have he : Erg 6 (.pointer (some ⟨tb, toff, none⟩)) wq := by rw [Hrge6.out]
                  have HK := Lib.hid (And.intro hk (And.intro he hx))
                  clear hk hx he
                  go_simp
                  exact HK.out
                · intro Lq wq xq hh
                  have d6 : Erg 6 (xq 6) wq := hh.val 6 (by kernel_rfl) (by kernel_rfl)
                  rw [Hrge6.out] at d6
                  simp only [hFrg, d6]
                  clear d6
                  refine .inl ⟨rfl, ?_⟩
                  unfold Reg.upon
                  have hc : Crg Lq wq := hh.cls
                  rw [HrghC.out] at hc
                  have h7 := HX.out wq (B.out.trans (hc.mono B.out.size))
                  clear hc
                  have hk := Hrgk.out 7 Lq wq  hh.cls
                  have hx := Hrgx.out wq
                  have he : Erg 7 (.int .i32 x0) wq := by rw [Hrge7.out]
                  have HK := Lib.hid (And.intro hk (And.intro he hx))
                  clear hk hx he
                  go_simp
                  exact HK.out
                · intro Lq wq xq hh
                  have d0 : Erg 0 (xq 0) wq := hh.val 0 (by kernel_rfl) (by kernel_rfl)
                  rw [Hrge0.out] at d0
                  have d1 : Erg 1 (xq 1) wq := hh.val 1 (by kernel_rfl) (by kernel_rfl)
                  rw [Hrge1.out] at d1
                  have d3 : Erg 3 (xq 3) wq := hh.val 3 (by kernel_rfl) (by kernel_rfl)
                  rw [Hrge3.out] at d3
                  have d7 : Erg 7 (xq 7) wq := hh.val 7 (by kernel_rfl) (by kernel_rfl)
                  rw [Hrge7.out] at d7
                  simp only [hFrg, d0, d1, d3, d7]
                  clear d0 d1 d3 d7
                  refine .inl ⟨rfl, ?_⟩
                  unfold Reg.upon
                  have hc : Crg Lq wq := hh.cls
                  rw [HrghC.out] at hc
                  go_simp
                  refine (radd_any (fun b => b ≠ g ∧ b ≠ gc) _ Lk q P x0 wq (fun b hb => by have := R.out.lt; have := hc.size; exact ⟨by omega, by omega⟩) (C.out.below hc) R.out.len.2.2 HNN.out.1 HNN.out.2).mono ?_
                  rintro e w2 hh2
                  obtain ⟨v2, rfl, ho, hb⟩ := tup3_open HAA.out hh2
                  refine ⟨_, rfl, Hrgk.out 8 Lq w2 (Hrgb.out Lq wq w2 hh.cls hb), ?_, Hrgxb.out wq w2 hb⟩
                  rw [Hrge8.out]
                  exact ⟨_, rfl, ho⟩
                · intro Lq wq xq hh
                  have d8 : Erg 8 (xq 8) wq := hh.val 8 (by kernel_rfl) (by kernel_rfl)
                  rw [Hrge8.out] at d8
                  simp only [hFrg]
                  refine .inl ⟨rfl, ?_⟩
                  unfold Reg.upon
                  go_simp
                  exact ⟨Hrgk.out 9 Lq wq hh.cls, (by rw [Hrge9.out]; exact d8), Hrgx.out _⟩
                · intro Lq wq xq hh
                  have d9 : Erg 9 (xq 9) wq := hh.val 9 (by kernel_rfl) (by kernel_rfl)
                  rw [Hrge9.out] at d9
                  simp only [hFrg]
                  refine .inl ⟨rfl, ?_⟩
                  unfold Reg.upon
                  obtain ⟨v9, e9, h9⟩ := d9
                  rw [e9]
                  go_simp
                  exact ⟨Hrgk.out 10 Lq wq hh.cls, (by rw [Hrge10.out]; exact h9), Hrgx.out _⟩
                · intro Lq wq xq hh
                  have d9 : Erg 9 (xq 9) wq := hh.val 9 (by kernel_rfl) (by kernel_rfl)
                  rw [Hrge9.out] at d9
                  simp only [hFrg]
                  refine .inl ⟨rfl, ?_⟩
                  unfold Reg.upon
                  obtain ⟨v9, e9, h9⟩ := d9
                  rw [e9]
                  go_simp
                  exact ⟨Hrgk.out 11 Lq wq hh.cls, (by rw [Hrge11.out]), Hrgx.out _⟩
                · intro Lq wq xq hh
                  have d9 : Erg 9 (xq 9) wq := hh.val 9 (by kernel_rfl) (by kernel_rfl)
                  rw [Hrge9.out] at d9
                  simp only [hFrg]
                  refine .inl ⟨rfl, ?_⟩
                  unfold Reg.upon
                  obtain ⟨v9, e9, h9⟩ := d9
                  rw [e9]
                  go_simp
                  exact ⟨Hrgk.out 12 Lq wq hh.cls, (by rw [Hrge12.out]), Hrgx.out _⟩
                · intro Lq wq xq hh
                  have d10 : Erg 10 (xq 10) wq := hh.val 10 (by kernel_rfl) (by kernel_rfl)
                  rw [Hrge10.out] at d10
                  simp only [hFrg]
                  refine .inl ⟨rfl, ?_⟩
                  unfold Reg.upon
                  go_simp
                  exact ⟨Hrgk.out 13 Lq wq hh.cls, (by rw [Hrge13.out]; exact d10), Hrgx.out _⟩
                · intro Lq wq xq hh
                  have d11 : Erg 11 (xq 11) wq := hh.val 11 (by kernel_rfl) (by kernel_rfl)
                  rw [Hrge11.out] at d11
                  simp only [hFrg, d11]
                  clear d11
                  refine .inl ⟨rfl, ?_⟩
                  unfold Reg.upon
                  have hk := Hrgk.out 14 Lq wq  hh.cls
                  have hx := Hrgx.out wq
                  have he : Erg 14 (.bool q2) wq := by rw [Hrge14.out]
                  have HK := Lib.hid (And.intro hk (And.intro he hx))
                  clear hk hx he
                  go_simp
                  exact HK.out
                · intro Lq wq xq hh
                  have d12 : Erg 12 (xq 12) wq := hh.val 12 (by kernel_rfl) (by kernel_rfl)
                  rw [Hrge12.out] at d12
                  simp only [hFrg, d12]
                  clear d12
                  refine .inl ⟨rfl, ?_⟩
                  unfold Reg.upon
                  have hk := Hrgk.out 15 Lq wq  hh.cls
                  have hx := Hrgx.out wq
                  have he : Erg 15 (.bool ok2) wq := by rw [Hrge15.out]
                  have HK := Lib.hid (And.intro hk (And.intro he hx))
                  clear hk hx he
                  go_simp
                  exact HK.out
              intro xq wrg hcrg hvrg
              rw [HrghC.out] at hcrg
              simp only [hFrg]
              have vrg13 : Erg 13 (xq 13) wrg := hvrg 13 (by decide)
              rw [Hrge13.out] at vrg13
              have vrg14 : Erg 14 (xq 14) wrg := hvrg 14 (by decide)
              rw [Hrge14.out] at vrg14
              rw [vrg14]
              have vrg15 : Erg 15 (xq 15) wrg := hvrg 15 (by decide)
              rw [Hrge15.out] at vrg15
              rw [vrg15]
              clear hvrg hFrg Hrgk Hrgx Hrgst Hrgc HrghC HrghX Hrgb Hrgxb Hrge0 Hrge1 Hrge2 Hrge3 Hrge4 Hrge5 Hrge6 Hrge7 Hrge8 Hrge9 Hrge10 Hrge11 Hrge12 Hrge13 Hrge14 Hrge15
              obtain ⟨v6, hv6⟩ : ∃ v6, v6 = xq 13 := ⟨_, rfl⟩
              rw [← hv6] at vrg13 ⊢
              obtain ⟨w6, hw6⟩ : ∃ w6, w6 = wrg := ⟨_, rfl⟩
              rw [← hw6] at vrg13 hcrg ⊢
              replace C := Lib.hid vrg13
              replace HH := Lib.hid (HH.out.below hcrg HH.out.lt)
              replace R := Lib.hid (R.out.below hcrg)
              replace B := Lib.hid (B.out.trans (hcrg.mono B.out.size))
              clear hv6 vrg14 vrg15 vrg13 hcrg hw6
              go_upto_region 27 with (fail)
              have hok : (ok2 == ok2) = true := by simp
              obtain ⟨Ergb, hErgb⟩ : ∃ EE : Nat → Value → World → Prop, EE = fun jj xx ww => match jj with
                  | 0 => xx = .pointer (some ⟨g, 0, none⟩)
                  | 1 => xx = .pointer (some ⟨wr.heap.size, 1, none⟩)
                  | 2 => xx = .int .i64 P
                  | 3 => xx = .pointer (some ⟨wr.heap.size, 3, none⟩)
                  | 4 => xx = .slice (some ⟨tb, toff, none⟩) T.length tc
                  | 5 => xx = .pointer (some ⟨tb, toff, none⟩)
                  | 6 => xx = .int .i32 x0
                  | 7 => xx = .bool ok2
                  | 8 => xx = .bool ok2
                  | 9 => xx = .bool true
                  | 10 => xx = .bool true
                  | _ => True := ⟨_, rfl⟩
              have ergb0 : ∀ xx ww, Ergb 0 xx ww = (xx = .pointer (some ⟨g, 0, none⟩)) := fun xx ww => congrFun (congrFun (congrFun hErgb 0) xx) ww
              have ergb1 : ∀ xx ww, Ergb 1 xx ww = (xx = .pointer (some ⟨wr.heap.size, 1, none⟩)) := fun xx ww => congrFun (congrFun (congrFun hErgb 1) xx) ww
              have ergb2 : ∀ xx ww, Ergb 2 xx ww = (xx = .int .i64 P) := fun xx ww => congrFun (congrFun (congrFun hErgb 2) xx) ww
              have ergb3 : ∀ xx ww, Ergb 3 xx ww = (xx = .pointer (some ⟨wr.heap.size, 3, none⟩)) := fun xx ww => congrFun (congrFun (congrFun hErgb 3) xx) ww
              have ergb4 : ∀ xx ww, Ergb 4 xx ww = (xx = .slice (some ⟨tb, toff, none⟩) T.length tc) := fun xx ww => congrFun (congrFun (congrFun hErgb 4) xx) ww
              have ergb5 : ∀ xx ww, Ergb 5 xx ww = (xx = .pointer (some ⟨tb, toff, none⟩)) := fun xx ww => congrFun (congrFun (congrFun hErgb 5) xx) ww
              have ergb6 : ∀ xx ww, Ergb 6 xx ww = (xx = .int .i32 x0) := fun xx ww => congrFun (congrFun (congrFun hErgb 6) xx) ww
              have ergb7 : ∀ xx ww, Ergb 7 xx ww = (xx = .bool ok2) := fun xx ww => congrFun (congrFun (congrFun hErgb 7) xx) ww
              have ergb8 : ∀ xx ww, Ergb 8 xx ww = (xx = .bool ok2) := fun xx ww => congrFun (congrFun (congrFun hErgb 8) xx) ww
              have ergb9 : ∀ xx ww, Ergb 9 xx ww = (xx = .bool true) := fun xx ww => congrFun (congrFun (congrFun hErgb 9) xx) ww
              have ergb10 : ∀ xx ww, Ergb 10 xx ww = (xx = .bool true) := fun xx ww => congrFun (congrFun (congrFun hErgb 10) xx) ww
              obtain ⟨Crgb, hCrgb⟩ : ∃ CC : Array Bool → World → Prop, CC = fun L8 w' => Upd (fun b => b = g ∨ b = gc) w6 w' ∧ (Mix.one L8 7 = 0 → RowAt (fun _ => True) w' w1.heap.size g gc Lk q) ∧ (Mix.one L8 7 = 1 → RowAt (fun _ => True) w' w1.heap.size g gc L2 q2) := ⟨_, rfl⟩
              have krgb : ∀ i L w, i ≠ 7 →  Crgb L w → Crgb (L.setIfInBounds i true) w := by
                intro i L w q7 h
                rw [hCrgb] at h ⊢
                simp only [Mix.one_ne q7]; exact h
              obtain ⟨Xrgb, hXrgb⟩ : ∃ XX : World → World → Prop, XX = fun _ _ => True := ⟨_, rfl⟩
              have xrgb : ∀ w, Xrgb w w := fun w => by rw [hXrgb]; exact trivial
              have strgb : ∀ j x w w1, Xrgb w w1 → Ergb j x w → Ergb j x w1 := by
                intro j x w w1 hx h
                rw [hXrgb] at hx
                match j with
                | 0 => rw [ergb0] at h ⊢; exact h
                | 1 => rw [ergb1] at h ⊢; exact h
                | 2 => rw [ergb2] at h ⊢; exact h
                | 3 => rw [ergb3] at h ⊢; exact h
                | 4 => rw [ergb4] at h ⊢; exact h
                | 5 => rw [ergb5] at h ⊢; exact h
                | 6 => rw [ergb6] at h ⊢; exact h
                | 7 => rw [ergb7] at h ⊢; exact h
                | 8 => rw [ergb8] at h ⊢; exact h
                | 9 => rw [ergb9] at h ⊢; exact h
                | 10 => rw [ergb10] at h ⊢; exact h
                | j + 11 => rw [hErgb]; trivial
              have crgb : Crgb (Array.replicate 11 false) w6.drew := by rw [hCrgb]; exact ⟨(Upd.refl _ _).drew, fun _ => R.out.below (Below.refl _ _).drew, fun e => absurd e (by decide)⟩
              have brgb : ∀ L w w1, Crgb L w → Below w.heap.size w w1 → Crgb L w1 := by
                intro L w w1 h hb
                rw [hCrgb] at h ⊢
                exact ⟨h.1.trans (.ofBelow hb), fun e => (h.2.1 e).below hb, fun e => (h.2.2 e).below hb⟩
              have xbrgb : ∀ w w1, Below w.heap.size w w1 → Xrgb w w1 := by
                intro w w1 hb
                rw [hXrgb]
                trivial
              have Hrgbb := Lib.hid brgb
              have Hrgbxb := Lib.hid xbrgb
              clear brgb xbrgb
              clear hErgb
              have Hrgbk := Lib.hid krgb
              have Hrgbx := Lib.hid xrgb
              have Hrgbst := Lib.hid strgb
              have Hrgbc := Lib.hid crgb
              have HrgbhC := Lib.hid hCrgb
              have HrgbhX := Lib.hid hXrgb
              have Hrgbe0 := Lib.hid ergb0
              have Hrgbe1 := Lib.hid ergb1
              have Hrgbe2 := Lib.hid ergb2
              have Hrgbe3 := Lib.hid ergb3
              have Hrgbe4 := Lib.hid ergb4
              have Hrgbe5 := Lib.hid ergb5
              have Hrgbe6 := Lib.hid ergb6
              have Hrgbe7 := Lib.hid ergb7
              have Hrgbe8 := Lib.hid ergb8
              have Hrgbe9 := Lib.hid ergb9
              have Hrgbe10 := Lib.hid ergb10
              clear krgb xrgb strgb crgb hCrgb hXrgb ergb0 ergb1 ergb2 ergb3 ergb4 ergb5 ergb6 ergb7 ergb8 ergb9 ergb10
              go_wp2_with fail
              refine Reg.regionF Ergb Crgb Xrgb Hrgbst.out (by kernel_rfl) (by kernel_rfl) (by kernel_rfl) Hrgbc.out (fun Frgb hFrgb => ?_)
              simp only [Reg.frame, Reg.dsts, List.map_cons, List.map_nil, Mix.put_lit, List.set_cons_succ, List.set_cons_zero, Nat.zero_add, Nat.reduceAdd] at hFrgb
              refine ⟨?_, ?_⟩
              · refine ⟨?_, ?_, ?_, ?_, ?_, ?_, ?_, ?_, ?_, ?_, ?_, trivial⟩
                · intro Lq wq xq hh
                  simp only [hFrgb]
                  refine .inl ⟨rfl, ?_⟩
                  unfold Reg.upon
                  have hk := Hrgbk.out 0 Lq wq (by decide)  hh.cls
                  have hx := Hrgbx.out wq
                  have he : Ergb 0 (.pointer (some ⟨g, 0, none⟩)) wq := by rw [Hrgbe0.out]
                  have HK := Lib.hid (And.intro hk (And.intro he hx))
                  clear hk hx he
                  go_simp
                  exact HK.out
                · intro Lq wq xq hh
                  simp only [hFrgb]
                  refine .inl ⟨rfl, ?_⟩
                  unfold Reg.upon
                  have hk := Hrgbk.out 1 Lq wq (by decide)  hh.cls
                  have hx := Hrgbx.out wq
                  have he : Ergb 1 (.pointer (some ⟨wr.heap.size, 1, none⟩)) wq := by rw [Hrgbe1.out]
                  have HK := Lib.hid (And.intro hk (And.intro he hx))
                  clear hk hx he
                  go_simp
                  exact HK.out
                · intro Lq wq xq hh
                  have d1 : Ergb 1 (xq 1) wq := hh.val 1 (by kernel_rfl) (by kernel_rfl)
                  rw [Hrgbe1.out] at d1
                  simp only [hFrgb, d1]
                  clear d1
                  refine .inl ⟨rfl, ?_⟩
                  unfold Reg.upon
                  have hc : Crgb Lq wq := hh.cls
                  rw [HrgbhC.out] at hc
                  have h2 := (hc.1.keep.has HH.out (fun e => by have := HGG.out; rcases e with e | e <;> omega)).cell 1 _ rfl
                  clear hc
                  have hk := Hrgbk.out 2 Lq wq (by decide)  hh.cls
                  have hx := Hrgbx.out wq
                  have he : Ergb 2 (.int .i64 P) wq := by rw [Hrgbe2.out]
                  have HK := Lib.hid (And.intro hk (And.intro he hx))
                  clear hk hx he
                  go_simp
                  exact HK.out
                · intro Lq wq xq hh
                  simp only [hFrgb]
                  refine .inl ⟨rfl, ?_⟩
                  unfold Reg.upon
                  have hk := Hrgbk.out 3 Lq wq (by decide)  hh.cls
                  have hx := Hrgbx.out wq
                  have he : Ergb 3 (.pointer (some ⟨wr.heap.size, 3, none⟩)) wq := by rw [Hrgbe3.out]
                  have HK := Lib.hid (And.intro hk (And.intro he hx))
                  clear hk hx he
                  go_simp
                  exact HK.out
                · intro Lq wq xq hh
                  have d3 : Ergb 3 (xq 3) wq := hh.val 3 (by kernel_rfl) (by kernel_rfl)
                  rw [Hrgbe3.out] at d3
                  simp only [hFrgb, d3]
                  clear d3
                  refine .inl ⟨rfl, ?_⟩
                  unfold Reg.upon
                  have hc : Crgb Lq wq := hh.cls
                  rw [HrgbhC.out] at hc
                  have h4 := (hc.1.keep.has HH.out (fun e => by have := HGG.out; rcases e with e | e <;> omega)).cell 3 _ rfl
                  clear hc
                  have hk := Hrgbk.out 4 Lq wq (by decide)  hh.cls
                  have hx := Hrgbx.out wq
                  have he : Ergb 4 (.slice (some ⟨tb, toff, none⟩) T.length tc) wq := by rw [Hrgbe4.out]
                  have HK := Lib.hid (And.intro hk (And.intro he hx))
                  clear hk hx he
                  go_simp
                  exact HK.out
                · intro Lq wq xq hh
                  have d4 : Ergb 4 (xq 4) wq := hh.val 4 (by kernel_rfl) (by kernel_rfl)
                  rw [Hrgbe4.out] at d4
                  simp only [hFrgb, d4]
                  clear d4
                  refine .inl ⟨rfl, ?_⟩
                  unfold Reg.upon
                  have hk := Hrgbk.out 5 Lq wq (by decide)  hh.cls
                  have hx := Hrgbx.out wq
                  have he : Ergb 5 (.pointer (some ⟨tb, toff, none⟩)) wq := by rw [Hrgbe5.out]
                  have HK := Lib.hid (And.intro hk (And.intro he hx))
                  clear hk hx he
                  go_simp
                  exact HK.out
                · intro Lq wq xq hh
                  have d5 : Ergb 5 (xq 5) wq := hh.val 5 (by kernel_rfl) (by kernel_rfl)
                  rw [Hrgbe5.out] at d5
                  simp only [hFrgb, d5]
                  clear d5
                  refine .inl ⟨rfl, ?_⟩
                  unfold Reg.upon
                  have hc : Crgb Lq wq := hh.cls
                  rw [HrgbhC.out] at hc
                  have h6 := HX.out wq (B.out.upd hc.1 B.out.size (fun x e => by have := HGG.out; rcases e with e | e <;> omega))
                  clear hc
                  have hk := Hrgbk.out 6 Lq wq (by decide)  hh.cls
                  have hx := Hrgbx.out wq
                  have he : Ergb 6 (.int .i32 x0) wq := by rw [Hrgbe6.out]
                  have HK := Lib.hid (And.intro hk (And.intro he hx))
                  clear hk hx he
                  go_simp
                  exact HK.out
                · intro Lq wq xq hh
                  have d0 : Ergb 0 (xq 0) wq := hh.val 0 (by kernel_rfl) (by kernel_rfl)
                  rw [Hrgbe0.out] at d0
                  have d2 : Ergb 2 (xq 2) wq := hh.val 2 (by kernel_rfl) (by kernel_rfl)
                  rw [Hrgbe2.out] at d2
                  have d6 : Ergb 6 (xq 6) wq := hh.val 6 (by kernel_rfl) (by kernel_rfl)
                  rw [Hrgbe6.out] at d6
                  simp only [hFrgb, d0, d2, d6]
                  clear d0 d2 d6
                  refine .inl ⟨rfl, ?_⟩
                  unfold Reg.upon
                  have hc : Crgb Lq wq := hh.cls
                  rw [HrgbhC.out] at hc
                  have h7 := hc.2.1 hh.un
                  go_simp
                  refine (madd_any _ g gc Lk q P x0 wq h7).mono ?_
                  rintro e w2 hh2
                  obtain ⟨rfl, h1, u1⟩ := turn3_open HAA.out hh2
                  refine ⟨_, rfl, ?_, (by rw [Hrgbe7.out]), (by rw [HrgbhX.out]; trivial)⟩
                  rw [HrgbhC.out]
                  dsimp only
                  refine ⟨hc.1.trans u1, fun e => ?_, fun _ => h1⟩
                  rw [Mix.one_set (by rw [hh.size]; decide)] at e
                  exact absurd e (by decide)
                · intro Lq wq xq hh
                  simp only [hFrgb]
                  refine .inl ⟨rfl, ?_⟩
                  unfold Reg.upon
                  have hk := Hrgbk.out 8 Lq wq (by decide)  hh.cls
                  have hx := Hrgbx.out wq
                  have he : Ergb 8 (.bool ok2) wq := by rw [Hrgbe8.out]
                  have HK := Lib.hid (And.intro hk (And.intro he hx))
                  clear hk hx he
                  go_simp
                  exact HK.out
                · intro Lq wq xq hh
                  have d7 : Ergb 7 (xq 7) wq := hh.val 7 (by kernel_rfl) (by kernel_rfl)
                  rw [Hrgbe7.out] at d7
                  have d8 : Ergb 8 (xq 8) wq := hh.val 8 (by kernel_rfl) (by kernel_rfl)
                  rw [Hrgbe8.out] at d8
                  simp only [hFrgb, d7, d8]
                  clear d7 d8
                  refine .inl ⟨rfl, ?_⟩
                  unfold Reg.upon
                  have hk := Hrgbk.out 9 Lq wq (by decide)  hh.cls
                  have hx := Hrgbx.out wq
                  have he : Ergb 9 (.bool true) wq := by rw [Hrgbe9.out]
                  have HK := Lib.hid (And.intro hk (And.intro he hx))
                  clear hk hx he
                  go_simp
                  exact HK.out
                · intro Lq wq xq hh
                  have d9 : Ergb 9 (xq 9) wq := hh.val 9 (by kernel_rfl) (by kernel_rfl)
                  rw [Hrgbe9.out] at d9
                  simp only [hFrgb, d9]
                  clear d9
                  refine .inl ⟨rfl, ?_⟩
                  unfold Reg.upon
                  have hk := Hrgbk.out 10 Lq wq (by decide)  hh.cls
                  have hx := Hrgbx.out wq
                  have he : Ergb 10 (.bool true) wq := by rw [Hrgbe10.out]
                  have HK := Lib.hid (And.intro hk (And.intro he hx))
                  clear hk hx he
                  go_simp
                  exact HK.out
              intro xq wrgb hcrgb hvrgb
              rw [HrgbhC.out] at hcrgb
              simp only [hFrgb]
              have vrgb10 : Ergb 10 (xq 10) wrgb := hvrgb 10 (by decide)
              rw [Hrgbe10.out] at vrgb10
              rw [vrgb10]
              clear hvrgb hFrgb Hrgbk Hrgbx Hrgbst Hrgbc HrgbhC HrgbhX Hrgbb Hrgbxb Hrgbe0 Hrgbe1 Hrgbe2 Hrgbe3 Hrgbe4 Hrgbe5 Hrgbe6 Hrgbe7 Hrgbe8 Hrgbe9 Hrgbe10
              obtain ⟨w7, hw7⟩ : ∃ w7, w7 = wrgb := ⟨_, rfl⟩
              rw [← hw7] at hcrgb ⊢
              have hr7 := hcrgb.2.2 (by kernel_rfl)
              have u7 := hcrgb.1
              replace R := Lib.hid hr7
              replace C := Lib.hid (C.out.upd u7 (fun b hb e => by rcases e with e | e; exact hb.1 e; exact hb.2 e))
              replace B := Lib.hid (B.out.upd u7 B.out.size (fun x e => by have := HGG.out; rcases e with e | e <;> omega))
              replace HH := Lib.hid (u7.keep.has HH.out (fun e => by have := HGG.out; rcases e with e | e <;> omega))
              clear hr7 u7 hcrgb vrgb10 hw7
              go_wp2_with fail
              refine (rcells_any _ _ g gc _ _ _ R.out).mono ?_
              rintro e wa ⟨va, rfl, hoa, ba⟩
              have HA := Lib.hid (hoa.held (fun b hb _ => hb))
              replace HH := Lib.hid (HH.out.below ba HH.out.lt)
              replace B := Lib.hid (B.out.trans (ba.mono B.out.size))
              replace R := Lib.hid (R.out.below ba)
              replace C := Lib.hid (C.out.below ba)
              clear ba
              clear hoa
              go_wp2_with fail
              refine (rcsame_any _ _ _ _ _ _ _ HA.out C.out).mono ?_
              rintro e wb ⟨rfl, bb⟩
              rw [sameC_self]
              replace HH := Lib.hid (HH.out.below bb HH.out.lt)
              replace B := Lib.hid (B.out.trans (bb.mono B.out.size))
              replace R := Lib.hid (R.out.below bb)
              replace C := Lib.hid (C.out.below bb)
              clear bb
              go_wp2_with fail
              refine (rwrap_any _ _ g gc _ _ _ R.out).mono ?_
              rintro e wd ⟨rfl, rfl⟩
              have hqq : (q2 != q2) = false := by simp
              have a1 := HH.out.cell 1 _ rfl
              go_wp2_with fail
              refine (lawat_any _ _ _ g gc _ _ _ _ R.out C.out).mono ?_
              rintro e wd ⟨rfl, bd⟩
              replace B := Lib.hid (B.out.trans (bd.mono B.out.size))
              replace R := Lib.hid (R.out.below bd)
              replace C := Lib.hid (C.out.below bd)
              clear bd
              clear a1
              go_wp2_with fail
              refine (lawat_any _ _ _ g gc _ _ _ _ R.out C.out).mono ?_
              rintro e we ⟨rfl, be⟩
              replace B := Lib.hid (B.out.trans (be.mono B.out.size))
              replace R := Lib.hid (R.out.below be)
              replace C := Lib.hid (C.out.below be)
              clear be
              clear hqq
              go_wp2
              go_roundw
              case rel => exact ⟨k + 1, L2, q2, by omega, by go_num, rfl, R.out, HL2, C.out, B.out⟩
              case measure => simp [intOf] <;> omega
            by_cases hK2 : K = 1
            · have hT : T = [] := by
                cases T with
                | nil => rfl
                | cons y T => exact absurd ⟨hK2, by simp⟩ hK1
              subst hT
              have hk1 : (K == 1) = true := by rw [beq_iff_eq]; exact hK2
              clear hK1 hK2
              have hlen2 := wid_len Lk q P
              obtain ⟨⟨L2, q2, ok2⟩, hA⟩ : ∃ y, y = widL Lk q P := ⟨_, rfl⟩
              rw [← hA] at hlen2
              have HL2 := Lib.hid (show L2.length = N from hlen2.trans HLN.out)
              have HAA := Lib.hid hA
              clear hlen2 hA
              have a0 := HH.out.cell 0 _ rfl
              have a1 := HH.out.cell 1 _ rfl
              have a3 := HH.out.cell 3 _ rfl
              go_wp2_with fail
              refine (rmwid_any (fun b => b ≠ g ∧ b ≠ gc) _ Lk q P wc (fun b hb => by have := R.out.lt; exact ⟨by omega, by omega⟩) C.out HNN.out.1 HNN.out.2).mono ?_
              rintro e w4 hh4
              obtain ⟨v4, rfl, h4, b4⟩ := tup3_open HAA.out hh4
              replace C := Lib.hid h4
              replace HH := Lib.hid (HH.out.below b4 HH.out.lt)
              replace B := Lib.hid (B.out.trans (b4.mono B.out.size))
              replace R := Lib.hid (R.out.below b4)
              clear b4
              clear h4 hh4 a0 a1 a3
              have a1 := HH.out.cell 1 _ rfl
              have hok : (ok2 == ok2) = true := by simp
              go_wp2_with fail
              refine (mwid_any _ g gc Lk q P w4 R.out).mono ?_
              rintro e w5 hh5
              obtain ⟨rfl, hr5, u5⟩ := turn3_open HAA.out hh5
              replace R := Lib.hid hr5
              replace C := Lib.hid (C.out.upd u5 (fun b hb e => by rcases e with e | e; exact hb.1 e; exact hb.2 e))
              replace B := Lib.hid (B.out.upd u5 B.out.size (fun x e => by have := HGG.out; rcases e with e | e <;> omega))
              replace HH := Lib.hid (u5.keep.has HH.out (fun e => by have := HGG.out; rcases e with e | e <;> omega))
              clear hr5 u5 hh5 a1
              go_wp2_with fail
              refine (rcells_any _ _ g gc _ _ _ R.out).mono ?_
              rintro e wa ⟨va, rfl, hoa, ba⟩
              have HA := Lib.hid (hoa.held (fun b hb _ => hb))
              replace HH := Lib.hid (HH.out.below ba HH.out.lt)
              replace B := Lib.hid (B.out.trans (ba.mono B.out.size))
              replace R := Lib.hid (R.out.below ba)
              replace C := Lib.hid (C.out.below ba)
              clear ba
              clear hoa
              go_wp2_with fail
              refine (rcsame_any _ _ _ _ _ _ _ HA.out C.out).mono ?_
              rintro e wb ⟨rfl, bb⟩
              rw [sameC_self]
              replace HH := Lib.hid (HH.out.below bb HH.out.lt)
              replace B := Lib.hid (B.out.trans (bb.mono B.out.size))
              replace R := Lib.hid (R.out.below bb)
              replace C := Lib.hid (C.out.below bb)
              clear bb
              go_wp2_with fail
              refine (rwrap_any _ _ g gc _ _ _ R.out).mono ?_
              rintro e wd ⟨rfl, rfl⟩
              have hqq : (q2 != q2) = false := by simp
              have a1 := HH.out.cell 1 _ rfl
              go_wp2_with fail
              refine (lawat_any _ _ _ g gc _ _ _ _ R.out C.out).mono ?_
              rintro e wd ⟨rfl, bd⟩
              replace B := Lib.hid (B.out.trans (bd.mono B.out.size))
              replace R := Lib.hid (R.out.below bd)
              replace C := Lib.hid (C.out.below bd)
              clear bd
              clear a1
              go_wp2_with fail
              refine (lawat_any _ _ _ g gc _ _ _ _ R.out C.out).mono ?_
              rintro e we ⟨rfl, be⟩
              replace B := Lib.hid (B.out.trans (be.mono B.out.size))
              replace R := Lib.hid (R.out.below be)
              replace C := Lib.hid (C.out.below be)
              clear be
              clear hqq
              go_wp2
              go_roundw
              case rel => exact ⟨k + 1, L2, q2, by omega, by go_num, rfl, R.out, HL2, C.out, B.out⟩
              case measure => simp [intOf] <;> omega
            have hk1 : (K == 1) = false := by rw [beq_eq_false_iff_ne]; exact hK2
            clear hK1 hK2
            have hlen2 := wid_len Lk q P
            obtain ⟨⟨L2, q2, ok2⟩, hA⟩ : ∃ y, y = widL Lk q P := ⟨_, rfl⟩
            rw [← hA] at hlen2
            have HL2 := Lib.hid (show L2.length = N from hlen2.trans HLN.out)
            have HAA := Lib.hid hA
            clear hlen2 hA
            have a0 := HH.out.cell 0 _ rfl
            have a1 := HH.out.cell 1 _ rfl
            have a3 := HH.out.cell 3 _ rfl
            go_wp2_with fail
            refine (rmwid_any (fun b => b ≠ g ∧ b ≠ gc) _ Lk q P wc (fun b hb => by have := R.out.lt; exact ⟨by omega, by omega⟩) C.out HNN.out.1 HNN.out.2).mono ?_
            rintro e w4 hh4
            obtain ⟨v4, rfl, h4, b4⟩ := tup3_open HAA.out hh4
            replace C := Lib.hid h4
            replace HH := Lib.hid (HH.out.below b4 HH.out.lt)
            replace B := Lib.hid (B.out.trans (b4.mono B.out.size))
            replace R := Lib.hid (R.out.below b4)
            clear b4
            clear h4 hh4 a0 a1 a3
            have a1 := HH.out.cell 1 _ rfl
            have hok : (ok2 == ok2) = true := by simp
            go_wp2_with fail
            refine (mwid_any _ g gc Lk q P w4 R.out).mono ?_
            rintro e w5 hh5
            obtain ⟨rfl, hr5, u5⟩ := turn3_open HAA.out hh5
            replace R := Lib.hid hr5
            replace C := Lib.hid (C.out.upd u5 (fun b hb e => by rcases e with e | e; exact hb.1 e; exact hb.2 e))
            replace B := Lib.hid (B.out.upd u5 B.out.size (fun x e => by have := HGG.out; rcases e with e | e <;> omega))
            replace HH := Lib.hid (u5.keep.has HH.out (fun e => by have := HGG.out; rcases e with e | e <;> omega))
            clear hr5 u5 hh5 a1
            go_wp2_with fail
            refine (rcells_any _ _ g gc _ _ _ R.out).mono ?_
            rintro e wa ⟨va, rfl, hoa, ba⟩
            have HA := Lib.hid (hoa.held (fun b hb _ => hb))
            replace HH := Lib.hid (HH.out.below ba HH.out.lt)
            replace B := Lib.hid (B.out.trans (ba.mono B.out.size))
            replace R := Lib.hid (R.out.below ba)
            replace C := Lib.hid (C.out.below ba)
            clear ba
            clear hoa
            go_wp2_with fail
            refine (rcsame_any _ _ _ _ _ _ _ HA.out C.out).mono ?_
            rintro e wb ⟨rfl, bb⟩
            rw [sameC_self]
            replace HH := Lib.hid (HH.out.below bb HH.out.lt)
            replace B := Lib.hid (B.out.trans (bb.mono B.out.size))
            replace R := Lib.hid (R.out.below bb)
            replace C := Lib.hid (C.out.below bb)
            clear bb
            go_wp2_with fail
            refine (rwrap_any _ _ g gc _ _ _ R.out).mono ?_
            rintro e wd ⟨rfl, rfl⟩
            have hqq : (q2 != q2) = false := by simp
            have a1 := HH.out.cell 1 _ rfl
            go_wp2_with fail
            refine (lawat_any _ _ _ g gc _ _ _ _ R.out C.out).mono ?_
            rintro e wd ⟨rfl, bd⟩
            replace B := Lib.hid (B.out.trans (bd.mono B.out.size))
            replace R := Lib.hid (R.out.below bd)
            replace C := Lib.hid (C.out.below bd)
            clear bd
            clear a1
            go_wp2_with fail
            refine (lawat_any _ _ _ g gc _ _ _ _ R.out C.out).mono ?_
            rintro e we ⟨rfl, be⟩
            replace B := Lib.hid (B.out.trans (be.mono B.out.size))
            replace R := Lib.hid (R.out.below be)
            replace C := Lib.hid (C.out.below be)
            clear be
            clear hqq
            go_wp2
            go_roundw
            case rel => exact ⟨k + 1, L2, q2, by omega, by go_num, rfl, R.out, HL2, C.out, B.out⟩
            case measure => simp [intOf] <;> omega
      · go_wp2_with fail
        refine (madd_nil _ _ _).mono ?_
        rintro e w4 ⟨rfl, b4⟩
        replace B := Lib.hid (B.out.trans (b4.mono B.out.size))
        clear b4
        go_wp2_with fail
        refine (mwid_nil _ _).mono ?_
        rintro e w5 ⟨rfl, b5⟩
        replace B := Lib.hid (B.out.trans (b5.mono B.out.size))
        clear b5
        obtain ⟨W6, hW6⟩ : ∃ W6, W6 = w5.alloc (.cells #[.int .i32 65] 21) := ⟨_, rfl⟩
        have b6 : Below w5.heap.size w5 W6 := by rw [hW6]; exact (Below.refl _ _).alloc (Nat.le_refl _) _
        have ht : HeldE (intE .i32) (fun _ => True) W6 (.slice (some ⟨w5.heap.size, 0, none⟩) 1 1) [65] := by rw [hW6]; exact heldE_one (Y := fun _ => False) [.int .i32 65] 65 rfl (fun _ _ h => h.elim) trivial
        replace B := Lib.hid (B.out.trans (b6.mono B.out.size))
        clear b6
        have HP := Lib.hid (mput_nil sa _ 0 1 _ _ W6 (HSA.out.below B.out) ht)
        subst hW6
        clear hr hcv hbw ht
        go_wp2_with fail
        refine HP.out.mono ?_
        rintro e w7 ⟨rfl, b7⟩
        replace B := Lib.hid (B.out.trans (b7.mono B.out.size))
        clear b7
        clear HP
        go_wp2_with fail
        refine (code_sent sa w7 (HSA.out.below B.out) 2 (by decide)).mono ?_
        rintro e w8 ⟨rfl, rfl⟩
        go_wp2
        go_ret
        exact ⟨(ret_eq (by first | rfl | (simp <;> omega))), B.out⟩
theorem acts_opens : Opens Tryd.prog actE (fun x => (Lit.int .i64 x.1).wf = true ∧ (Lit.int .i64 x.2.1).wf = true ∧ (Lit.int .i64 x.2.2.1).wf = true ∧ (∀ n ∈ x.2.2.2.1, (Lit.int .i32 n).wf = true) ∧ True) 41 :=
  opens_five Tryd.underlying41 (by kernel_rfl) rfl rfl rfl rfl rfl (opens_int Tryd.underlying3 (by kernel_rfl)) (opens_int Tryd.underlying3 (by kernel_rfl)) (opens_int Tryd.underlying3 (by kernel_rfl)) (opens_slice Tryd.underlying25 (by kernel_rfl) (by decide) (opens_int Tryd.underlying21 (by kernel_rfl))) (opens_bool Tryd.underlying4 (by kernel_rfl))
set_option maxRecDepth 100000 in
theorem walk {H : Type} {enc : TypeId × Value → H} (W : World) (n : Int) (_ : (Lit.int .i64 n).wf = true) (u : Value) {base' : Nat} {d' : DataW H} {p' : List MemPlace} (hv' : Value.okWide Tryd.prog W .any base' 37 u) (h' : DataW.Trod enc Tryd.prog W 0 (fun _ => true) true 37 u d' p') (m : Int) (_ : (Lit.int .i64 m).wf = true) (hL : laidMetH Tryd.prog Rows.markPlaysRow.laid W) : Calls Tryd.prog 4 #[.int .i64 n, u, .int .i64 m] W (Yes W) := by
  obtain ⟨M, hM, _⟩ := opens_arg Tryd.underlying37 (by kernel_rfl) (by decide) acts_opens hv' h'
  obtain ⟨sa, hsa⟩ := sents_of_row hL
  exact walkH W n u M _ hM m sa hsa

theorem door_met (os : Os) : laidMetH Tryd.prog Rows.markPlaysRow.laid ((World.doorLaid Tryd.prog 400 os).forCall (fun _ _ => 0) ⟨#[], #[.int .i64 0, .slice none 0 0, .int .i64 0], []⟩).memory :=
  laidMetH_of_parts3 (fuel := 8) (laidMet_of_run' 8 (by kernel_rfl) (by kernel_rfl)) (by kernel_rfl) (by kernel_rfl)

set_option maxRecDepth 100000 in
theorem lifted (os : Os) (started : os.Started) (H : Type) (enc : TypeId × Value → H) :
    ReturnsInHanded {} Tryd.checked os 4 .any (fun w args => (Rows.markPlaysSpec.pre enc Tryd.prog Tryd.f4 [] false w args ∧ laidMetH Tryd.prog Rows.markPlaysRow.laid w) ∧ sizedMet enc Tryd.prog Tryd.f4 (OpenSpec.ofChange Rows.markPlaysSpec) false w args)
      (Rows.markPlaysSpec.post enc Tryd.prog Tryd.f4 false true false false) := by
  refine law_frame (C := Tryd.checked) (tb := 4) (by kernel_rfl) started (by kernel_rfl) Tryd.func4 (by kernel_rfl) (by kernel_rfl) Tryd.underlying4 rfl
    (by rw [Tryd.params4]; intro t ht; simp at ht; rcases ht with rfl | rfl | rfl <;> exact ⟨by kernel_rfl, of_decide_eq_true (by kernel_rfl)⟩)
    (by rw [Tryd.params4]; intro ds hd; match ds, hd with | [_, _, _], _ => rfl)
    (ChangeSpec.witness_shaped (enc := enc) (C := Tryd.checked) (os := os) (X := fun w _ => laidMetH Tryd.prog Rows.markPlaysRow.laid w) false (World.doorLaid Tryd.prog 400 os) #[.int .i64 0, .slice none 0 0, .int .i64 0] 8 rfl (World.shaped_of_RefB (by kernel_rfl) (by kernel_rfl)) (by kernel_rfl) (by kernel_rfl) (by kernel_rfl) (door_met os)) ?_
  intro W base args ds before hval hA hsz hL
  rw [Tryd.params4] at hA hval
  obtain ⟨v0, vs0, d0, ds0, p0, q0, hargs, rfl, rfl, h0, r0⟩ := trodAll_cons hA
  obtain ⟨v1, vs1, d1, ds1, p1, q1, rfl, rfl, rfl, h1, r1⟩ := trodAll_cons r0
  obtain ⟨v2, vs2, d2, ds2, p2, q2, rfl, rfl, rfl, h2, r2⟩ := trodAll_cons r1
  obtain ⟨rfl, rfl, rfl⟩ := trodAll_nil r2
  obtain rfl : args = #[v0, v1, v2] := by cases args; simp_all
  obtain ⟨x0, rfl, rfl, rfl, wx0⟩ := open_int Tryd.underlying3 (hval 0 3 v0 rfl rfl) h0
  obtain ⟨x2, rfl, rfl, rfl, wx2⟩ := open_int Tryd.underlying3 (hval 2 3 v2 rfl rfl) h2
  exact walk W x0 wx0 v1 (hval 1 37 v1 rfl rfl) h1 x2 wx2 hL

theorem said : Rows.MarkPlaysSaid :=
  OpenClaim.holds_of_wide 4 Tryd.f4 rfl rfl rfl rfl rfl rfl rfl ⟨rfl, rfl, rfl, rfl, rfl⟩ rfl rfl rfl rfl rfl (by kernel_rfl) Tryd.func4 (by kernel_rfl)
    (of_decide_eq_true (by kernel_rfl)) (by unfold Func.isWrapper; first | (rw [if_pos (by decide +kernel)]; kernel_rfl) | (rw [if_neg (by decide +kernel)]; exact ⟨rfl, rfl⟩))
    (fun os started H enc _ => lifted os started H enc)

theorem plain (f : FuncId) (fn : Func) (hf : Tryd.pinned.checked.prog.funcNamed "linotype/linotypelaw25.MarkPlays" = some f) (hfn : Tryd.pinned.checked.prog.funcs[f]? = some fn) :
    true = Tryd.pinned.checked.prog.looks [] ∧ ∀ (j : Nat) t, fn.params[j]? = some t → Tryd.pinned.checked.prog.wantsStandIn t = false := by
  obtain rfl : f = 4 := Option.some.inj ((show Tryd.prog.funcNamed "linotype/linotypelaw25.MarkPlays" = some 4 by kernel_rfl).symm.trans hf) |>.symm
  obtain rfl : fn = Tryd.f4 := (Option.some.inj (Tryd.func4.symm.trans hfn)).symm
  refine ⟨by kernel_rfl, fun j t ht => ?_⟩
  rw [Tryd.params4] at ht
  have hm : t ∈ [3, 37, 3] := by simpa using Array.mem_of_getElem? ht
  have hall : ([3, 37, 3].all fun u => !Tryd.prog.wantsStandIn u) = true := by kernel_rfl
  exact (show Tryd.prog.wantsStandIn t = false by simpa using List.all_eq_true.1 hall t hm)

/-- THE CARD. -/
theorem card : Rows.MarkPlaysCardSaid :=
  Claim7.holds_tied_plain_at .later [] _ _ _ _ said (fun _ h => by cases h) (by kernel_rfl) (fun _ h => by cases h) markPlays_row_tie rfl ⟨rfl, rfl⟩ (by kernel_rfl) rfl plain (by kernel_rfl)
#print axioms card

end Go.Proofs.YtomfclkldmmmgaaDoor.lawMarkPlays
