/- How wide a row of numbers with properties is; the reference's Row. -/
import Derived.Test.YtoeggiplcaegoaaGreatDoorMg5
import Derived.Test.YtoeggiplcaegoaaGreatDoorMg1
namespace Go.Proofs.YtoeggiplcaegoaaGreatDoor
open Go.RowKit Go.ChangeShapes Go.WideShapes
def picAt (ps : List Pr) : Nat → Bool
  | 0 => false
  | k + 1 => (ps.getD k Pr.none).pc
def condW (xs : List Int) (ps : List Pr) (i : Nat) : Bool := widB (decide (0 < i)) (picAt ps i) (xs.getD i 0) (ps.getD i Pr.none).br (ps.getD i Pr.none).pc (ps.getD i Pr.none).ea
def anyW (xs : List Int) (ps : List Pr) : Nat → Bool
  | 0 => false
  | k + 1 => anyW xs ps k || condW xs ps k
def rowW (xs : List Int) (ps : List Pr) (n : Nat) : Int := if anyW xs ps n = true then 2 else 1
theorem anyW_mono {xs : List Int} {ps : List Pr} {k n : Nat} (h : k ≤ n) (ha : anyW xs ps k = true) : anyW xs ps n = true := by
  induction n with
  | zero => obtain rfl : k = 0 := by omega
            exact ha
  | succ n ih =>
    by_cases e : k = n + 1
    · subst e; exact ha
    · show (anyW xs ps n || condW xs ps n) = true
      rw [ih (by omega)]; rfl
theorem anyW_hit {xs : List Int} {ps : List Pr} {k n : Nat} (h : k < n) (hc : condW xs ps k = true) : rowW xs ps n = 2 := by
  unfold rowW
  rw [if_pos (anyW_mono (k := k + 1) (by omega) (by show (anyW xs ps k || condW xs ps k) = true; rw [hc]; simp))]
theorem cond_zero (xs : List Int) (ps : List Pr) : condW xs ps 0 = (basewI (ps.getD 0 Pr.none).br (ps.getD 0 Pr.none).ea == 2) := by
  unfold condW widB picAt
  simp
theorem cond_cases (r br : Int) (pic pc : Bool) (ea : Int) : ((basewI br ea == 2) = true ∧ widB true pic r br pc ea = true) ∨ ((basewI br ea == 2) = false ∧ (r == 65039) = true ∧ pic = true ∧ widB true pic r br pc ea = true)
    ∨ ((basewI br ea == 2) = false ∧ ((r == 65039) = true ∧ pic = false ∨ (r == 65039) = false) ∧ pc = true ∧ widB true pic r br pc ea = true) ∨ ((basewI br ea == 2) = false ∧ ((r == 65039) = true ∧ pic = false ∨ (r == 65039) = false) ∧ pc = false ∧ (br == 6) = true ∧ widB true pic r br pc ea = true)
    ∨ ((basewI br ea == 2) = false ∧ ((r == 65039) = true ∧ pic = false ∨ (r == 65039) = false) ∧ pc = false ∧ (br == 6) = false ∧ widB true pic r br pc ea = false) := by
  unfold widB
  cases h1 : (basewI br ea == 2) <;> cases h2 : (r == 65039) <;> cases pic <;> cases h3 : (br == 6) <;> cases pc <;> simp
set_option maxRecDepth 100000 in
set_option maxHeartbeats 2000000 in
theorem rrow_any (v u : Value) (xs : List Int) (ps : List Pr) (w : World) (hx : Held .i32 w v xs) (hp : HeldP w u ps) (hl : ps.length = xs.length) (hn : xs.length ≤ 1000000) :
    Calls Tryz.prog 76 #[v, u] w (Gives w (.int .i64 (rowW xs ps xs.length))) := by
  obtain ⟨ao, ca, rfl, hc⟩ := hx.view
  obtain ⟨bo, cb, rfl, _⟩ := id hp
  obtain ⟨_, hd⟩ := hp.at
  have HC := Lib.hid hc
  have HD := Lib.hid hd
  rw [hl] at *
  clear hc hd hx hp
  go_enter Tryz.func76, Tryz.ntmps76
  go_wp2
  go_loopw [5] (fun i wr => ∃ k : Nat, k ≤ xs.length ∧ i = .int .i64 k ∧ Go.RowKit.Hid (anyW xs ps k = false) ∧ Below w.heap.size w wr) (fun i _ => xs.length - (intOf i).toNat)
  case atStart => exact ⟨0, Nat.zero_le _, rfl, Lib.hid rfl, Below.refl _ _⟩
  case round =>
    obtain ⟨k, hk, rfl, HN, hbw⟩ := hrel
    by_cases hlt : k < xs.length
    · obtain ⟨b1, o1, rfl, hb1, hcx⟩ := HC.out k hlt
      obtain ⟨b2, o2, rfl, hb2, d0, d1, d2, d3⟩ := HD.out k hlt
      have hstep : anyW xs ps (k + 1) = condW xs ps k := by show (anyW xs ps k || condW xs ps k) = _; rw [HN.out]; rfl
      have hhit : condW xs ps k = true → rowW xs ps xs.length = 2 := anyW_hit hlt
      have HR := Lib.hid (fun w => rbof_any (ps.getD k Pr.none).br (ps.getD k Pr.none).pc (ps.getD k Pr.none).cv (ps.getD k Pr.none).ea w)
      cases k with
      | zero =>
        rw [cond_zero] at hstep hhit
        simp only [Nat.zero_mul, Nat.add_zero] at d0 d1 d2 d3 hcx
        obtain ⟨q, hq⟩ : ∃ q, q = ps.getD 0 Pr.none := ⟨_, rfl⟩
        rw [← hq] at d0 d1 d2 d3 hstep hhit HR
        clear hq hcx
        generalize basewI q.br q.ea = x at *
        have d0 := (hbw.cell (p := ⟨b2, o2, none⟩) hb2).trans d0
        have d1 := (hbw.cell (p := ⟨b2, o2 + 1, none⟩) hb2).trans d1
        have d2 := (hbw.cell (p := ⟨b2, o2 + 2, none⟩) hb2).trans d2
        have d3 := (hbw.cell (p := ⟨b2, o2 + 3, none⟩) hb2).trans d3
        cases hbz : (x == 2) with
        | true =>
          have HV := Lib.hid (hhit hbz)
          clear hstep hhit HN
          go_wp2_with fail
          refine (HR.out _).mono ?_
          rintro e w2 ⟨rfl, bb⟩
          have hfin := hbw.trans (bb.mono hbw.size)
          clear d0 d1 d2 d3
          go_wp2
          go_ret
          exact ⟨ret_eq (by rw [HV.out]; rfl), hfin⟩
        | false =>
          rw [hbz] at hstep
          have HN2 := Lib.hid hstep
          clear hstep hhit HN
          go_wp2_with fail
          refine (HR.out _).mono ?_
          rintro e w2 ⟨rfl, bb⟩
          have hfin := hbw.trans (bb.mono hbw.size)
          clear d0 d1 d2 d3
          go_wp2
          go_roundw
          case rel => exact ⟨1, by omega, by go_num, HN2, hfin⟩
          case measure => simp [intOf] <;> omega
      | succ m =>
        obtain ⟨b3, o3, e3, hb3, _, p1, _, _⟩ := HD.out m (by omega)
        cases e3
        have hcond : condW xs ps (m + 1) = widB true (ps.getD m Pr.none).pc (xs.getD (m + 1) 0) (ps.getD (m + 1) Pr.none).br (ps.getD (m + 1) Pr.none).pc (ps.getD (m + 1) Pr.none).ea := by
          unfold condW picAt
          rw [decide_eq_true (show 0 < m + 1 by omega)]
        rw [hcond] at hstep hhit
        have hcs := cond_cases (xs.getD (m + 1) 0) (ps.getD (m + 1) Pr.none).br (ps.getD m Pr.none).pc (ps.getD (m + 1) Pr.none).pc (ps.getD (m + 1) Pr.none).ea
        obtain ⟨q, hq⟩ : ∃ q, q = ps.getD (m + 1) Pr.none := ⟨_, rfl⟩
        rw [← hq] at d0 d1 d2 d3 hstep hhit HR hcs
        obtain ⟨pic, hpic⟩ : ∃ y, y = (ps.getD m Pr.none).pc := ⟨_, rfl⟩
        rw [← hpic] at p1 hstep hhit hcs
        obtain ⟨r, hr⟩ : ∃ y, y = xs.getD (m + 1) 0 := ⟨_, rfl⟩
        rw [← hr] at hcx hstep hhit hcs
        obtain ⟨br, pc, cv, ea⟩ := q
        simp only at d0 d1 d2 d3 hstep hhit HR hcs
        clear hcond hq hpic hr HN
        have HF := Lib.hid (show ∀ w2, Below w.heap.size w w2 → w2.cell? ⟨b1, o1 + (m + 1), none⟩ = some (.int .i32 r) ∧ w2.cell? ⟨b2, o2 + m * 4 + 1, none⟩ = some (.bool pic) ∧ w2.cell? ⟨b2, o2 + (m + 1) * 4, none⟩ = some (.int .i64 br) ∧ w2.cell? ⟨b2, o2 + (m + 1) * 4 + 1, none⟩ = some (.bool pc) ∧ w2.cell? ⟨b2, o2 + (m + 1) * 4 + 2, none⟩ = some (.int .i64 cv) ∧ w2.cell? ⟨b2, o2 + (m + 1) * 4 + 3, none⟩ = some (.int .i64 ea) from fun w2 h =>
          ⟨(h.cell (p := ⟨b1, o1 + (m + 1), none⟩) hb1).trans hcx, (h.cell (p := ⟨b2, o2 + m * 4 + 1, none⟩) hb2).trans p1, (h.cell (p := ⟨b2, o2 + (m + 1) * 4, none⟩) hb2).trans d0, (h.cell (p := ⟨b2, o2 + (m + 1) * 4 + 1, none⟩) hb2).trans d1, (h.cell (p := ⟨b2, o2 + (m + 1) * 4 + 2, none⟩) hb2).trans d2, (h.cell (p := ⟨b2, o2 + (m + 1) * 4 + 3, none⟩) hb2).trans d3⟩)
        generalize basewI br ea = x at *
        clear hcx p1 d0 d1 d2 d3
        have hw0 : (m : Int) + 1 - 1 = (m : Int) := by omega
        have HST := Lib.hid hstep
        have HHT := Lib.hid hhit
        clear hstep hhit
        rcases hcs with ⟨h1, hs⟩ | ⟨h1, h2, rfl, hs⟩ | ⟨h1, ⟨h2, rfl⟩ | h2, rfl, hs⟩ | ⟨h1, ⟨h2, rfl⟩ | h2, rfl, h4, hs⟩ | ⟨h1, ⟨h2, rfl⟩ | h2, rfl, h4, hs⟩
        all_goals
          have HS := Lib.hid hs
          clear hs
          obtain ⟨c0, c1, c2, c3, c4, c5⟩ := HF.out wr hbw
          go_wp2_with fail
          refine (HR.out _).mono ?_
          rintro e w2 ⟨rfl, bb⟩
          have hfin := hbw.trans (bb.mono hbw.size)
          clear c0 c1 c2 c3 c4 c5
          obtain ⟨c0, c1, c2, c3, c4, c5⟩ := HF.out w2 hfin
          go_wp2
        all_goals first
          | (go_ret; exact ⟨ret_eq (by rw [HHT.out HS.out]; rfl), hfin⟩)
          | (go_roundw
             case rel => exact ⟨m + 2, by omega, by go_num, Lib.hid (HST.out.trans HS.out), hfin⟩
             case measure => simp [intOf] <;> omega)
    · obtain rfl : k = xs.length := by omega
      have HV := Lib.hid (show rowW xs ps xs.length = 1 by unfold rowW; rw [HN.out]; rfl)
      clear HN
      go_wp2
      go_ret
      exact ⟨ret_eq (by rw [HV.out]; rfl), hbw⟩
end Go.Proofs.YtoeggiplcaegoaaGreatDoor
