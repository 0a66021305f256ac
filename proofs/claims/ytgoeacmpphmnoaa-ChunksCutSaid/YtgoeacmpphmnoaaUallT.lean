/- Contracts of utfall: Tail. -/
import Derived.Test.YtgoeacmpphmnoaaUallG
namespace Go.Proofs.Ytgoeacmpphmnoaa
open Go.RowKit Go.ChangeShapes Go.WideShapes
def lastG (xs : List Int) (k : Nat) : G5 := if k = 0 then (0, 0, 0, 0, false) else partG xs (posN xs (k - 1))
def tailG (xs : List Int) (k : Nat) : Int := if (lastG xs k).2.2.2.2 = true ∧ 1 < leadI (xs.getD (posN xs (k - 1)) 0) then (lastG xs k).2.2.1 else 0
def LastAt (w : World) (g : Nat) (G : G5) : Prop := Has w g [.int .i32 G.1, .int .i64 G.2.1, .int .i64 G.2.2.1, .int .i64 G.2.2.2.1, .bool G.2.2.2.2] 32
theorem last_put {w : World} {g : Nat} {G : G5} (h : LastAt w g G) (r a l kn : Int) (bd : Bool) : LastAt (((((w.setCell ⟨g, 0, none⟩ (.int .i32 r)).setCell ⟨g, 1, none⟩ (.int .i64 a)).setCell ⟨g, 2, none⟩ (.int .i64 l)).setCell ⟨g, 3, none⟩ (.int .i64 kn)).setCell ⟨g, 4, none⟩ (.bool bd)) g (r, a, l, kn, bd) :=
  ((((Has.set h 0 (.int .i32 r)).set 1 (.int .i64 a)).set 2 (.int .i64 l)).set 3 (.int .i64 kn)).set 4 (.bool bd)
theorem last_below {w W : World} (hl : Below w.heap.size w W) (g : Nat) (hg : w.heap.size ≤ g) (x y z u t : Value) :
    Below w.heap.size w (((((W.setCell ⟨g, 0, none⟩ x).setCell ⟨g, 1, none⟩ y).setCell ⟨g, 2, none⟩ z).setCell ⟨g, 3, none⟩ u).setCell ⟨g, 4, none⟩ t) := five_below hl g hg x y z u t
def TailOk (w : World) (xs : List Int) (e : Ending) (w' : World) : Prop := ∃ k, e = .returned (.int .i64 (tailG xs k)) ∧ posN xs k = xs.length ∧ Below w.heap.size w w'
set_option maxRecDepth 100000 in
set_option maxHeartbeats 1000000 in
theorem utail_any (v : Value) (xs : List Int) (w : World) (hv : Held .u8 w v xs) (hcp : CapOk v) (hm : xs.length ≤ 1000000) (hr : ∀ i, i < xs.length → 0 ≤ xs.getD i 0 ∧ xs.getD i 0 ≤ 255) :
    Calls Try.prog 22 #[v] w (TailOk w xs) := by
  obtain ⟨ao, cap, rfl, hc⟩ := hv.view
  have HV := Lib.hid hv
  have HC := Lib.hid hcp
  have HR := Lib.hid hr
  have HCC := Lib.hid hc
  clear hv hcp hr hc
  go_enter Try.func22, Try.ntmps22
  go_wp2
  go_loopw [4] (fun p wr => ∃ k q : Nat, posN xs k = q ∧ k ≤ q ∧ q ≤ xs.length ∧ p = .int .i64 q ∧ LastAt wr w.heap.size (lastG xs k) ∧ Below w.heap.size w wr) (fun p _ => xs.length - (intOf p).toNat)
  case atStart => exact ⟨0, 0, rfl, Nat.zero_le _, Nat.zero_le _, rfl, Has.new w _ _, (Below.refl _ _).alloc (Nat.le_refl _) _⟩
  case round =>
    obtain ⟨k, q, hq, hkq, hql, rfl, hla, hbw⟩ := hrel
    by_cases hlt : q < xs.length
    · have hps : posN xs (k + 1) = q + lenG xs q := by show posN xs k + _ = _; rw [hq]
      have hlg : lastG xs (k + 1) = partG xs q := by unfold lastG; rw [if_neg (by omega)]; show partG xs (posN xs k) = _; rw [hq]
      have hgl := partG_len xs q
      have hle := lenG_le xs q hlt
      have hpo := lenG_pos xs q
      have HLG := Lib.hid hlg
      have HPS := Lib.hid hps
      have HLA := Lib.hid hla
      clear hps hla hq hlg
      go_wp2_with fail
      refine (part_any _ xs q _ (HV.out.below hbw) HC.out hlt (by omega) HR.out).mono ?_
      rintro e w1 ⟨rfl, b1⟩
      obtain ⟨G, hG⟩ : ∃ G, G = partG xs q := ⟨_, rfl⟩
      rw [← hG] at HLG hgl ⊢
      obtain ⟨n, hn⟩ : ∃ n, n = lenG xs q := ⟨_, rfl⟩
      rw [← hn] at HPS hgl hle hpo
      clear hG hn
      obtain ⟨r, a, l, kn, bd⟩ := G
      have hgl : l = n := hgl
      subst hgl
      rw [show gotV (r, a, (n : Int), kn, bd) = .agg #[.int .i32 r, .int .i64 a, .int .i64 n, .int .i64 kn, .bool bd] from rfl]
      have hlt2 := HLA.out.lt
      have hla1 : LastAt w1 w.heap.size (lastG xs k) := Has.below HLA.out b1 hlt2
      have hb1 := hbw.trans (b1.mono hbw.size)
      have k0 := hla1.cell 0 _ rfl
      have k1 := hla1.cell 1 _ rfl
      have k2 := hla1.cell 2 _ rfl
      have k3 := hla1.cell 3 _ rfl
      have k4 := hla1.cell 4 _ rfl
      have g0 := hla1.free 0
      have g1 := hla1.free 1
      have g2 := hla1.free 2
      have g3 := hla1.free 3
      have g4 := hla1.free 4
      have hl2 := last_put hla1 r a n kn bd
      have hb2 := last_below hb1 w.heap.size (Nat.le_refl _) (.int .i32 r) (.int .i64 a) (.int .i64 n) (.int .i64 kn) (.bool bd)
      have HL2 := Lib.hid hl2
      have HB2 := Lib.hid hb2
      clear b1 hla1 hl2 hb2 hb1
      go_wp2
      go_roundw
      case rel => exact ⟨k + 1, q + n, HPS.out, by omega, by omega, by go_num, by rw [HLG.out]; exact HL2.out, HB2.out⟩
      case measure => simp [intOf] <;> omega
    · have hqe : q = xs.length := by omega
      subst hqe
      have HQ := Lib.hid hq
      have ht : tailG xs k = if (lastG xs k).2.2.2.2 = true ∧ 1 < leadI (xs.getD (posN xs (k - 1)) 0) then (lastG xs k).2.2.1 else 0 := rfl
      by_cases hk0 : k = 0
      · have hlg : lastG xs k = (0, 0, 0, 0, false) := by unfold lastG; rw [if_pos hk0]
        rw [hlg] at hla ht
        rw [if_neg (by simp)] at ht
        have HT := Lib.hid ht
        have k4 := hla.cell 4 _ rfl
        clear hla ht hlg hq
        go_wp2
        go_ret
        exact ⟨k, by rw [HT.out]; try rfl, HQ.out, hbw⟩
      · have hlg : lastG xs k = partG xs (posN xs (k - 1)) := by unfold lastG; rw [if_neg hk0]
        have hpl : posN xs (k - 1) < xs.length := by rw [← hq]; exact posN_lt xs (by omega)
        have hpp := partG_p xs (posN xs (k - 1))
        rw [hlg] at hla ht
        obtain ⟨p, hp⟩ : ∃ p, p = posN xs (k - 1) := ⟨_, rfl⟩
        rw [← hp] at hla ht hpl hpp
        obtain ⟨b, off, rfl, hb, hcx⟩ := HCC.out p hpl
        obtain ⟨x0, x1⟩ := HR.out p hpl
        have hcx := (hbw.cell (p := ⟨b, off + p, none⟩) hb).trans hcx
        obtain ⟨G, hG⟩ : ∃ G, G = partG xs p := ⟨_, rfl⟩
        rw [← hG] at hla ht hpp
        obtain ⟨x, hx⟩ : ∃ x, x = xs.getD p 0 := ⟨_, rfl⟩
        rw [← hx] at hcx x0 x1 ht
        clear hlg hG hp hx hq
        obtain ⟨r, a, l, kn, bd⟩ := G
        have hpp : a = p := hpp
        subst hpp
        have k1 := hla.cell 1 _ rfl
        have k2 := hla.cell 2 _ rfl
        have k4 := hla.cell 4 _ rfl
        cases bd with
        | false =>
          rw [if_neg (by simp)] at ht
          have HT := Lib.hid ht
          clear ht hla
          go_wp2
          go_ret
          exact ⟨k, by rw [HT.out]; try rfl, HQ.out, hbw⟩
        | true =>
          have HLA := Lib.hid hla
          by_cases hl1 : 1 < leadI x
          · rw [if_pos ⟨rfl, hl1⟩] at ht
            have HT := Lib.hid ht
            have d1 := decide_eq_true hl1
            clear ht hla
            go_wp2_with fail
            refine (lead_any x _ x0 x1).mono ?_
            rintro e w' ⟨rfl, rfl⟩
            go_wp2
            go_ret
            exact ⟨k, by rw [HT.out]; try rfl, HQ.out, hbw⟩
          · rw [if_neg (fun h => hl1 h.2)] at ht
            have HT := Lib.hid ht
            have d1 := decide_eq_false hl1
            clear ht hla
            go_wp2_with fail
            refine (lead_any x _ x0 x1).mono ?_
            rintro e w' ⟨rfl, rfl⟩
            go_wp2
            go_ret
            exact ⟨k, by rw [HT.out]; try rfl, HQ.out, hbw⟩
end Go.Proofs.Ytgoeacmpphmnoaa
