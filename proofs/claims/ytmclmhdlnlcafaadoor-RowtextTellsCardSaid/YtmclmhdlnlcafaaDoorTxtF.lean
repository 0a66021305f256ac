/- rowtext: Find; nil rows. -/
import Derived.Test.YtmclmhdlnlcafaaDoorTxtE
import Derived.Test.YtmclmhdlnlcafaaDoorRowC
namespace Go.Proofs.YtmclmhdlnlcafaaDoor
open Go.RowKit Go.ChangeShapes Go.WideShapes
def findF (T : List Int) : List Cl → Nat → Int
  | [], _ => -1
  | c :: C, k => if beginB (c :: C) T = true then (k : Int) else findF T C (k + 1)
def findL (L : List Cl) (T : List Int) : Int := if T = [] then -1 else findF T L 0
theorem find_drop (L : List Cl) (T : List Int) (k : Nat) (h : k < L.length) : findF T (L.drop k) k = if beginB (L.drop k) T = true then (k : Int) else findF T (L.drop (k + 1)) (k + 1) := by
  rw [List.drop_eq_getElem_cons h]
  rfl
set_option maxRecDepth 100000 in
set_option maxHeartbeats 1600000 in
theorem rfind_any (Z Y : Zone) (B g gc : Nat) (L : List Cl) (wrap : Bool) (u : Value) (T : List Int) (w : World) (h : RowAt Z w B g gc L wrap) (hu : HeldE (intE .i32) Y w u T) : Calls Tryd.prog 23 #[.pointer (some ⟨g, 0, none⟩), u] w (Gives w (.int .i64 (findL L T))) := by
  obtain ⟨ua, uc, rfl⟩ := hu.len
  have HU := Lib.hid hu
  have hum := hu.max
  clear hu
  by_cases hT : T = []
  · subst hT
    have HR := Lib.hid (show findL L [] = -1 by unfold findL; rw [if_pos rfl])
    go_enter Tryd.func23, Tryd.ntmps23
    go_wp2
    go_ret
    rw [HR.out]
    exact ⟨(ret_eq (by first | rfl | (simp <;> omega))), Below.refl _ _⟩
  have HR := Lib.hid (show findL L T = findF T L 0 by unfold findL; rw [if_neg hT])
  have hn0 : 0 < T.length := by
    cases T with
    | nil => exact absurd rfl hT
    | cons y S' => simp
  have hz : ((T.length : Int) == 0) = false := by rw [beq_eq_false_iff_ne]; omega
  obtain ⟨hl0, hl1, _⟩ := h.len
  go_enter Tryd.func23, Tryd.ntmps23
  go_wp2_with fail
  refine (rcells_any _ _ g gc _ _ _ h).mono ?_
  rintro e w1 ⟨v1, rfl, ho1, b1⟩
  have hv := ho1.held (fun b hb _ => hb)
  have HB := Lib.hid b1
  have HU1 := Lib.hid (HU.out.below b1)
  clear ho1 b1 h
  obtain ⟨ao, cap, rfl⟩ := hv.len
  obtain ⟨_, hcap, hc⟩ := cells_at hv
  obtain ⟨b, off, _, rfl, _⟩ := hc 0 hl0
  have hmx : cap ≤ maxLen := by
    obtain ⟨a, c, e, h1, h2, _⟩ := hv
    cases e
    exact h2
  have HV := Lib.hid hv
  clear hc hv
  go_wp2
  go_loopw [14] (fun i wr => ∃ k : Nat, k ≤ L.length ∧ i = .int .i64 k ∧ Go.RowKit.Hid (findL L T = findF T (L.drop k) k) ∧ Below w1.heap.size w1 wr) (fun i _ => L.length - (intOf i).toNat)
  case atStart => exact ⟨0, Nat.zero_le _, rfl, HR, Below.refl _ _⟩
  case round =>
    obtain ⟨k, hk, rfl, HF, hbw⟩ := hrel
    have HBW := Lib.hid hbw
    clear hbw
    by_cases hlt : k < L.length
    · have hp := (HV.out.below HBW.out).part k L.length (by omega) (Nat.le_refl _) (some ⟨b, off + k * 2, none⟩) (cap - k) (fun e => by cases e) (fun b off e _ => by cases e; rfl) (fun _ _ => by simp) (by omega) (by omega)
      rw [List.take_of_length_le (by simp)] at hp
      have hbg := begins_any _ _ _ _ (L.drop k) T wr hp (HU1.out.below HBW.out) (by simp; omega)
      have hfd := find_drop L T k hlt
      have hkc : k ≤ cap := by omega
      cases hq : beginB (L.drop k) T with
      | true =>
        rw [hq] at hbg
        rw [if_pos hq] at hfd
        have HRR := Lib.hid (HF.out.trans hfd)
        have HG := Lib.hid hbg
        clear hq hbg hfd hp
        go_wp2_with fail
        refine HG.out.mono ?_
        rintro e w2 ⟨rfl, b2⟩
        have HB2 := Lib.hid (HBW.out.trans (b2.mono HBW.out.size))
        clear b2
        go_wp2
        go_ret
        rw [HRR.out]
        exact ⟨(ret_eq (by first | rfl | (simp <;> omega))), HB.out.trans (HB2.out.mono HB.out.size)⟩
      | false =>
        rw [hq] at hbg
        rw [if_neg (by rw [hq]; decide)] at hfd
        have HRR := Lib.hid (HF.out.trans hfd)
        have HG := Lib.hid hbg
        clear hq hbg hfd hp
        go_wp2_with fail
        refine HG.out.mono ?_
        rintro e w2 ⟨rfl, b2⟩
        have HB2 := Lib.hid (HBW.out.trans (b2.mono HBW.out.size))
        clear b2
        go_wp2
        go_roundw
        case rel => exact ⟨k + 1, by omega, by go_num, HRR, HB2.out⟩
        case measure => simp [intOf] <;> omega
    · obtain rfl : k = L.length := by omega
      have HRR := Lib.hid (show findL L T = -1 by rw [HF.out, List.drop_length]; rfl)
      go_wp2
      go_ret
      rw [HRR.out]
      exact ⟨(ret_eq (by first | rfl | (simp <;> omega))), HB.out.trans (HBW.out.mono HB.out.size)⟩
set_option maxRecDepth 100000 in
theorem rused_nil (w : World) : Calls Tryd.prog 21 #[.pointer none] w (Gives w (.int .i64 0)) := by
  go_enter Tryd.func21, Tryd.ntmps21
  go_wp2_with fail
  refine (rcells_nil w).mono ?_
  rintro e w1 ⟨rfl, rfl⟩
  go_wp2_with fail
  refine (rused_any (fun _ => True) _ [] w (HeldE.nil _ _ _)).mono ?_
  rintro e w2 ⟨rfl, b2⟩
  have HB := Lib.hid b2
  clear b2
  go_wp2
  go_ret
  exact ⟨(ret_eq (by first | rfl | (simp <;> omega))), HB.out⟩
end Go.Proofs.YtmclmhdlnlcafaaDoor
