/- The reference's Cut of layer 5. -/
import Derived.Test.YtgoeacmpphmnoaaChkM
namespace Go.Proofs.Ytgoeacmpphmnoaa
open Go.RowKit Go.ChangeShapes Go.WideShapes
open Go.Lib
theorem OwnB.below {w w' : World} {B : Nat} {v : Value} {n : Nat} {L : List (List Int)} (h : OwnB w B v n L) (hb : Below w.heap.size w w') : OwnB w' B v n L := by
  obtain ⟨us, h1, h2, h3⟩ := h
  exact ⟨us, ownsRow_below h1 hb, h2, fun i hi => by obtain ⟨u, g1, g2⟩ := h3 i hi; exact ⟨u, g1, ownsRow_below g2 hb⟩⟩
theorem cnt_take (at_ : List Int) (i j : Nat) (h : j < at_.length) : cntA (at_.take (j + 1)) i = cntA (at_.take j) i + (if at_.getD j 0 ≤ (i : Int) then 1 else 0) := by
  unfold cntA
  rw [List.take_succ_eq_append_getElem h, List.countP_append]
  have e : at_.getD j 0 = at_[j] := by simp [List.getD, List.getElem?_eq_getElem h]
  rw [e]
  by_cases hx : at_[j] ≤ (i : Int)
  · simp [hx]
  · simp [hx]
theorem refB_take (b at_ : List Int) (k : Nat) (h : k < at_.length + 1) : (refB b at_).take (k + 1) = (refB b at_).take k ++ [refN b at_ k b.length] := by
  have hl : k < (refB b at_).length := by unfold refB; simpa using h
  have e : (refB b at_)[k]? = some (refN b at_ k b.length) := by unfold refB; rw [List.getElem?_map, List.getElem?_range h]; rfl
  have e2 : (refB b at_)[k] = refN b at_ k b.length := by rw [List.getElem?_eq_getElem hl] at e; exact Option.some.inj e
  rw [List.take_succ_eq_append_getElem hl, e2]
set_option maxRecDepth 100000 in
set_option maxHeartbeats 2000000 in
theorem rcut_any (v u : Value) (b at_ : List Int) (w : World) (hv : Held .u8 w v b) (hu : Held .i64 w u at_) (hb : b.length ≤ 100000) (ha : at_.length ≤ 100000) : Calls Try.prog 27 #[v, u] w (CutOk w (refB b at_)) := by
  obtain ⟨bo, bc, rfl, hvc⟩ := id hv.view
  obtain ⟨ao, ac, rfl, hac⟩ := id hu.view
  have HV := Lib.hid hvc
  have HA := Lib.hid hac
  clear hv hu hvc hac
  obtain ⟨N, hN⟩ : ∃ N, N = b.length := ⟨_, rfl⟩
  have HNN := Lib.hid hN
  obtain ⟨M, hM⟩ : ∃ M, M = at_.length := ⟨_, rfl⟩
  have HMM := Lib.hid hM
  rw [← hN] at HV hb ⊢
  rw [← hM] at HA ha ⊢
  clear hN hM
  go_enter Try.func27, Try.ntmps27
  go_wp2
  go_loopw [5, 6] (fun ov kv wr => ∃ k : Nat, k ≤ M + 1 ∧ kv = .int .i64 k ∧ OwnB wr w.heap.size ov k ((refB b at_).take k) ∧ Below w.heap.size w wr) (fun _ kv _ => M + 1 - (intOf kv).toNat)
  case atStart => exact ⟨0, Nat.zero_le _, rfl, OwnB.nil _ _ _ (World.ownsRow_nil _ _ _ _), Below.refl _ _⟩
  case round =>
    obtain ⟨k, hk, rfl, hob, hbw⟩ := hrel
    obtain ⟨wo, hwo⟩ : ∃ wo, wo = wr := ⟨_, rfl⟩
    subst hwo
    by_cases hlt : k ≤ M
    · have d1 : decide ((k : Int) ≤ (M : Int)) = true := decide_eq_true (by omega)
      have HOB := Lib.hid hob
      have HTK := Lib.hid (refB_take b at_ k (by have := HMM.out; omega))
      clear hob
      go_wp2
      go_loopw [7, 8] (fun pv iv wr => ∃ i n : Nat, i ≤ N ∧ iv = .int .i64 i ∧ n ≤ i ∧ Go.RowKit.Hid (n = (refN b at_ k i).length) ∧ wr.ownsRow wo.heap.size 5 1 pv n ((refN b at_ k i).map (Value.int .u8)) ∧ Below wo.heap.size wo wr) (fun _ iv _ => N - (intOf iv).toNat)
      case atStart => exact ⟨0, 0, Nat.zero_le _, rfl, Nat.le_refl _, Lib.hid rfl, World.ownsRow_nil _ _ _ _, Below.refl _ _⟩
      case round =>
        obtain ⟨i, n, hi, rfl, hni, HNL, hown, hbi⟩ := hrel
        obtain ⟨wm, hwm⟩ : ∃ wm, wm = wr := ⟨_, rfl⟩
        subst hwm
        by_cases hlt2 : i < N
        · obtain ⟨bb, boff, rfl, hbb, c0⟩ := HV.out i hlt2
          have c0 := ((hbw.trans (hbi.mono hbw.size)).cell (p := ⟨bb, boff + i, none⟩) hbb).trans c0
          have hrs := refN_succ b at_ k i
          have hrl := refN_len b at_ k (i + 1)
          obtain ⟨x, hx⟩ : ∃ x, x = b.getD i 0 := ⟨_, rfl⟩
          rw [← hx] at c0 hrs
          have HRS := Lib.hid hrs
          have HRL := Lib.hid hrl
          have HOW := Lib.hid hown
          clear hx hrs hrl hown
          go_wp2
          go_loopw [9, 10] (fun nv jv wr => ∃ j c : Nat, j ≤ M ∧ jv = .int .i64 j ∧ nv = .int .i64 c ∧ c ≤ j ∧ Go.RowKit.Hid (c = cntA (at_.take j) i) ∧ wr = wm) (fun _ jv _ => M - (intOf jv).toNat)
          case atStart => exact ⟨0, 0, Nat.zero_le _, rfl, rfl, Nat.le_refl _, Lib.hid rfl, rfl⟩
          case round =>
            obtain ⟨j, c, hj, rfl, rfl, hcj, HCJ, rfl⟩ := hrel
            by_cases hlt3 : j < M
            · obtain ⟨ba, aoff, rfl, hba, c1⟩ := HA.out j hlt3
              have c1 := ((hbw.trans (hbi.mono hbw.size)).cell (p := ⟨ba, aoff + j, none⟩) hba).trans c1
              have hct := cnt_take at_ i j (by have := HMM.out; omega)
              obtain ⟨y, hy⟩ : ∃ y, y = at_.getD j 0 := ⟨_, rfl⟩
              rw [← hy] at c1 hct
              clear hy
              by_cases hyi : y ≤ (i : Int)
              · have d3 : decide (y ≤ (i : Int)) = true := decide_eq_true hyi
                rw [if_pos hyi] at hct
                have HC2 := Lib.hid (show c + 1 = cntA (at_.take (j + 1)) i by rw [hct, HCJ.out])
                clear hct hyi
                go_wp2
                go_roundw
                case rel => exact ⟨j + 1, c + 1, by omega, by go_num, by go_num, by omega, HC2, trivial⟩
                case measure => simp [intOf] <;> omega
              · have d3 : decide (y ≤ (i : Int)) = false := decide_eq_false hyi
                rw [if_neg hyi, Nat.add_zero] at hct
                have HC2 := Lib.hid (show c = cntA (at_.take (j + 1)) i from HCJ.out.trans hct.symm)
                clear hct hyi
                go_wp2
                go_roundw
                case rel => exact ⟨j + 1, c, by omega, by go_num, rfl, by omega, HC2, trivial⟩
                case measure => simp [intOf] <;> omega
            · obtain rfl : j = M := by omega
              have hcc : c = cntA at_ i := by have h := HCJ.out; rwa [List.take_of_length_le (by have := HMM.out; omega)] at h
              by_cases hck : c = k
              · have d4 : ((c : Int) == (k : Int)) = true := by simp [hck]
                have hrs := HRS.out
                rw [if_pos (hcc.symm.trans hck)] at hrs
                have HR2 := Lib.hid hrs
                have HN2 := Lib.hid (show n + 1 = (refN b at_ k (i + 1)).length by rw [hrs, List.length_append, HNL.out]; rfl)
                clear hcc hck hrs HRS
                go_wp2_with (at_builtin; refine wpList_append_new wr rfl (.tmp 40) (.tmp 45) 22 rfl wo.heap.size 5 (.int .u8 0) 1 Try.underlying22 info_u8 rfl u7 n ((refN b at_ k i).map (Value.int .u8)) rfl HOW.out [.int .u8 x] 1 1 rfl rfl (by intro u hu; simp at hu; rcases hu with rfl <;> rfl) (by omega) (by omega) hbi.size ?_)
                intro v' w' hown' hb'
                have hown3 : w'.ownsRow wo.heap.size 5 1 v' (n + 1) ((refN b at_ k (i + 1)).map (Value.int .u8)) := by rw [HR2.out, List.map_append]; exact hown'
                have hb3 := hbi.trans hb'
                clear hown' hb' HR2
                go_wp2
                go_roundw
                case rel => exact ⟨i + 1, n + 1, by omega, by go_num, by omega, HN2, hown3, hb3⟩
                case measure => simp [intOf] <;> omega
              · have d4 : ((c : Int) == (k : Int)) = false := by simp; omega
                have hrs := HRS.out
                rw [if_neg (fun e => hck (hcc.trans e)), List.append_nil] at hrs
                have hown2 := HOW.out
                rw [← hrs] at hown2
                have HN2 := Lib.hid (show n = (refN b at_ k (i + 1)).length by rw [hrs, HNL.out])
                clear hcc hck hrs HRS
                go_wp2
                go_roundw
                case rel => exact ⟨i + 1, n, by omega, by go_num, by omega, HN2, hown2, hbi⟩
                case measure => simp [intOf] <;> omega
        · obtain rfl : i = N := by omega
          have hob2 := HOB.out.below hbi
          have hb2 := hbw.trans (hbi.mono hbw.size)
          obtain ⟨us, how, hlo, huo⟩ := hob2
          have hus : us.length = k := by have := how.1; simpa using this
          have hn := HNL.out
          rw [hn] at hown
          obtain ⟨uo, un, uc, hu7⟩ : ∃ uo un uc, u7 = .slice uo un uc := by
            obtain ⟨a, c, e⟩ := (held_of_owns hown).len
            exact ⟨a, _, c, e⟩
          subst hu7
          have hx5 : (wm.alloc (.cells [Value.slice uo un uc].toArray 22)).ownsRow 0 5 1 (.slice uo un uc) (refN b at_ k i).length ((refN b at_ k i).map (Value.int .u8)) := (own_lower hown (Nat.zero_le _)).alloc _
          have HUO := Lib.hid (show ∀ j, j < k → ∃ u, us[j]? = some u ∧ (wm.alloc (.cells [Value.slice uo un uc].toArray 22)).ownsRow 0 5 1 u (((refB b at_).take k).getD j []).length ((((refB b at_).take k).getD j []).map (Value.int .u8)) from fun j hj => by
            obtain ⟨u, g1, g2⟩ := huo j hj
            exact ⟨u, g1, g2.alloc _⟩)
          have HOW := Lib.hid how
          have HX5 := Lib.hid hx5
          have HUS := Lib.hid hus
          have HLO := Lib.hid hlo
          have hone : (Value.slice uo un uc).oneCell' = true := rfl
          clear how hx5 hus hlo huo hown hn
          go_wp2_with (at_builtin; refine wpList_append_newK wm rfl (.tmp 47) (.tmp 49) 44 rfl w.heap.size 22 (.slice none 0 0) 1 24 Try.underlying44 info_sl rfl (by decide) u5 k us rfl HOW.out [.slice uo un uc] 1 1 wm.heap.size rfl rfl rfl (by intro u hu; simp at hu; rw [hu]; rfl) (by omega) (by omega) hb2.size ?_)
          intro v6 w6 ho6 hb6 hk6
          have hkb : KeepB (wm.alloc (.cells [Value.slice uo un uc].toArray 22)) w6 := keepB_new HOW.out hk6
          have hob6 := OwnB.snoc HLO.out HUO.out HUS.out HX5.out ho6 hkb
          have hbl := HNN.out
          rw [hbl, ← HTK.out] at hob6
          have hb7 := hb2.trans hb6
          clear ho6 hb6 hk6 hkb hbl hone
          go_wp2
          go_roundw
          case rel => exact ⟨k + 1, by omega, by go_num, hob6, hb7⟩
          case measure => simp [intOf] <;> omega
    · obtain rfl : k = M + 1 := by omega
      have d1 : decide (((M : Int) + 1) ≤ (M : Int)) = false := decide_eq_false (by omega)
      rw [List.take_of_length_le (by unfold refB; have := HMM.out; simp; omega)] at hob
      go_wp2
      go_ret
      exact ⟨_, _, rfl, hob, hbw⟩
end Go.Proofs.Ytgoeacmpphmnoaa
