/- Contracts of chunks: Join, Read. -/
import Derived.Test.YtgoeacmpphmnoaaChkC
import Derived.Test.YtgoeacmpphmnoaaChkL
import Derived.Test.YtgoeacmpphmnoaaDecF
import Derived.Test.YtgoeacmpphmnoaaDecP
namespace Go.Proofs.Ytgoeacmpphmnoaa
open Go.RowKit Go.ChangeShapes Go.WideShapes
open Go.Lib
theorem grow_none (N : Nat) (hN : N ≤ 1000000) (w : World) : Calls Try.prog 133 #[.slice none 0 0, .int .i64 N] w fun e w' => ∃ v', e = .returned v' ∧ w'.ownsRow w.heap.size 5 1 v' 0 [] ∧ Below w.heap.size w w' := by
  rcases Nat.eq_zero_or_pos N with rfl | hp
  · refine Calls.mono (Any8.slices_Grow_room growB none 0 0 0 w (Nat.le_refl _) (by omega) (by omega) (by omega)) ?_
    rintro e w' ⟨rfl, rfl⟩
    exact ⟨_, rfl, World.ownsRow_nil _ _ _ _, Below.refl _ _⟩
  · obtain ⟨i0, hi, hz0, hz1, hz2⟩ := info_parts info_u8
    refine Calls.mono (Any8.slices_Grow_grow growB i0 (.int .u8 0) hi hz0 (by omega) none 0 0 N [] w (Nat.le_refl _) (by omega) (by rw [hz2]; omega) (by omega) (by simp) (fun _ => rfl) (fun a h => by cases h)) ?_
    rintro e w' ⟨rfl, rfl⟩
    have hge := grownCap_ge w (0 + N) 0 5
    have hle := grownCap_le_maxLen w (0 + N) 0 5 (by unfold maxLen; omega)
    refine ⟨_, rfl, ⟨rfl, .inr ⟨w.heap.size, _, _, rfl, Nat.le_refl _, heap_alloc_new w.drew _, Nat.zero_le _, hle, ?_, by simp⟩⟩, ?_⟩
    · have hge2 : N ≤ grownCap w (0 + N) 0 5 := by omega
      show _ = grownCap w (0 + N) 0 5 * 1
      simp [Builtin.zeroCells, Value.cells]
      have e : grownCap w (0 + N) 0 (growB_ren.t 25) = grownCap w (0 + N) 0 5 := rfl
      simp only [Nat.zero_add] at *
      omega
    · exact (Below.refl w.heap.size w).drew.alloc (Nat.le_refl _) _
def flatN (L : List (List Int)) (k : Nat) : List Int := (L.take k).flatten
theorem flat_succ (L : List (List Int)) (k : Nat) (h : k < L.length) : flatN L (k + 1) = flatN L k ++ L.getD k [] := by
  unfold flatN
  rw [List.take_succ_eq_append_getElem h, List.flatten_append]
  simp [List.getD, List.getElem?_eq_getElem h]
theorem flat_le (L : List (List Int)) : ∀ k, k ≤ L.length → (flatN L k).length ≤ (flatN L L.length).length := by
  have h : ∀ d k, k + d = L.length → (flatN L k).length ≤ (flatN L L.length).length := by
    intro d
    induction d with
    | zero => intro k e; have : k = L.length := by omega
              subst this; exact Nat.le_refl _
    | succ d ih =>
      intro k e
      have h1 := ih (k + 1) (by omega)
      rw [flat_succ L k (by omega), List.length_append] at h1
      omega
  intro k hk
  exact h (L.length - k) k (by omega)
theorem flat_all (L : List (List Int)) : flatN L L.length = L.flatten := by unfold flatN; rw [List.take_length]
def JoinOk (w : World) (xs : List Int) (e : Ending) (w' : World) : Prop := ∃ v', e = .returned v' ∧ w'.ownsRow w.heap.size 5 1 v' xs.length (xs.map (Value.int .u8)) ∧ Below w.heap.size w w'
set_option maxRecDepth 100000 in
set_option maxHeartbeats 1000000 in
theorem concat_any (v : Value) (L : List (List Int)) (w : World) (hh : HeldB w v L) (hl : L.length ≤ 1000000) (ht : L.flatten.length ≤ 1000000) : Calls Try.prog 76 #[v] w (JoinOk w L.flatten) := by
  obtain ⟨ao, cap, rfl⟩ := hh.len
  have HH := Lib.hid hh
  have HLE := Lib.hid (flat_le L)
  have HFA := Lib.hid (flat_all L)
  rw [← flat_all L] at ht ⊢
  clear hh
  go_enter Try.func76, Try.ntmps76
  go_wp2
  go_loopw [3, 11] (fun sv iv wr => ∃ k s : Nat, k ≤ L.length ∧ iv = .int .i64 k ∧ sv = .int .i64 s ∧ Go.RowKit.Hid (s = (flatN L k).length) ∧ wr = w) (fun _ iv _ => L.length - (intOf iv).toNat)
  case atStart => exact ⟨0, 0, Nat.zero_le _, rfl, rfl, Lib.hid rfl, rfl⟩
  case round =>
    obtain ⟨k, s, hk, rfl, rfl, HS, rfl⟩ := hrel
    obtain ⟨wo, hwo⟩ : ∃ wo, wo = wr := ⟨_, rfl⟩
    subst hwo
    have hsl : s ≤ 1000000 := by have := HLE.out k hk; have := HS.out; omega
    by_cases hlt : k < L.length
    · obtain ⟨b, off, u, rfl, hb, c0, hu⟩ := HH.out.spots k hlt
      have hfs := flat_succ L k hlt
      have hle2 := HLE.out (k + 1) (by omega)
      obtain ⟨T, hT⟩ : ∃ T, T = L.getD k [] := ⟨_, rfl⟩
      rw [← hT] at hu hfs
      obtain ⟨uo, uc, rfl⟩ := hu.len
      rw [hfs, List.length_append] at hle2
      have hs2 : s + T.length ≤ 1000000 := by have := HS.out; omega
      have hs3 : s + T.length = (flatN L (k + 1)).length := by rw [hfs, List.length_append, HS.out]
      have HS3 := Lib.hid hs3
      have d1 : decide ((s : Int) + (T.length : Int) < 0) = false := decide_eq_false (by omega)
      clear hfs hT hu hs3 hle2
      go_wp2
      go_roundw
      case rel => exact ⟨k + 1, s + T.length, by omega, by go_num, by go_num, HS3, trivial⟩
      case measure => simp [intOf] <;> omega
    · obtain rfl : k = L.length := by omega
      have HG := Lib.hid (grow_none s hsl wo)
      go_wp2_with fail
      refine HG.out.mono ?_
      rintro e w1 ⟨v1, rfl, ho1, b1⟩
      have HO1 := Lib.hid ho1
      have HB1 := Lib.hid b1
      clear ho1 b1 HG HS hsl hlt
      go_wp2
      go_loopw [6, 27] (fun nv iv w2 => ∃ k n : Nat, k ≤ L.length ∧ iv = .int .i64 k ∧ Go.RowKit.Hid (n = (flatN L k).length) ∧ w2.ownsRow wo.heap.size 5 1 nv n ((flatN L k).map (Value.int .u8)) ∧ Below wo.heap.size wo w2) (fun _ iv _ => L.length - (intOf iv).toNat)
      case atStart => exact ⟨0, 0, Nat.zero_le _, rfl, Lib.hid rfl, HO1.out, HB1.out⟩
      case round =>
        obtain ⟨k, n, hk, rfl, HN, hown, hbw⟩ := hrel
        have hnl : n ≤ 1000000 := by have := HLE.out k hk; have := HN.out; omega
        by_cases hlt : k < L.length
        · obtain ⟨b, off, u, rfl, hb, c0, hu⟩ := HH.out.spots k hlt
          have c0 := (hbw.cell (p := ⟨b, off + k, none⟩) hb).trans c0
          have hfs := flat_succ L k hlt
          have hle2 := HLE.out (k + 1) (by omega)
          obtain ⟨T, hT⟩ : ∃ T, T = L.getD k [] := ⟨_, rfl⟩
          rw [← hT] at hu hfs
          obtain ⟨uo, uc, rfl⟩ := hu.len
          rw [hfs, List.length_append] at hle2
          have hs2 : n + T.length ≤ 1000000 := by have := HN.out; omega
          have HN2 := Lib.hid (show n + T.length = (flatN L (k + 1)).length by rw [hfs, List.length_append, HN.out])
          have HFS := Lib.hid hfs
          have HU := Lib.hid (hu.below hbw)
          clear hfs hT hu hle2
          go_wp2_with (at_builtin; refine wpList_append_held wr rfl (.tmp 31) (.tmp 32) 22 rfl wo.heap.size 5 (.int .u8 0) 1 Try.underlying22 info_u8 rfl .u8 u6 n (flatN L k) rfl hown (.slice uo T.length uc) T rfl HU.out (by omega) (by omega) hbw.size ?_)
          intro v' w' hown' hb'
          have hown3 : w'.ownsRow wo.heap.size 5 1 v' (n + T.length) ((flatN L (k + 1)).map (Value.int .u8)) := by rw [HFS.out, List.map_append]; exact hown'
          have hb3 := hbw.trans hb'
          clear hown' hown hb' HFS
          go_wp2
          go_roundw
          case rel => exact ⟨k + 1, n + T.length, by omega, by go_num, HN2, hown3, hb3⟩
          case measure => simp [intOf] <;> omega
        · obtain rfl : k = L.length := by omega
          have hn := HN.out
          subst hn
          go_wp2
          go_ret
          exact ⟨_, rfl, hown, hbw⟩
set_option maxRecDepth 100000 in
theorem join_any (v : Value) (L : List (List Int)) (w : World) (hh : HeldB w v L) (hl : L.length ≤ 1000000) (ht : L.flatten.length ≤ 1000000) : Calls Try.prog 29 #[v] w (JoinOk w L.flatten) := by
  have HC := Lib.hid (concat_any v L w hh hl ht)
  clear hh
  go_enter Try.func29, Try.ntmps29
  go_wp2_with fail
  refine HC.out.mono ?_
  rintro e w1 ⟨v1, rfl, ho1, b1⟩
  go_wp2
  go_ret
  exact ⟨_, rfl, ho1, b1⟩
def told (xs : List Int) : List Int := feedTo (0, 0, 0) xs ++ (if 0 < (feedSt (0, 0, 0) xs).2.2 then [65533] else [])
def ReadOk (w : World) (xs : List Int) (e : Ending) (w' : World) : Prop := ∃ v', e = .returned v' ∧ Held .i32 w' v' xs ∧ Below w.heap.size w w'
set_option maxRecDepth 100000 in
set_option maxHeartbeats 2000000 in
theorem cread_any (v : Value) (L : List (List Int)) (w : World) (hh : HeldB w v L) (hl : L.length ≤ 1000000) (ht : L.flatten.length ≤ 1000000) (hby : ∀ T ∈ L, ∀ x ∈ T, 0 ≤ x ∧ x ≤ 255) : Calls Try.prog 30 #[v] w (ReadOk w (told L.flatten)) := by
  obtain ⟨ao, cap, rfl⟩ := hh.len
  have HH := Lib.hid hh
  have HLE := Lib.hid (flat_le L)
  have hbf : ∀ k, ∀ x ∈ flatN L k, 0 ≤ x ∧ x ≤ 255 := by
    intro k x hx
    unfold flatN at hx
    rw [List.mem_flatten] at hx
    obtain ⟨T, hT, hxT⟩ := hx
    exact hby T (List.mem_of_mem_take hT) x hxT
  have HBF := Lib.hid hbf
  have hbt : ∀ k, k < L.length → ∀ x ∈ L.getD k [], 0 ≤ x ∧ x ≤ 255 := by
    intro k hk x hx
    simp only [List.getD, List.getElem?_eq_getElem hk, Option.getD_some] at hx
    exact hby _ (List.getElem_mem hk) x hx
  have HBT := Lib.hid hbt
  rw [← flat_all L] at ht ⊢
  have hgd := Has.new w [.int .u8 0, .int .i32 0, .int .i64 0] 40
  have hbd := (Below.refl w.heap.size w).alloc (Nat.le_refl _) (.cells [Value.int .u8 0, .int .i32 0, .int .i64 0].toArray 40)
  have HGD := Lib.hid hgd
  have HBD := Lib.hid hbd
  clear hh hby hbf hbt hgd hbd
  go_enter Try.func30, Try.ntmps30
  go_wp2
  go_loopw [4, 9] (fun tv iv wr => ∃ k n : Nat, k ≤ L.length ∧ iv = .int .i64 k ∧ Go.RowKit.Hid (n = (feedTo (0, 0, 0) (flatN L k)).length) ∧ wr.ownsRow (w.heap.size + 1) 21 1 tv n ((feedTo (0, 0, 0) (flatN L k)).map (Value.int .i32)) ∧ DecAt wr w.heap.size (feedSt (0, 0, 0) (flatN L k)).1 (feedSt (0, 0, 0) (flatN L k)).2.1 (feedSt (0, 0, 0) (flatN L k)).2.2 ∧ Below w.heap.size w wr) (fun _ iv _ => L.length - (intOf iv).toNat)
  case atStart => exact ⟨0, 0, Nat.zero_le _, rfl, Lib.hid rfl, World.ownsRow_nil _ _ _ _, HGD.out, HBD.out⟩
  case round =>
    obtain ⟨k, n, hk, rfl, HN, hown, hd, hbw⟩ := hrel
    have hg := hd.lt
    have hfl := feedTo_len (0, 0, 0) (flatN L k)
    have hnl : n ≤ 2000000 := by have := HLE.out k hk; have := HN.out; omega
    by_cases hlt : k < L.length
    · obtain ⟨b, off, u, rfl, hb, c0, hu⟩ := HH.out.spots k hlt
      have c0 := (hbw.cell (p := ⟨b, off + k, none⟩) hb).trans c0
      have hfs := flat_succ L k hlt
      have hle2 := HLE.out (k + 1) (by omega)
      have hbt := HBT.out k hlt
      obtain ⟨T, hT⟩ : ∃ T, T = L.getD k [] := ⟨_, rfl⟩
      rw [← hT] at hu hfs hbt
      have hTl : T.length ≤ 1000000 := by rw [hfs, List.length_append] at hle2; omega
      have hne := arg_ne hu (Nat.le_refl w.heap.size)
      have hwf := wfS_feed (0, 0, 0) (flatN L k) wfS_zero (HBF.out k)
      have hto := feedTo_append (0, 0, 0) (flatN L k) T
      have hst := feedSt_append (0, 0, 0) (flatN L k) T
      rw [← hfs] at hto hst
      have HFD := Lib.hid (feed_new w.heap.size (feedSt (0, 0, 0) (flatN L k)) u T wr hd hwf (hu.below hbw) hne hbt (by omega))
      have hfl2 := feedTo_len (feedSt (0, 0, 0) (flatN L k)) T
      obtain ⟨uo, uc, rfl⟩ := hu.len
      have HTO := Lib.hid hto
      have HST := Lib.hid hst
      have HOW := Lib.hid hown
      have hob : u4.ownBlock ≠ some w.heap.size := fun e => by have := hown.lt _ e; omega
      have HOB := Lib.hid hob
      clear hfs hT hu hle2 hbt hne hwf hto hst hown hob hd
      go_wp2_with fail
      refine HFD.out.mono ?_
      rintro e w2 ⟨v2, rfl, hh2, hd2, hbut, _⟩
      have ho2 := own_past HOW.out hbut HOB.out
      have hb2 : Below w.heap.size w w2 := hbw.trans (hbut.below hbw.size (Nat.le_refl _))
      rw [← HST.out] at hd2
      obtain ⟨X, hX⟩ : ∃ X, X = feedTo (feedSt (0, 0, 0) (flatN L k)) T := ⟨_, rfl⟩
      rw [← hX] at hh2 hfl2
      have HTO2 := Lib.hid (show feedTo (0, 0, 0) (flatN L (k + 1)) = feedTo (0, 0, 0) (flatN L k) ++ X by rw [hX]; exact HTO.out)
      have HH2 := Lib.hid hh2
      have HD2 := Lib.hid hd2
      have hg2 := hd2.lt
      obtain ⟨xo, xc, rfl⟩ := hh2.len
      have hXl : n + X.length ≤ 5000000 := by omega
      clear hX hh2 hd2 hbut HFD HTO HST HOW HOB
      go_wp2_with (at_builtin; refine wpList_append_held w2 rfl (.tmp 13) (.tmp 15) 29 rfl (w.heap.size + 1) 21 (.int .i32 0) 4 Try.underlying29 info_i32 rfl .i32 u4 n (feedTo (0, 0, 0) (flatN L k)) rfl ho2 (.slice xo X.length xc) X rfl HH2.out (by omega) (by omega) (by omega) ?_)
      intro v3 w3 ho3 hb3
      have ho4 : w3.ownsRow (w.heap.size + 1) 21 1 v3 (n + X.length) ((feedTo (0, 0, 0) (flatN L (k + 1))).map (Value.int .i32)) := by rw [HTO2.out, List.map_append]; exact ho3
      have HN4 := Lib.hid (show n + X.length = (feedTo (0, 0, 0) (flatN L (k + 1))).length by rw [HTO2.out, List.length_append, HN.out])
      have hd3 : DecAt w3 w.heap.size (feedSt (0, 0, 0) (flatN L (k + 1))).1 (feedSt (0, 0, 0) (flatN L (k + 1))).2.1 (feedSt (0, 0, 0) (flatN L (k + 1))).2.2 := Has.below HD2.out hb3 (Nat.lt_succ_self _)
      have hb4 := hb2.trans (hb3.mono (Nat.le_succ _))
      clear ho3 hb3 ho2 HTO2
      go_wp2
      go_roundw
      case rel => exact ⟨k + 1, n + X.length, by omega, by go_num, HN4, ho4, hd3, hb4⟩
      case measure => simp [intOf] <;> omega
    · obtain rfl : k = L.length := by omega
      have htd : told (flatN L L.length) = feedTo (0, 0, 0) (flatN L L.length) ++ (if 0 < (feedSt (0, 0, 0) (flatN L L.length)).2.2 then [65533] else []) := rfl
      by_cases h0 : 0 < (feedSt (0, 0, 0) (flatN L L.length)).2.2
      · rw [if_pos h0] at htd
        have HTD := Lib.hid htd
        have HFL := Lib.hid (flush_some w.heap.size _ _ _ wr hd h0)
        have hob : u4.ownBlock ≠ some w.heap.size := fun e => by have := hown.lt _ e; omega
        have HOB := Lib.hid hob
        have HOW := Lib.hid hown
        clear htd hd hob hown
        go_wp2_with fail
        refine HFL.out.mono ?_
        rintro e w2 ⟨v2, rfl, hv2, _, hbut⟩
        have ho2 := own_past HOW.out hbut HOB.out
        have hb2 : Below w.heap.size w w2 := hbw.trans (hbut.below hbw.size (Nat.le_refl _))
        have hsz := hbut.size
        have HV2 := Lib.hid hv2
        obtain ⟨xo, xc, rfl⟩ := hv2.len
        clear hv2 hbut HFL HOB
        go_wp2_with (at_builtin; refine wpList_append_held w2 rfl (.tmp 18) (.tmp 19) 29 rfl (w.heap.size + 1) 21 (.int .i32 0) 4 Try.underlying29 info_i32 rfl .i32 u4 n (feedTo (0, 0, 0) (flatN L L.length)) rfl ho2 (.slice xo 1 xc) [65533] rfl HV2.out (by simp; omega) (by simp; omega) (by omega) ?_)
        intro v3 w3 ho3 hb3
        have ho3' : w3.ownsRow (w.heap.size + 1) 21 1 v3 (n + 1) ((feedTo (0, 0, 0) (flatN L L.length) ++ [65533]).map (Value.int .i32)) := by rw [List.map_append]; exact ho3
        have hh3 := held_of_owns ho3'
        have hb4 := hb2.trans (hb3.mono (Nat.le_succ _))
        clear ho3'
        clear ho3 hb3 ho2
        go_wp2
        go_ret
        exact ⟨_, rfl, by rw [HTD.out]; exact hh3, hb4⟩
      · rw [if_neg h0, List.append_nil] at htd
        have HTD := Lib.hid htd
        have hh0 : (feedSt (0, 0, 0) (flatN L L.length)).2.2 = 0 := by
          have hwf := wfS_feed (0, 0, 0) (flatN L L.length) wfS_zero (HBF.out _)
          rcases hwf with ⟨_, _, h⟩ | ⟨_, _, h, _⟩
          · exact h
          · omega
        rw [hh0] at hd
        have HFL := Lib.hid (flush_none w.heap.size _ _ wr hd)
        have hhn := held_of_owns hown
        have HOW := Lib.hid hown
        clear htd hd h0 hh0
        go_wp2_with fail
        refine HFL.out.mono ?_
        rintro e w2 ⟨rfl, rfl⟩
        go_wp2_with (at_builtin; refine wpList_append_held wr rfl (.tmp 18) (.tmp 19) 29 rfl (w.heap.size + 1) 21 (.int .i32 0) 4 Try.underlying29 info_i32 rfl .i32 u4 n (feedTo (0, 0, 0) (flatN L L.length)) rfl HOW.out (.slice none 0 0) [] rfl (Held.nil .i32 _) (by simp; omega) (by simp; omega) (by omega) ?_)
        intro v3 w3 ho3 hb3
        have hh3 : Held .i32 w3 v3 (feedTo (0, 0, 0) (flatN L L.length)) := held_of_owns (n := n) (by first | exact ho3 | simpa using ho3)
        have hb4 := hbw.trans (hb3.mono (Nat.le_succ _))
        clear ho3 hb3
        go_wp2
        go_ret
        exact ⟨_, rfl, by rw [HTD.out]; exact hh3, hb4⟩
end Go.Proofs.Ytgoeacmpphmnoaa
