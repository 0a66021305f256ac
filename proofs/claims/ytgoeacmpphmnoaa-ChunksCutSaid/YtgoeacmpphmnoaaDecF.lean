/- The reference's Feed of layer 3. -/
import Derived.Test.YtgoeacmpphmnoaaDecT
import Derived.Test.YtgoeacmpphmnoaaHeldK
namespace Go.Proofs.Ytgoeacmpphmnoaa
open Go.RowKit Go.ChangeShapes Go.WideShapes
def GivesFeed (w : World) (s : St) (p : List Int) (e : Ending) (w' : World) : Prop := ∃ vt vh H', e = .returned (.tuple #[vt, vh]) ∧ Held .i32 w' vt (feedTo s p) ∧ Held .u8 w' vh H' ∧ Rel H' (feedSt s p) ∧ Below w.heap.size w w' ∧ Fresh w.heap.size vt
set_option maxRecDepth 100000 in
set_option maxHeartbeats 1000000 in
theorem rfeed_any (s : St) (H : List Int) (v u : Value) (p : List Int) (w : World) (hr : Rel H s) (hv : Held .u8 w v H) (hu : Held .u8 w u p) (hp : ∀ i, i < p.length → 0 ≤ p.getD i 0 ∧ p.getD i 0 ≤ 255) (hl : p.length ≤ 1000000) :
    Calls Try.prog 20 #[v, u] w (GivesFeed w s p) := by
  obtain ⟨ao, cap, rfl, hc⟩ := hu.view
  obtain ⟨ho, hcp, rfl⟩ := hv.len
  have HC := Lib.hid hc
  have HV := Lib.hid hv
  have HR := Lib.hid hr
  have HP := Lib.hid hp
  clear hc hv hr hp hu
  go_enter Try.func20, Try.ntmps20
  go_wp2
  go_loopw [0, 6, 7] (fun vh vo i wr => ∃ (k n : Nat) (K : List Int), k ≤ p.length ∧ i = .int .i64 k ∧ (feedTo s (p.take k)).length = n ∧ wr.ownsRow w.heap.size 21 1 vo n ((feedTo s (p.take k)).map (Value.int .i32)) ∧ Held .u8 wr vh K ∧ Rel K (feedSt s (p.take k)) ∧ Below w.heap.size w wr) (fun _ _ i _ => p.length - (intOf i).toNat)
  case atStart => exact ⟨0, 0, H, Nat.zero_le _, rfl, rfl, World.ownsRow_nil _ _ _ _, HV.out, HR.out, Below.refl _ _⟩
  case round =>
    obtain ⟨k, n, K, hk, rfl, hn, hown, hh, hrel, hbw⟩ := hrel
    by_cases hlt : k < p.length
    · obtain ⟨b, off, rfl, hb, hcx⟩ := HC.out k hlt
      have hcx := (hbw.cell (p := ⟨b, off + k, none⟩) hb).trans hcx
      obtain ⟨x0, x1⟩ := HP.out k hlt
      have e1 := feedTo_take s p k hlt
      have e2 := feedSt_take s p k hlt
      obtain ⟨x, hx⟩ : ∃ x, x = p.getD k 0 := ⟨_, rfl⟩
      rw [← hx] at hcx x0 x1 e1 e2
      have hst := rstep_any K x _ wr hh (rel_len hrel).2 (rel_bytes hrel) x0 x1
      obtain ⟨hq1, hq2⟩ := rel_step hrel x x0 x1
      have hto : (stepTo (feedSt s (p.take k)) x).length ≤ 2 := tellT_len _ _ _ _
      rw [← e2] at hq2
      rw [← hq1] at hto e1
      obtain ⟨R, hR⟩ : ∃ R, R = refS K x := ⟨_, rfl⟩
      rw [← hR] at hst hq2 hto e1
      obtain ⟨T, K2⟩ := R
      have hq2 : Rel K2 (feedSt s (p.take (k + 1))) := hq2
      have hto : T.length ≤ 2 := hto
      have e1 : feedTo s (p.take (k + 1)) = feedTo s (p.take k) ++ T := e1
      have hnl := feedTo_len s (p.take k)
      have hnk : (p.take k).length ≤ k := List.length_take_le _ _
      have hn2 : n ≤ 2000000 := by omega
      have HST := Lib.hid (show Calls Try.prog 70 _ wr (GivesStep wr (T, K2)) from hst)
      have HREL := Lib.hid hq2
      have HE := Lib.hid e1
      have HN := Lib.hid hn
      have HOW := Lib.hid hown
      have hlo := fun g e => (hown.lt g e).2
      have HLO := Lib.hid hlo
      obtain ⟨vo', vc', rfl⟩ := hh.len
      clear hx hst hq1 hq2 hR hh hrel e1 e2 hn hown hnl hnk hlo
      go_wp2_with fail
      refine HST.out.mono ?_
      rintro e w2 ⟨vt, vh, rfl, ht, hh2, b2, hf, _⟩
      have hb2 := hbw.trans (b2.mono hbw.size)
      have hown2 := ownsRow_below HOW.out b2
      have HT := Lib.hid ht
      have HHH := Lib.hid hh2
      have HF := Lib.hid hf
      obtain ⟨to', tc, rfl⟩ := ht.len
      clear HST ht hh2 hf hcx
      go_wp2_with (at_builtin; refine wpList_append_heldK w2 rfl (.tmp 24) (.tmp 25) 29 rfl w.heap.size 21 (.int .i32 0) 4 Try.underlying29 info_i32 rfl .i32 u6 n _ rfl hown2 _ T rfl HT.out (by omega) (by omega) hb2.size ?_)
      intro v3 w3 hown3 hb3 hkp
      have hh3 := HHH.out.outlive hb3.size HF.out HLO.out hkp
      have hb3' := hb2.trans hb3
      have hown4 : w3.ownsRow w.heap.size 21 1 v3 (n + T.length) ((feedTo s (p.take (k + 1))).map (Value.int .i32)) := by rw [HE.out, List.map_append]; exact hown3
      have hn4 : (feedTo s (p.take (k + 1))).length = n + T.length := by rw [HE.out, List.length_append, HN.out]
      have HN4 := Lib.hid hn4
      clear hown3 hb3 hkp hown2 b2 hb2 hn4 HE HN
      go_wp2
      go_roundw
      case rel => exact ⟨k + 1, n + T.length, K2, by omega, by go_num, HN4.out, hown4, hh3, HREL.out, hb3'⟩
      case measure => simp [intOf] <;> omega
    · obtain rfl : k = p.length := by omega
      rw [List.take_length] at hown hrel
      go_wp2
      go_ret2
      exact ⟨_, _, K, rfl, held_of_owns hown, hh, hrel, hbw, Fresh.ofOwn hown⟩
end Go.Proofs.Ytgoeacmpphmnoaa
