/- The reference's Runes of layer 4; parts compared. -/
import Derived.Test.YtgoeacmpphmnoaaUallP
import Derived.Test.YtgoeacmpphmnoaaUallR
import Derived.Test.YtgoeacmpphmnoaaUallW
namespace Go.Proofs.Ytgoeacmpphmnoaa
open Go.RowKit Go.ChangeShapes Go.WideShapes
theorem heldG_below {w w' : World} {v : Value} {l : List G5} (h : HeldG w v l) (hb : Below w.heap.size w w') : HeldG w' v l := by
  obtain ⟨ao, cap, rfl, hc⟩ := h
  refine ⟨ao, cap, rfl, fun i hi => ?_⟩
  obtain ⟨b, off, rfl, hlt, c0, c1, c2, c3, c4⟩ := hc i hi
  exact ⟨b, off, rfl, by have := hb.size; omega, (hb.cell (p := ⟨b, off + i * 5, none⟩) hlt).trans c0, (hb.cell (p := ⟨b, off + i * 5 + 1, none⟩) hlt).trans c1, (hb.cell (p := ⟨b, off + i * 5 + 2, none⟩) hlt).trans c2, (hb.cell (p := ⟨b, off + i * 5 + 3, none⟩) hlt).trans c3, (hb.cell (p := ⟨b, off + i * 5 + 4, none⟩) hlt).trans c4⟩
/-- Part k of a held row of parts. -/
theorem heldG_at {w : World} {ao : Option Addr} {n cap : Nat} {xs : List Int} {K : Nat} (h : HeldG w (.slice ao n cap) (partsN xs K)) (k : Nat) (hk : k < K) :
    ∃ b off, ao = some ⟨b, off, none⟩ ∧ b < w.heap.size ∧ w.cell? ⟨b, off + k * 5, none⟩ = some (.int .i32 (partG xs (posN xs k)).1) ∧ w.cell? ⟨b, off + k * 5 + 1, none⟩ = some (.int .i64 (partG xs (posN xs k)).2.1) ∧
      w.cell? ⟨b, off + k * 5 + 2, none⟩ = some (.int .i64 (partG xs (posN xs k)).2.2.1) ∧ w.cell? ⟨b, off + k * 5 + 3, none⟩ = some (.int .i64 (partG xs (posN xs k)).2.2.2.1) ∧ w.cell? ⟨b, off + k * 5 + 4, none⟩ = some (.bool (partG xs (posN xs k)).2.2.2.2) := by
  obtain ⟨ao', cap', he, hc⟩ := h
  cases he
  have hkl : k < (partsN xs K).length := by rw [partsN_len]; exact hk
  have hx : (partsN xs K)[k] = partG xs (posN xs k) := by
    have := partsN_at xs K k hk
    rw [List.getElem?_eq_getElem hkl] at this
    exact Option.some.inj this
  have := hc k hkl
  rw [hx] at this
  exact this
theorem own_lower {w : World} {B B' e size n : Nat} {v : Value} {xs : List Value} (h : w.ownsRow B e size v n xs) (hb : B' ≤ B) : w.ownsRow B' e size v n xs := by
  refine ⟨h.1, ?_⟩
  rcases h.2 with hv | ⟨g, cap, cur, rfl, hg, hrest⟩
  · exact .inl hv
  · exact .inr ⟨g, cap, cur, rfl, by omega, hrest⟩
theorem got_neq (r a l kn : Int) (bd : Bool) (r' a' l' kn' : Int) (bd' : Bool) (w : World) : (binOp .neq 32 (.agg #[.int .i32 r, .int .i64 a, .int .i64 l, .int .i64 kn, .bool bd]) (.agg #[.int .i32 r', .int .i64 a', .int .i64 l', .int .i64 kn', .bool bd'])).run Try.prog w = .ok (.bool (!gotEq r a l kn bd r' a' l' kn' bd')) w := by
  rw [run_neq_struct, run_equalIn_agg _ _ _ _ _ (by kernel_rfl) got_stood]
  simp only [Program.fieldsOf, Try.underlying32]
  by_cases h1 : r = r' <;> by_cases h2 : a = a' <;> by_cases h3 : l = l' <;> by_cases h4 : kn = kn' <;> simp [Op.eqFields, go_sem, part, h1, h2, h3, h4, gotEq]
  all_goals cases bd <;> cases bd' <;> rfl
theorem gotEq_self (r a l kn : Int) (bd : Bool) : gotEq r a l kn bd r a l kn bd = true := by unfold gotEq; simp
set_option maxRecDepth 100000 in
set_option maxHeartbeats 1000000 in
theorem rrunes4_any (v : Value) (xs : List Int) (w : World) (hv : Held .u8 w v xs) (hcp : CapOk v) (hm : xs.length ≤ 1000000) (hr : ∀ i, i < xs.length → 0 ≤ xs.getD i 0 ∧ xs.getD i 0 ≤ 255) :
    Calls Try.prog 19 #[v] w (RunesOk w xs) := by
  obtain ⟨ao, cap, rfl, _⟩ := id hv.view
  have HV := Lib.hid hv
  have HC := Lib.hid hcp
  have HR := Lib.hid hr
  clear hv hcp hr
  go_enter Try.func19, Try.ntmps19
  go_wp2_with fail
  refine (rall_any _ xs _ HV.out HC.out hm HR.out).mono ?_
  rintro e w1 ⟨K, lv, rfl, hK, hown, b1⟩
  have hG := heldG_of_owns hown
  obtain ⟨lo, lc, rfl, _⟩ := id hG
  rw [partsN_len] at hG ⊢
  have hKl : K ≤ xs.length := by rw [← hK]; exact posN_ge xs K
  have HG := Lib.hid hG
  have HK := Lib.hid hK
  clear hown hG hK
  go_wp2
  go_loopw [3, 5] (fun o i wr => ∃ k : Nat, k ≤ K ∧ i = .int .i64 k ∧ wr.ownsRow w1.heap.size 21 1 o k ((valsN xs k).map (Value.int .i32)) ∧ Below w1.heap.size w1 wr) (fun _ i _ => K - (intOf i).toNat)
  case atStart => exact ⟨0, Nat.zero_le _, rfl, World.ownsRow_nil _ _ _ _, Below.refl _ _⟩
  case round =>
    obtain ⟨k, hk, rfl, hown, hbw⟩ := hrel
    by_cases hlt : k < K
    · have hsn := vals_snoc xs k
      obtain ⟨bl, offl, rfl, hbl, c0, _⟩ := heldG_at (heldG_below HG.out hbw) k hlt
      obtain ⟨r, hr⟩ : ∃ r, r = (partG xs (posN xs k)).1 := ⟨_, rfl⟩
      rw [← hr] at hsn c0
      have HSN := Lib.hid hsn
      clear hr hsn
      go_wp2_with (at_builtin; refine wpList_append_new wr rfl (.tmp 14) (.tmp 20) 29 rfl w1.heap.size 21 (.int .i32 0) 4 Try.underlying29 Try.info21u rfl u3 k ((valsN xs k).map (Value.int .i32)) rfl hown [.int .i32 r] 1 1 rfl rfl (by intro u hu; simp at hu; rcases hu with rfl <;> rfl) (by omega) (by omega) hbw.size ?_)
      intro v' w' hown' hb'
      have hown3 : w'.ownsRow w1.heap.size 21 1 v' (k + 1) ((valsN xs (k + 1)).map (Value.int .i32)) := by rw [HSN.out, List.map_append]; exact hown'
      have hb3 := hbw.trans hb'
      clear hown' hown hb' HSN
      go_wp2
      go_roundw
      case rel => exact ⟨k + 1, by omega, by go_num, hown3, hb3⟩
      case measure => simp [intOf] <;> omega
    · obtain rfl : k = K := by omega
      have hfin := b1.trans (hbw.mono b1.size)
      have hlow := own_lower hown b1.size
      go_wp2
      go_ret
      exact ⟨k, _, rfl, HK.out, hlow, hfin⟩
end Go.Proofs.Ytgoeacmpphmnoaa
