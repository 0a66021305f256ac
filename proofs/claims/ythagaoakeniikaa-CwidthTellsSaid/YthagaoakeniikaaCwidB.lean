/- The reference's Of of layer 19; cwidth.Of; works. -/
import Derived.Test.YthagaoakeniikaaCwidA
import Derived.Test.YthagaoakeniikaaPropL
namespace Go.Proofs.Ythagaoakeniikaa
open Go.RowKit Go.ChangeShapes Go.WideShapes
def knownPr (r : Int) : Pr := ⟨gcbI r, inTab tPict r, conjO r, eastI r⟩
def knownL (xs : List Int) : List Pr := xs.map knownPr
theorem knownL_at {xs : List Int} {k : Nat} (h : k < xs.length) : (knownL xs).getD k Pr.none = knownPr (xs.getD k 0) := by
  have h' : k < (knownL xs).length := by simpa [knownL] using h
  simp [List.getD, List.getElem?_eq_getElem h, knownL]
theorem knownL_len (xs : List Int) : (knownL xs).length = xs.length := by simp [knownL]
theorem info_prop : (Try.prog.info? 26).map (fun i => (i.zero, i.size, i.bytes)) = some (some (.agg #[.int .i64 0, .bool false, .int .i64 0, .int .i64 0]), 4, 32) := by kernel_rfl
set_option maxRecDepth 100000 in
set_option maxHeartbeats 1000000 in
theorem rof19_any (v : Value) (xs : List Int) (w : World) (hx : Held .i32 w v xs) (hn : xs.length ≤ 1000000) (hr : ∀ i, i < xs.length → -2147483648 ≤ xs.getD i 0 ∧ xs.getD i 0 ≤ 2147483647) :
    Calls Try.prog 41 #[v] w (Gives w (.int .i64 (rowW xs (knownL xs) xs.length))) := by
  obtain ⟨ao, ca, rfl, hc⟩ := hx.view
  have HC := Lib.hid hc
  have HX := Lib.hid hx
  have HR := Lib.hid hr
  clear hc hx hr
  go_enter Try.func41, Try.ntmps41
  go_wp2
  go_loopw [3, 4] (fun p i wr => ∃ k : Nat, k ≤ xs.length ∧ i = .int .i64 k ∧ wr.ownsRow w.heap.size 26 4 p k (prsCells ((knownL xs).take k)) ∧ Below w.heap.size w wr) (fun _ i _ => xs.length - (intOf i).toNat)
  case atStart => exact ⟨0, Nat.zero_le _, rfl, World.ownsRow_nil _ _ _ _, Below.refl _ _⟩
  case round =>
    obtain ⟨k, hk, rfl, hown, hbw⟩ := hrel
    by_cases hlt : k < xs.length
    · obtain ⟨b, off, rfl, hb, hcx⟩ := HC.out k hlt
      have hcx := (hbw.cell (p := ⟨b, off + k, none⟩) hb).trans hcx
      obtain ⟨r0, r1⟩ := HR.out k hlt
      have hsn := prs_snoc (knownL xs) k (by rw [knownL_len]; exact hlt)
      rw [knownL_at hlt] at hsn
      obtain ⟨r, hr⟩ : ∃ r, r = xs.getD k 0 := ⟨_, rfl⟩
      rw [← hr] at hcx r0 r1 hsn
      have HSN := Lib.hid hsn
      have HOW := Lib.hid hown
      clear hr hsn hown
      go_wp2_with fail
      refine (rucdof_any r _ r0 r1).mono ?_
      rintro e w1 ⟨rfl, b1⟩
      have hown1 := ownsRow_below HOW.out b1
      have hb1 := hbw.trans (b1.mono hbw.size)
      rw [show knownV r = .agg #[.int .i64 (gcbI r), .bool (inTab tPict r), .int .i64 (conjO r), .int .i64 (eastI r)] from rfl]
      clear hcx
      go_wp2_with (at_builtin; refine wpList_append_newS w1 rfl (.tmp 11) (.tmp 17) 36 rfl w.heap.size 26 (.agg #[.int .i64 0, .bool false, .int .i64 0, .int .i64 0]) 4 32 Try.underlying36 info_prop rfl (by decide) u3 k (prsCells ((knownL xs).take k)) rfl hown1 [.int .i64 (gcbI r), .bool (inTab tPict r), .int .i64 (conjO r), .int .i64 (eastI r)] 1 1 rfl rfl (by intro u hu; simp at hu; rcases hu with rfl | rfl | rfl | rfl <;> rfl) (by omega) (by omega) hb1.size ?_)
      intro v' w' hown' hb'
      have hown2 : w'.ownsRow w.heap.size 26 4 v' (k + 1) (prsCells ((knownL xs).take (k + 1))) := by rw [HSN.out]; exact hown'
      have hbw2 := hb1.trans hb'
      clear hown1 hown'
      go_wp2
      go_roundw
      case rel => exact ⟨k + 1, by omega, by go_num, hown2, hbw2⟩
      case measure => simp [intOf] <;> omega
    · obtain rfl : k = xs.length := by omega
      rw [List.take_of_length_le (by rw [knownL_len]; exact Nat.le_refl _)] at hown
      have hp := heldP_of_owns hown
      obtain ⟨po, pc, rfl, _⟩ := id hp
      have HP := Lib.hid hp
      clear hp hown
      go_wp2_with fail
      refine (rrow_any _ _ xs (knownL xs) _ (HX.out.below hbw) HP.out (knownL_len xs) hn).mono ?_
      rintro e w2 ⟨rfl, b2⟩
      have hfin := hbw.trans (b2.mono hbw.size)
      go_wp2
      go_ret
      exact ⟨(ret_eq (by first | rfl | (simp <;> omega))), hfin⟩
end Go.Proofs.Ythagaoakeniikaa
