/- cwidth.Of; works of layer 19. -/
import Derived.Test.YtfkeeigaocmalaaCwidB
namespace Go.Proofs.Ytfkeeigaocmalaa
open Go.RowKit Go.ChangeShapes Go.WideShapes
theorem picAt_known {xs : List Int} (k : Nat) (hk : k < xs.length) : picAt (knownL xs) (k + 1) = inTab tPict (xs.getD k 0) := by
  show ((knownL xs).getD k Pr.none).pc = _
  rw [knownL_at hk]
  rfl
theorem rowW_two (xs : List Int) (ps : List Pr) (k : Nat) : (if anyW xs ps k = true then (2 : Int) else 1) = rowW xs ps k := rfl
set_option maxRecDepth 100000 in
set_option maxHeartbeats 1000000 in
theorem cof_any (v : Value) (xs : List Int) (w : World) (hx : Held .i32 w v xs) (hn : xs.length ≤ 1000000) :
    Calls Try.prog 35 #[v] w (Gives w (.int .i64 (rowW xs (knownL xs) xs.length))) := by
  obtain ⟨ao, ca, rfl, hc⟩ := hx.view
  have HC := Lib.hid hc
  clear hc hx
  go_enter Try.func35, Try.ntmps35
  go_wp2
  go_loopw [3, 9] (fun wd i wr => ∃ k : Nat, k ≤ xs.length ∧ i = .int .i64 k ∧ wd = .int .i64 (rowW xs (knownL xs) k) ∧ GaugeAt wr w.heap.size (decide (0 < k)) (picAt (knownL xs) k) (anyW xs (knownL xs) k) ∧ Below w.heap.size w wr) (fun _ i _ => xs.length - (intOf i).toNat)
  case atStart => exact ⟨0, Nat.zero_le _, rfl, rfl, Has.new w _ _, (Below.refl _ _).alloc (Nat.le_refl _) _⟩
  case round =>
    obtain ⟨k, hk, rfl, rfl, hg, hbw⟩ := hrel
    by_cases hlt : k < xs.length
    · obtain ⟨b, off, rfl, hb, hcx⟩ := HC.out k hlt
      have hcx := (hbw.cell (p := ⟨b, off + k, none⟩) hb).trans hcx
      have hst := fun w' (h : GaugeAt w' w.heap.size (decide (0 < k)) (picAt (knownL xs) k) (anyW xs (knownL xs) k)) => gstep_any w.heap.size _ _ _ (xs.getD k 0) ((knownL xs).getD k Pr.none).br ((knownL xs).getD k Pr.none).pc ((knownL xs).getD k Pr.none).cv ((knownL xs).getD k Pr.none).ea w' h
      rw [knownL_at hlt] at hst
      have hnext : (anyW xs (knownL xs) k || widB (decide (0 < k)) (picAt (knownL xs) k) (xs.getD k 0) (knownPr (xs.getD k 0)).br (knownPr (xs.getD k 0)).pc (knownPr (xs.getD k 0)).ea) = anyW xs (knownL xs) (k + 1) := by
        show _ = (anyW xs (knownL xs) k || condW xs (knownL xs) k)
        unfold condW
        rw [knownL_at hlt]
      rw [hnext] at hst
      have hpic := picAt_known (xs := xs) k hlt
      rw [show (knownPr (xs.getD k 0)).pc = picAt (knownL xs) (k + 1) from hpic.symm] at hst
      obtain ⟨pic', hp'⟩ : ∃ y, y = picAt (knownL xs) (k + 1) := ⟨_, rfl⟩
      have HST := Lib.hid hst
      have HP := Lib.hid hpic
      have HG := Lib.hid hg
      clear hst hnext hpic hg hp'
      obtain ⟨r, hr⟩ : ∃ r, r = xs.getD k 0 := ⟨_, rfl⟩
      rw [← hr] at hcx HST HP
      clear hr
      go_wp2_with fail
      refine (ucdof_any r _).mono ?_
      rintro e w1 ⟨rfl, b1⟩
      rw [show knownV r = .agg #[.int .i64 (knownPr r).br, .bool (picAt (knownL xs) (k + 1)), .int .i64 (knownPr r).cv, .int .i64 (knownPr r).ea] by rw [HP.out]; rfl]
      have hg1 : GaugeAt w1 w.heap.size _ _ _ := Has.below HG.out b1 (Has.lt HG.out)
      have hb1 := hbw.trans (b1.mono hbw.size)
      have HG1 := Lib.hid hg1
      clear hg1 hcx
      go_wp2_with fail
      refine (HST.out _ HG1.out).mono ?_
      rintro e w2 ⟨rfl, hg2, hbut⟩
      have hb2 := hb1.trans (hbut.below hb1.size (Nat.le_refl _))
      rw [rowW_two]
      have hg3 : GaugeAt w2 w.heap.size (decide (0 < k + 1)) (picAt (knownL xs) (k + 1)) (anyW xs (knownL xs) (k + 1)) := by rw [decide_eq_true (show 0 < k + 1 by omega)]; exact hg2
      clear hg2 hbut
      go_wp2
      go_roundw
      case rel => exact ⟨k + 1, by omega, by go_num, rfl, hg3, hb2⟩
      case measure => simp [intOf] <;> omega
    · obtain rfl : k = xs.length := by omega
      go_wp2
      go_ret
      exact ⟨(ret_eq (by first | rfl | (simp <;> omega))), hbw⟩
theorem cof_val (v : Value) (xs : List Int) (n : Int) (h : rowW xs (knownL xs) xs.length = n) (w : World) (hx : Held .i32 w v xs) (hn : xs.length ≤ 1000000) : Calls Try.prog 35 #[v] w (Gives w (.int .i64 n)) := h ▸ cof_any v xs w hx hn
theorem tabB1 {w0 w1 w2 : World} {o : Obj} (h : Below w0.heap.size w0 w1) (c : Below (w1.alloc o).heap.size (w1.alloc o) w2) : Below w0.heap.size w0 w2 := (h.alloc h.size o).trans (c.mono (by have := h.size; simp; omega))
set_option maxRecDepth 100000 in
theorem works19_any (w : World) : Calls Try.prog 9 #[] w (Yes w) := by
  go_enter Try.func9, Try.ntmps9
  go_wp2_with fail
  refine (cof_val _ [10084] 1 (by decide +kernel) _ (held_new .i32 w [.int .i32 10084] 21 1 1 [10084] rfl rfl) (by decide)).mono ?_
  rintro e w1 ⟨rfl, b1⟩
  have b1 := tabB1 (Below.refl w.heap.size w) b1
  go_wp2_with fail
  refine (cof_val _ [10084, 65039] 2 (by decide +kernel) _ (held_new .i32 w1 [.int .i32 10084, .int .i32 65039] 21 2 2 [10084, 65039] rfl rfl) (by decide)).mono ?_
  rintro e w2 ⟨rfl, b2⟩
  have b2 := tabB1 b1 b2
  go_wp2_with fail
  refine (cof_val _ [127465, 127466] 2 (by decide +kernel) _ (held_new .i32 w2 [.int .i32 127465, .int .i32 127466] 21 2 2 [127465, 127466] rfl rfl) (by decide)).mono ?_
  rintro e w3 ⟨rfl, b3⟩
  have b3 := tabB1 b2 b3
  go_wp2_with fail
  refine (cof_val _ [101, 769] 1 (by decide +kernel) _ (held_new .i32 w3 [.int .i32 101, .int .i32 769] 21 2 2 [101, 769] rfl rfl) (by decide)).mono ?_
  rintro e w4 ⟨rfl, b4⟩
  have b4 := tabB1 b3 b4
  go_wp2_with fail
  refine (cof_val _ [] 1 (by decide +kernel) _ (Held.nil .i32 w4) (by decide)).mono ?_
  rintro e w5 ⟨rfl, b5⟩
  have b5 := b4.trans (b5.mono b4.size)
  go_wp2
  go_ret
  exact ⟨(ret_eq (by first | rfl | (simp <;> omega))), b5⟩
end Go.Proofs.Ytfkeeigaocmalaa
