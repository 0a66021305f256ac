/- Texts put together: CwidB, CwidC, GraK, GraL. -/
import Derived.Test.YtkpmmkokfllafaaGreatCwidA
import Derived.Test.YtkpmmkokfllafaaGreatMg4
import Derived.Test.YtkpmmkokfllafaaGreatGraI
import Derived.Test.YtkpmmkokfllafaaGreatMg1
/- The reference's Of of layer 19; cwidth.Of; works. -/
namespace Go.Proofs.YtkpmmkokfllafaaGreat
open Go.RowKit Go.ChangeShapes Go.WideShapes
set_option maxRecDepth 100000 in
set_option maxHeartbeats 1000000 in
theorem rof19_any (v : Value) (xs : List Int) (w : World) (hx : Held .i32 w v xs) (hn : xs.length ≤ 1000000) (hr : ∀ i, i < xs.length → -2147483648 ≤ xs.getD i 0 ∧ xs.getD i 0 ≤ 2147483647) :
    Calls Tryz.prog 54 #[v] w (Gives w (.int .i64 (rowW xs (knownL xs) xs.length))) := by
  obtain ⟨ao, ca, rfl, hc⟩ := hx.view
  have HC := Lib.hid hc
  have HX := Lib.hid hx
  have HR := Lib.hid hr
  clear hc hx hr
  go_enter Tryz.func54, Tryz.ntmps54
  go_wp2
  go_loopw [3, 4] (fun p i wr => ∃ k : Nat, k ≤ xs.length ∧ i = .int .i64 k ∧ wr.ownsRow w.heap.size 62 4 p k (prsCells ((knownL xs).take k)) ∧ Below w.heap.size w wr) (fun _ i _ => xs.length - (intOf i).toNat)
  case atStart => exact ⟨0, Nat.zero_le _, rfl, World.ownsRow_nil _ _ _ _, Below.refl _ _⟩
  case round =>
    obtain ⟨k, hk, rfl, hown, hbw⟩ := hrel
    by_cases hlt : k < xs.length
    · obtain ⟨b, off, rfl, hb, hcx⟩ := HC.out k hlt
      have hcx := (hbw.cell (p := ⟨b, off + k, none⟩) hb).trans hcx
      obtain ⟨r0, r1⟩ := HR.out k hlt
      have hsn := prs_snoc (knownL xs) k (by rw [knownL_len]; exact hlt)
      rw [knownL_at hlt] at hsn
      obtain ⟨r, hr⟩ : ∃ r, r = xs.getD k 0 := ⟨_, rfl⟩
      rw [← hr] at hcx r0 r1 hsn
      have HSN := Lib.hid hsn
      have HOW := Lib.hid hown
      clear hr hsn hown
      go_wp2_with fail
      refine (rucdof_any r _ r0 r1).mono ?_
      rintro e w1 ⟨rfl, b1⟩
      have hown1 := ownsRow_below HOW.out b1
      have hb1 := hbw.trans (b1.mono hbw.size)
      rw [show knownV r = .agg #[.int .i64 (gcbI r), .bool (inTab tPict r), .int .i64 (conjO r), .int .i64 (eastI r)] from rfl]
      clear hcx
      go_wp2_with (at_builtin; refine wpList_append_newS w1 rfl (.tmp 11) (.tmp 17) 110 rfl w.heap.size 62 (.agg #[.int .i64 0, .bool false, .int .i64 0, .int .i64 0]) 4 32 Tryz.underlying110 info_prop rfl (by decide) u3 k (prsCells ((knownL xs).take k)) rfl hown1 [.int .i64 (gcbI r), .bool (inTab tPict r), .int .i64 (conjO r), .int .i64 (eastI r)] 1 1 rfl rfl (by intro u hu; simp at hu; rcases hu with rfl | rfl | rfl | rfl <;> rfl) (by omega) (by omega) hb1.size ?_)
      intro v' w' hown' hb'
      have hown2 : w'.ownsRow w.heap.size 62 4 v' (k + 1) (prsCells ((knownL xs).take (k + 1))) := by rw [HSN.out]; exact hown'
      have hbw2 := hb1.trans hb'
      clear hown1 hown'
      go_wp2
      go_roundw
      case rel => exact ⟨k + 1, by omega, by go_num, hown2, hbw2⟩
      case measure => simp [intOf] <;> omega
    · obtain rfl : k = xs.length := by omega
      rw [List.take_of_length_le (by rw [knownL_len]; exact Nat.le_refl _)] at hown
      have hp := heldP_of_owns hown
      obtain ⟨po, pc, rfl, _⟩ := id hp
      have HP := Lib.hid hp
      clear hp hown
      go_wp2_with fail
      refine (rrow_any _ _ xs (knownL xs) _ (HX.out.below hbw) HP.out (knownL_len xs) hn).mono ?_
      rintro e w2 ⟨rfl, b2⟩
      have hfin := hbw.trans (b2.mono hbw.size)
      go_wp2
      go_ret
      exact ⟨(ret_eq (by first | rfl | (simp <;> omega))), hfin⟩
end Go.Proofs.YtkpmmkokfllafaaGreat
/- cwidth.Of; works of layer 19. -/
namespace Go.Proofs.YtkpmmkokfllafaaGreat
open Go.RowKit Go.ChangeShapes Go.WideShapes
theorem picAt_known {xs : List Int} (k : Nat) (hk : k < xs.length) : picAt (knownL xs) (k + 1) = inTab tPict (xs.getD k 0) := by
  show ((knownL xs).getD k Pr.none).pc = _
  rw [knownL_at hk]
  rfl
theorem rowW_two (xs : List Int) (ps : List Pr) (k : Nat) : (if anyW xs ps k = true then (2 : Int) else 1) = rowW xs ps k := rfl
set_option maxRecDepth 100000 in
set_option maxHeartbeats 1000000 in
theorem cof_any (v : Value) (xs : List Int) (w : World) (hx : Held .i32 w v xs) (hn : xs.length ≤ 1000000) :
    Calls Tryz.prog 32 #[v] w (Gives w (.int .i64 (rowW xs (knownL xs) xs.length))) := by
  obtain ⟨ao, ca, rfl, hc⟩ := hx.view
  have HC := Lib.hid hc
  clear hc hx
  go_enter Tryz.func32, Tryz.ntmps32
  go_wp2
  go_loopw [3, 9] (fun wd i wr => ∃ k : Nat, k ≤ xs.length ∧ i = .int .i64 k ∧ wd = .int .i64 (rowW xs (knownL xs) k) ∧ GaugeAt wr w.heap.size (decide (0 < k)) (picAt (knownL xs) k) (anyW xs (knownL xs) k) ∧ Below w.heap.size w wr) (fun _ i _ => xs.length - (intOf i).toNat)
  case atStart => exact ⟨0, Nat.zero_le _, rfl, rfl, Has.new w _ _, (Below.refl _ _).alloc (Nat.le_refl _) _⟩
  case round =>
    obtain ⟨k, hk, rfl, rfl, hg, hbw⟩ := hrel
    by_cases hlt : k < xs.length
    · obtain ⟨b, off, rfl, hb, hcx⟩ := HC.out k hlt
      have hcx := (hbw.cell (p := ⟨b, off + k, none⟩) hb).trans hcx
      have hst := fun w' (h : GaugeAt w' w.heap.size (decide (0 < k)) (picAt (knownL xs) k) (anyW xs (knownL xs) k)) => gstep_any w.heap.size _ _ _ (xs.getD k 0) ((knownL xs).getD k Pr.none).br ((knownL xs).getD k Pr.none).pc ((knownL xs).getD k Pr.none).cv ((knownL xs).getD k Pr.none).ea w' h
      rw [knownL_at hlt] at hst
      have hnext : (anyW xs (knownL xs) k || widB (decide (0 < k)) (picAt (knownL xs) k) (xs.getD k 0) (knownPr (xs.getD k 0)).br (knownPr (xs.getD k 0)).pc (knownPr (xs.getD k 0)).ea) = anyW xs (knownL xs) (k + 1) := by
        show _ = (anyW xs (knownL xs) k || condW xs (knownL xs) k)
        unfold condW
        rw [knownL_at hlt]
      rw [hnext] at hst
      have hpic := picAt_known (xs := xs) k hlt
      rw [show (knownPr (xs.getD k 0)).pc = picAt (knownL xs) (k + 1) from hpic.symm] at hst
      obtain ⟨pic', hp'⟩ : ∃ y, y = picAt (knownL xs) (k + 1) := ⟨_, rfl⟩
      have HST := Lib.hid hst
      have HP := Lib.hid hpic
      have HG := Lib.hid hg
      clear hst hnext hpic hg hp'
      obtain ⟨r, hr⟩ : ∃ r, r = xs.getD k 0 := ⟨_, rfl⟩
      rw [← hr] at hcx HST HP
      clear hr
      go_wp2_with fail
      refine (ucdof_any r _).mono ?_
      rintro e w1 ⟨rfl, b1⟩
      rw [show knownV r = .agg #[.int .i64 (knownPr r).br, .bool (picAt (knownL xs) (k + 1)), .int .i64 (knownPr r).cv, .int .i64 (knownPr r).ea] by rw [HP.out]; rfl]
      have hg1 : GaugeAt w1 w.heap.size _ _ _ := Has.below HG.out b1 (Has.lt HG.out)
      have hb1 := hbw.trans (b1.mono hbw.size)
      have HG1 := Lib.hid hg1
      clear hg1 hcx
      go_wp2_with fail
      refine (HST.out _ HG1.out).mono ?_
      rintro e w2 ⟨rfl, hg2, hbut⟩
      have hb2 := hb1.trans (hbut.below hb1.size (Nat.le_refl _))
      rw [rowW_two]
      have hg3 : GaugeAt w2 w.heap.size (decide (0 < k + 1)) (picAt (knownL xs) (k + 1)) (anyW xs (knownL xs) (k + 1)) := by rw [decide_eq_true (show 0 < k + 1 by omega)]; exact hg2
      clear hg2 hbut
      go_wp2
      go_roundw
      case rel => exact ⟨k + 1, by omega, by go_num, rfl, hg3, hb2⟩
      case measure => simp [intOf] <;> omega
    · obtain rfl : k = xs.length := by omega
      go_wp2
      go_ret
      exact ⟨(ret_eq (by first | rfl | (simp <;> omega))), hbw⟩
theorem cof_val (v : Value) (xs : List Int) (n : Int) (h : rowW xs (knownL xs) xs.length = n) (w : World) (hx : Held .i32 w v xs) (hn : xs.length ≤ 1000000) : Calls Tryz.prog 32 #[v] w (Gives w (.int .i64 n)) := h ▸ cof_any v xs w hx hn
theorem tabB1 {w0 w1 w2 : World} {o : Obj} (h : Below w0.heap.size w0 w1) (c : Below (w1.alloc o).heap.size (w1.alloc o) w2) : Below w0.heap.size w0 w2 := (h.alloc h.size o).trans (c.mono (by have := h.size; simp; omega))
end Go.Proofs.YtkpmmkokfllafaaGreat
/- grapheme.All and Clusters: contracts. -/
namespace Go.Proofs.YtkpmmkokfllafaaGreat
open Go.RowKit Go.ChangeShapes Go.WideShapes
attribute [local go_sem] Oper.semAt_some
section
variable {P : Program} {F : Fence} {nf : Nat} {α : Type} {E : Elem α} {Z : Zone} {w : World} {v u : Value} {L M : List α} {B : Nat} {ty : TypeId}
/-- 'append(v, u...)' within a fence. -/
theorem wpListIn_append_e {ops : Array Oper} {rest : List Oper} {o : Oper} {a : Act} {Q : Exit → Act → World → Prop} (hgd : o.guard = none) (s x : Operand) (t : TypeId)
    (ho : o.op = .call { callee := .builtin .append, args := #[s, x], argTypes := #[t, t] })
    (z : Value) (bytes : Nat) (ht : P.underlying t = some (.slice ty)) (hinfo : (P.info? ty).map (fun i => (i.zero, i.size, i.bytes)) = some (some z, E.size, bytes)) (hzs : z.cells.size = E.size) (h0 : 0 < E.size)
    (hs : a.eval s = v) (hx : a.eval x = u) (hv : OwnE E Z w B ty v L) (hu : HeldE E (fun b => Z b ∧ v.ownBlock ≠ some b) w u M) (hn : (L.length + M.length) * bytes ≤ 140737488355328) (hn0 : L.length + M.length ≤ 140737488355328) (hB : B ≤ w.heap.size)
    (h : ∀ v' w', OwnE E Z w' B ty v' (L ++ M) → Below B w w' → KeepZ (fun b => v.ownBlock ≠ some b) w w' → (∀ b, b < w.heap.size → v.ownBlock ≠ some b → v'.ownBlock ≠ some b) → wpListIn F nf P ops Q rest (a.put o.dst v') w') :
    wpListIn F nf P ops Q (o :: rest) a w := by
  obtain ⟨v', w', hr, h1, h2, h3, h4⟩ := run_append_e (P := P) t o.type z bytes ht hinfo hzs h0 hv hu hn hn0 hB
  refine wpListIn_plain hgd fun K hK' => ?_
  unfold Oper.wpIn
  refine ⟨?_, ?_⟩
  · simp [Oper.about, ho, resolve, Target.leads, Sem.run_pure]
  · rw [Oper.semAt_plain F _ _ (by rw [ho]; intro c hc'; cases hc'), exec_app ho hs hx hr]
    exact hK' _ _ (h v' w' h1 h2 h3 h4)
end
theorem exec_store_sl {P : Program} {ρ : Operand → Value} {o : Oper} {w : World} {ty : TypeId} {x y : Operand} {b off : Nat} (ho : o.op = .store ty x y) (hx : ρ x = .pointer (some ⟨b, off, none⟩)) {a : Option Addr} {n c : Nat} (hy : ρ y = .slice a n c) (u : Value) (hc : w.cell? ⟨b, off, none⟩ = some u) (hf : w.frozen? ⟨b, off, none⟩ = false) (hi : (P.info? ty).map (·.size) = some 1) : (execOp ρ o).run P w = .ok .skip (w.setCell ⟨b, off, none⟩ (.slice a n c)) := by
  obtain ⟨i, hi1, hi2⟩ := Option.map_eq_some_iff.1 hi
  have hce : 1 = P.cellsOf ty := by unfold Program.cellsOf; rw [hi1]; exact hi2.symm
  unfold execOp
  simp [ho, hx, hy, go_sem, hc, hf, run_sizeOf, hi1, hi2]
  exact hce
/-- What hands back an iterator over the clusters of xs. -/
def GivesAll (xs : List Int) (w : World) (e : Ending) (w' : World) : Prop := ∃ B v, e = .returned (.func (.func 28) #[] #[.pointer (some ⟨B, 0, none⟩)]) ∧ w'.cell? ⟨B, 0, none⟩ = some v ∧ Held .i32 w' v xs ∧ Below w.heap.size w w' ∧ w.heap.size ≤ B
set_option maxRecDepth 100000 in
theorem gall_any (v : Value) (xs : List Int) (w : World) (hx : Held .i32 w v xs) (hn : xs.length ≤ 1000000) : Calls Tryz.prog 18 #[v] w (GivesAll xs w) := by
  obtain ⟨ao, ca, rfl⟩ := hx.len
  have HC := Lib.hid (rclone_any _ xs w hx (by omega))
  clear hx
  go_enter Tryz.func18, Tryz.ntmps18
  go_wp2_with fail
  refine HC.out.mono ?_
  rintro e w1 ⟨v1, rfl, ho1, b1⟩
  have hh := held_of_owns ho1
  obtain ⟨a1, c1, rfl⟩ := hh.len
  have HH := Lib.hid (hh.below ((Below.refl _ w1).alloc (Nat.le_refl _) (.cells #[.slice a1 xs.length c1] 34)))
  have HB := Lib.hid (b1.alloc b1.size (.cells #[.slice a1 xs.length c1] 34))
  have HN := Lib.hid (show (w1.alloc (.cells #[.slice a1 xs.length c1] 34)).cell? ⟨w1.heap.size, 0, none⟩ = some (.slice a1 xs.length c1) from (Has.new w1 [.slice a1 xs.length c1] 34).cell 0 _ rfl)
  have HS := Lib.hid b1.size
  clear ho1 b1 hh HC
  go_wp2
  go_ret
  exact ⟨_, _, rfl, HN.out, HH.out, HB.out, HS.out⟩
end Go.Proofs.YtkpmmkokfllafaaGreat
/- grapheme.Clusters: contract. -/
namespace Go.Proofs.YtkpmmkokfllafaaGreat
open Go.RowKit Go.ChangeShapes Go.WideShapes
attribute [local go_sem] Oper.semAt_some
/-- Rows of numbers. -/
theorem clS_len (xs : List Int) : (clS xs).length ≤ xs.length := by
  unfold clS
  rw [spansB_len _ (jR_zero _)]
  exact startB_len _ _
def rowE : Elem (List Int) := slE (intE .i32)
theorem info_rs : (Tryz.prog.info? 34).map (fun i => (i.zero, i.size, i.bytes)) = some (some (.slice none 0 0), rowE.size, 24) := by kernel_rfl
def MadeRow (w : World) (L : List (List Int)) (e : Ending) (w' : World) : Prop := ∃ v', e = .returned v' ∧ OwnE rowE (fun b => w.heap.size ≤ b) w' w.heap.size 34 v' L ∧ Below w.heap.size w w'
def cluL (xs : List Int) (pre : List Cu) : List (List Int) := pre.map fun x => sliceL xs x.p
def cluA (xs : List Int) : List (List Int) := (clS xs).map (sliceL xs)
theorem _root_.Go.Proofs.YtkpmmkokfllafaaGreat.HeldE.zoned {α : Type} {E : Elem α} {Z Y : Zone} {w : World} {v : Value} {L : List α} (h : HeldE E Z w v L) (hy : ∀ b, b < w.heap.size → Z b → Y b) : HeldE E Y w v L := h.zone hy
theorem cluL_all {xs : List Int} {pre : List Cu} (h : pre.map Cu.p = clS xs) : cluL xs pre = cluA xs := by
  unfold cluL cluA
  rw [← h, List.map_map]
  rfl
theorem XCu.held {xs : List Int} {lo hi : Nat} {x : Cu} {W : World} (h : XCu xs lo hi x W) : Held .i32 W x.v (sliceL xs x.p) := by
  obtain ⟨g, hv, h1, h2, h3, h4, h5, h6⟩ := h
  have hl := sliceL_len xs x.p (Nat.le_of_lt h4) h5
  rw [hv, ← hl]
  refine held_at h3 fun i hi => ?_
  rw [hl] at hi
  rw [h6 _ (by omega)]
  congr 2
  unfold sliceL
  simp [List.getD, List.getElem?_take, hi, List.getElem?_drop]
theorem XCu.upd {xs : List Int} {lo hi : Nat} {x : Cu} {W W' : World} {S : Zone} (h : XCu xs lo hi x W) (hu : Upd S W W') (hs : ∀ b, lo ≤ b → b < hi → ¬ S b) : XCu xs lo hi x W' := by
  obtain ⟨g, hv, h1, h2, h3, h4, h5, h6⟩ := h
  exact ⟨g, hv, h1, h2, Nat.lt_of_lt_of_le h3 hu.size, h4, h5, fun i hi => (hu.keep.cell h3 (hs g h1 h2)).trans (h6 i hi)⟩
def CluI (w : World) (bx lo : Nat) (xs : List Int) (hi : Nat) (pre : List Cu) (W : World) : Prop := lo ≤ hi ∧ ∃ va, Has W bx [va] 28 ∧ OwnE rowE (fun b => hi ≤ b) W hi 34 va (cluL xs pre) ∧ Below w.heap.size w W ∧ hi ≤ W.heap.size ∧ pre.length ≤ 1000000
end Go.Proofs.YtkpmmkokfllafaaGreat
