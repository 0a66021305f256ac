/- Texts put together: CwidB, CwidC, GraK, GraL. -/
import Derived.Test.YtgkcobmbdpgceaaCwidA
import Derived.Test.YtgkcobmbdpgceaaMg4
import Derived.Test.YtgkcobmbdpgceaaGraI
import Derived.Test.YtgkcobmbdpgceaaMg1
/- The reference's Of of layer 19; cwidth.Of; works. -/
namespace Go.Proofs.Ytgkcobmbdpgceaa
open Go.RowKit Go.ChangeShapes Go.WideShapes
set_option maxRecDepth 100000 in
set_option maxHeartbeats 1000000 in
theorem rof19_any (v : Value) (xs : List Int) (w : World) (hx : Held .i32 w v xs) (hn : xs.length ≤ 1000000) (hr : ∀ i, i < xs.length → -2147483648 ≤ xs.getD i 0 ∧ xs.getD i 0 ≤ 2147483647) :
    Calls Try.prog 70 #[v] w (Gives w (.int .i64 (rowW xs (knownL xs) xs.length))) := by
  obtain ⟨ao, ca, rfl, hc⟩ := hx.view
  have HC := Lib.hid hc
  have HX := Lib.hid hx
  have HR := Lib.hid hr
  clear hc hx hr
  go_enter Try.func70, Try.ntmps70
  go_wp2
  go_loopw [3, 4] (fun p i wr => ∃ k : Nat, k ≤ xs.length ∧ i = .int .i64 k ∧ wr.ownsRow w.heap.size 86 4 p k (prsCells ((knownL xs).take k)) ∧ Below w.heap.size w wr) (fun _ i _ => xs.length - (intOf i).toNat)
  case atStart => exact ⟨0, Nat.zero_le _, rfl, World.ownsRow_nil _ _ _ _, Below.refl _ _⟩
  case round =>
    obtain ⟨k, hk, rfl, hown, hbw⟩ := hrel
    by_cases hlt : k < xs.length
    · obtain ⟨b, off, rfl, hb, hcx⟩ := HC.out k hlt
      have hcx := (hbw.cell (p := ⟨b, off + k, none⟩) hb).trans hcx
      obtain ⟨r0, r1⟩ := HR.out k hlt
      have hsn := prs_snoc (knownL xs) k (by rw [knownL_len]; exact hlt)
      rw [knownL_at hlt] at hsn
      obtain ⟨r, hr⟩ : ∃ r, r = xs.getD k 0 := ⟨_, rfl⟩
      rw [← hr] at hcx r0 r1 hsn
      have HSN := Lib.hid hsn
      have HOW := Lib.hid hown
      clear hr hsn hown
      go_wp2_with fail
      refine (rucdof_any r _ r0 r1).mono ?_
      rintro e w1 ⟨rfl, b1⟩
      have hown1 := ownsRow_below HOW.out b1
      have hb1 := hbw.trans (b1.mono hbw.size)
      rw [show knownV r = .agg #[.int .i64 (gcbI r), .bool (inTab tPict r), .int .i64 (conjO r), .int .i64 (eastI r)] from rfl]
      clear hcx
      go_wp2_with (at_builtin; refine wpList_append_newS w1 rfl (.tmp 11) (.tmp 17) 93 rfl w.heap.size 86 (.agg #[.int .i64 0, .bool false, .int .i64 0, .int .i64 0]) 4 32 Try.underlying93 info_prop rfl (by decide) u3 k (prsCells ((knownL xs).take k)) rfl hown1 [.int .i64 (gcbI r), .bool (inTab tPict r), .int .i64 (conjO r), .int .i64 (eastI r)] 1 1 rfl rfl (by intro u hu; simp at hu; rcases hu with rfl | rfl | rfl | rfl <;> rfl) (by omega) (by omega) hb1.size ?_)
      intro v' w' hown' hb'
      have hown2 : w'.ownsRow w.heap.size 86 4 v' (k + 1) (prsCells ((knownL xs).take (k + 1))) := by rw [HSN.out]; exact hown'
      have hbw2 := hb1.trans hb'
      clear hown1 hown'
      go_wp2
      go_roundw
      case rel => exact ⟨k + 1, by omega, by go_num, hown2, hbw2⟩
      case measure => simp [intOf] <;> omega
    · obtain rfl : k = xs.length := by omega
      rw [List.take_of_length_le (by rw [knownL_len]; exact Nat.le_refl _)] at hown
      have hp := heldP_of_owns hown
      obtain ⟨po, pc, rfl, _⟩ := id hp
      have HP := Lib.hid hp
      clear hp hown
      go_wp2_with fail
      refine (rrow_any _ _ xs (knownL xs) _ (HX.out.below hbw) HP.out (knownL_len xs) hn).mono ?_
      rintro e w2 ⟨rfl, b2⟩
      have hfin := hbw.trans (b2.mono hbw.size)
      go_wp2
      go_ret
      exact ⟨(ret_eq (by first | rfl | (simp <;> omega))), hfin⟩
end Go.Proofs.Ytgkcobmbdpgceaa
/- cwidth.Of; works of layer 19. -/
namespace Go.Proofs.Ytgkcobmbdpgceaa
open Go.RowKit Go.ChangeShapes Go.WideShapes
theorem picAt_known {xs : List Int} (k : Nat) (hk : k < xs.length) : picAt (knownL xs) (k + 1) = inTab tPict (xs.getD k 0) := by
  show ((knownL xs).getD k Pr.none).pc = _
  rw [knownL_at hk]
  rfl
theorem rowW_two (xs : List Int) (ps : List Pr) (k : Nat) : (if anyW xs ps k = true then (2 : Int) else 1) = rowW xs ps k := rfl
set_option maxRecDepth 100000 in
set_option maxHeartbeats 1000000 in
theorem cof_any (v : Value) (xs : List Int) (w : World) (hx : Held .i32 w v xs) (hn : xs.length ≤ 1000000) :
    Calls Try.prog 67 #[v] w (Gives w (.int .i64 (rowW xs (knownL xs) xs.length))) := by
  obtain ⟨ao, ca, rfl, hc⟩ := hx.view
  have HC := Lib.hid hc
  clear hc hx
  go_enter Try.func67, Try.ntmps67
  go_wp2
  go_loopw [3, 9] (fun wd i wr => ∃ k : Nat, k ≤ xs.length ∧ i = .int .i64 k ∧ wd = .int .i64 (rowW xs (knownL xs) k) ∧ GaugeAt wr w.heap.size (decide (0 < k)) (picAt (knownL xs) k) (anyW xs (knownL xs) k) ∧ Below w.heap.size w wr) (fun _ i _ => xs.length - (intOf i).toNat)
  case atStart => exact ⟨0, Nat.zero_le _, rfl, rfl, Has.new w _ _, (Below.refl _ _).alloc (Nat.le_refl _) _⟩
  case round =>
    obtain ⟨k, hk, rfl, rfl, hg, hbw⟩ := hrel
    by_cases hlt : k < xs.length
    · obtain ⟨b, off, rfl, hb, hcx⟩ := HC.out k hlt
      have hcx := (hbw.cell (p := ⟨b, off + k, none⟩) hb).trans hcx
      have hst := fun w' (h : GaugeAt w' w.heap.size (decide (0 < k)) (picAt (knownL xs) k) (anyW xs (knownL xs) k)) => gstep_any w.heap.size _ _ _ (xs.getD k 0) ((knownL xs).getD k Pr.none).br ((knownL xs).getD k Pr.none).pc ((knownL xs).getD k Pr.none).cv ((knownL xs).getD k Pr.none).ea w' h
      rw [knownL_at hlt] at hst
      have hnext : (anyW xs (knownL xs) k || widB (decide (0 < k)) (picAt (knownL xs) k) (xs.getD k 0) (knownPr (xs.getD k 0)).br (knownPr (xs.getD k 0)).pc (knownPr (xs.getD k 0)).ea) = anyW xs (knownL xs) (k + 1) := by
        show _ = (anyW xs (knownL xs) k || condW xs (knownL xs) k)
        unfold condW
        rw [knownL_at hlt]
      rw [hnext] at hst
      have hpic := picAt_known (xs := xs) k hlt
      rw [show (knownPr (xs.getD k 0)).pc = picAt (knownL xs) (k + 1) from hpic.symm] at hst
      obtain ⟨pic', hp'⟩ : ∃ y, y = picAt (knownL xs) (k + 1) := ⟨_, rfl⟩
      have HST := Lib.hid hst
      have HP := Lib.hid hpic
      have HG := Lib.hid hg
      clear hst hnext hpic hg hp'
      obtain ⟨r, hr⟩ : ∃ r, r = xs.getD k 0 := ⟨_, rfl⟩
      rw [← hr] at hcx HST HP
      clear hr
      go_wp2_with fail
      refine (ucdof_any r _).mono ?_
      rintro e w1 ⟨rfl, b1⟩
      rw [show knownV r = .agg #[.int .i64 (knownPr r).br, .bool (picAt (knownL xs) (k + 1)), .int .i64 (knownPr r).cv, .int .i64 (knownPr r).ea] by rw [HP.out]; rfl]
      have hg1 : GaugeAt w1 w.heap.size _ _ _ := Has.below HG.out b1 (Has.lt HG.out)
      have hb1 := hbw.trans (b1.mono hbw.size)
      have HG1 := Lib.hid hg1
      clear hg1 hcx
      go_wp2_with fail
      refine (HST.out _ HG1.out).mono ?_
      rintro e w2 ⟨rfl, hg2, hbut⟩
      have hb2 := hb1.trans (hbut.below hb1.size (Nat.le_refl _))
      rw [rowW_two]
      have hg3 : GaugeAt w2 w.heap.size (decide (0 < k + 1)) (picAt (knownL xs) (k + 1)) (anyW xs (knownL xs) (k + 1)) := by rw [decide_eq_true (show 0 < k + 1 by omega)]; exact hg2
      clear hg2 hbut
      go_wp2
      go_roundw
      case rel => exact ⟨k + 1, by omega, by go_num, rfl, hg3, hb2⟩
      case measure => simp [intOf] <;> omega
    · obtain rfl : k = xs.length := by omega
      go_wp2
      go_ret
      exact ⟨(ret_eq (by first | rfl | (simp <;> omega))), hbw⟩
theorem cof_val (v : Value) (xs : List Int) (n : Int) (h : rowW xs (knownL xs) xs.length = n) (w : World) (hx : Held .i32 w v xs) (hn : xs.length ≤ 1000000) : Calls Try.prog 67 #[v] w (Gives w (.int .i64 n)) := h ▸ cof_any v xs w hx hn
theorem tabB1 {w0 w1 w2 : World} {o : Obj} (h : Below w0.heap.size w0 w1) (c : Below (w1.alloc o).heap.size (w1.alloc o) w2) : Below w0.heap.size w0 w2 := (h.alloc h.size o).trans (c.mono (by have := h.size; simp; omega))
end Go.Proofs.Ytgkcobmbdpgceaa
/- grapheme.All and Clusters: contracts. -/
namespace Go.Proofs.Ytgkcobmbdpgceaa
open Go.RowKit Go.ChangeShapes Go.WideShapes
attribute [local go_sem] Oper.semAt_some
section
variable {P : Program} {F : Fence} {nf : Nat} {α : Type} {E : Elem α} {Z : Zone} {w : World} {v u : Value} {L M : List α} {B : Nat} {ty : TypeId}
/-- 'append(v, u...)' within a fence. -/
theorem wpListIn_append_e {ops : Array Oper} {rest : List Oper} {o : Oper} {a : Act} {Q : Exit → Act → World → Prop} (hgd : o.guard = none) (s x : Operand) (t : TypeId)
    (ho : o.op = .call { callee := .builtin .append, args := #[s, x], argTypes := #[t, t] })
    (z : Value) (bytes : Nat) (ht : P.underlying t = some (.slice ty)) (hinfo : (P.info? ty).map (fun i => (i.zero, i.size, i.bytes)) = some (some z, E.size, bytes)) (hzs : z.cells.size = E.size) (h0 : 0 < E.size)
    (hs : a.eval s = v) (hx : a.eval x = u) (hv : OwnE E Z w B ty v L) (hu : HeldE E (fun b => Z b ∧ v.ownBlock ≠ some b) w u M) (hn : (L.length + M.length) * bytes ≤ 140737488355328) (hn0 : L.length + M.length ≤ 140737488355328) (hB : B ≤ w.heap.size)
    (h : ∀ v' w', OwnE E Z w' B ty v' (L ++ M) → Below B w w' → KeepZ (fun b => v.ownBlock ≠ some b) w w' → (∀ b, b < w.heap.size → v.ownBlock ≠ some b → v'.ownBlock ≠ some b) → wpListIn F nf P ops Q rest (a.put o.dst v') w') :
    wpListIn F nf P ops Q (o :: rest) a w := by
  obtain ⟨v', w', hr, h1, h2, h3, h4⟩ := run_append_e (P := P) t o.type z bytes ht hinfo hzs h0 hv hu hn hn0 hB
  refine wpListIn_plain hgd fun K hK' => ?_
  unfold Oper.wpIn
  refine ⟨?_, ?_⟩
  · simp [Oper.about, ho, resolve, Target.leads, Sem.run_pure]
  · rw [Oper.semAt_plain F _ _ (by rw [ho]; intro c hc'; cases hc'), exec_app ho hs hx hr]
    exact hK' _ _ (h v' w' h1 h2 h3 h4)
end
theorem exec_store_sl {P : Program} {ρ : Operand → Value} {o : Oper} {w : World} {ty : TypeId} {x y : Operand} {b off : Nat} (ho : o.op = .store ty x y) (hx : ρ x = .pointer (some ⟨b, off, none⟩)) {a : Option Addr} {n c : Nat} (hy : ρ y = .slice a n c) (u : Value) (hc : w.cell? ⟨b, off, none⟩ = some u) (hf : w.frozen? ⟨b, off, none⟩ = false) (hi : (P.info? ty).map (·.size) = some 1) : (execOp ρ o).run P w = .ok .skip (w.setCell ⟨b, off, none⟩ (.slice a n c)) := by
  obtain ⟨i, hi1, hi2⟩ := Option.map_eq_some_iff.1 hi
  have hce : 1 = P.cellsOf ty := by unfold Program.cellsOf; rw [hi1]; exact hi2.symm
  unfold execOp
  simp [ho, hx, hy, go_sem, hc, hf, run_sizeOf, hi1, hi2]
  exact hce
/-- What hands back an iterator over the clusters of xs. -/
def GivesAll (xs : List Int) (w : World) (e : Ending) (w' : World) : Prop := ∃ B v, e = .returned (.func (.func 64) #[] #[.pointer (some ⟨B, 0, none⟩)]) ∧ w'.cell? ⟨B, 0, none⟩ = some v ∧ Held .i32 w' v xs ∧ Below w.heap.size w w' ∧ w.heap.size ≤ B
set_option maxRecDepth 100000 in
theorem gall_any (v : Value) (xs : List Int) (w : World) (hx : Held .i32 w v xs) (hn : xs.length ≤ 1000000) : Calls Try.prog 47 #[v] w (GivesAll xs w) := by
  obtain ⟨ao, ca, rfl⟩ := hx.len
  have HC := Lib.hid (rclone_any _ xs w hx (by omega))
  clear hx
  go_enter Try.func47, Try.ntmps47
  go_wp2_with fail
  refine HC.out.mono ?_
  rintro e w1 ⟨v1, rfl, ho1, b1⟩
  have hh := held_of_owns ho1
  obtain ⟨a1, c1, rfl⟩ := hh.len
  have HH := Lib.hid (hh.below ((Below.refl _ w1).alloc (Nat.le_refl _) (.cells #[.slice a1 xs.length c1] 22)))
  have HB := Lib.hid (b1.alloc b1.size (.cells #[.slice a1 xs.length c1] 22))
  have HN := Lib.hid (show (w1.alloc (.cells #[.slice a1 xs.length c1] 22)).cell? ⟨w1.heap.size, 0, none⟩ = some (.slice a1 xs.length c1) from (Has.new w1 [.slice a1 xs.length c1] 22).cell 0 _ rfl)
  have HS := Lib.hid b1.size
  clear ho1 b1 hh HC
  go_wp2
  go_ret
  exact ⟨_, _, rfl, HN.out, HH.out, HB.out, HS.out⟩
end Go.Proofs.Ytgkcobmbdpgceaa
/- grapheme.Clusters: contract. -/
namespace Go.Proofs.Ytgkcobmbdpgceaa
open Go.RowKit Go.ChangeShapes Go.WideShapes
attribute [local go_sem] Oper.semAt_some
/-- Rows of numbers. -/
theorem clS_len (xs : List Int) : (clS xs).length ≤ xs.length := by
  unfold clS
  rw [spansB_len _ (jR_zero _)]
  exact startB_len _ _
def rowE : Elem (List Int) := slE (intE .i32)
theorem info_rs : (Try.prog.info? 22).map (fun i => (i.zero, i.size, i.bytes)) = some (some (.slice none 0 0), rowE.size, 24) := by kernel_rfl
def MadeRow (w : World) (L : List (List Int)) (e : Ending) (w' : World) : Prop := ∃ v', e = .returned v' ∧ OwnE rowE (fun b => w.heap.size ≤ b) w' w.heap.size 22 v' L ∧ Below w.heap.size w w'
def cluL (xs : List Int) (pre : List Cu) : List (List Int) := pre.map fun x => sliceL xs x.p
def cluA (xs : List Int) : List (List Int) := (clS xs).map (sliceL xs)
theorem _root_.Go.Proofs.Ytgkcobmbdpgceaa.HeldE.zoned {α : Type} {E : Elem α} {Z Y : Zone} {w : World} {v : Value} {L : List α} (h : HeldE E Z w v L) (hy : ∀ b, b < w.heap.size → Z b → Y b) : HeldE E Y w v L := h.zone hy
theorem cluL_all {xs : List Int} {pre : List Cu} (h : pre.map Cu.p = clS xs) : cluL xs pre = cluA xs := by
  unfold cluL cluA
  rw [← h, List.map_map]
  rfl
theorem XCu.held {xs : List Int} {lo hi : Nat} {x : Cu} {W : World} (h : XCu xs lo hi x W) : Held .i32 W x.v (sliceL xs x.p) := by
  obtain ⟨g, hv, h1, h2, h3, h4, h5, h6⟩ := h
  have hl := sliceL_len xs x.p (Nat.le_of_lt h4) h5
  rw [hv, ← hl]
  refine held_at h3 fun i hi => ?_
  rw [hl] at hi
  rw [h6 _ (by omega)]
  congr 2
  unfold sliceL
  simp [List.getD, List.getElem?_take, hi, List.getElem?_drop]
theorem XCu.upd {xs : List Int} {lo hi : Nat} {x : Cu} {W W' : World} {S : Zone} (h : XCu xs lo hi x W) (hu : Upd S W W') (hs : ∀ b, lo ≤ b → b < hi → ¬ S b) : XCu xs lo hi x W' := by
  obtain ⟨g, hv, h1, h2, h3, h4, h5, h6⟩ := h
  exact ⟨g, hv, h1, h2, Nat.lt_of_lt_of_le h3 hu.size, h4, h5, fun i hi => (hu.keep.cell h3 (hs g h1 h2)).trans (h6 i hi)⟩
def CluI (w : World) (bx lo : Nat) (xs : List Int) (hi : Nat) (pre : List Cu) (W : World) : Prop := lo ≤ hi ∧ ∃ va, Has W bx [va] 36 ∧ OwnE rowE (fun b => hi ≤ b) W hi 22 va (cluL xs pre) ∧ Below w.heap.size w W ∧ hi ≤ W.heap.size ∧ pre.length ≤ 1000000
set_option maxRecDepth 100000 in
set_option maxHeartbeats 6000000 in
theorem gclus_any (v : Value) (xs : List Int) (w : World) (hx : Held .i32 w v xs) (hn : xs.length ≤ 1000000) : Calls Try.prog 20 #[v] w (MadeRow w (cluA xs)) := by
  obtain ⟨ao, ca, rfl⟩ := hx.len
  refine (callsIn_wide (n := 9)).1 ?_
  have b1 : Below w.heap.size w (w.alloc (.cells #[.slice none 0 0] 36)) := (Below.refl _ _).alloc (Nat.le_refl _) _
  have HC := Lib.hid (gall_any _ xs _ (hx.below b1) hn)
  have HBX := Lib.hid (Has.new w [.slice none 0 0] 36)
  have HB1 := Lib.hid b1
  clear hx b1
  refine callsIn_of_wp_marks Try.func20 rfl trivial ?_ rfl
  simp only [Try.ntmps20, List.size_toArray, List.length_cons, List.length_nil, Nat.reduceAdd, Nat.reduceSub, Array.replicate_succ, Array.replicate_zero, List.push_toArray, List.append_toArray, List.nil_append, List.cons_append]
  gi_wp2_with fail
  first | refine ⟨trivial, (fun h => absurd h (by decide)), (callsIn_wide.2 (HC.out)).mono ?_⟩ | refine ⟨trivial, (callsIn_wide.2 (HC.out)).mono ?_⟩
  rintro e w1 ⟨B, vk, rfl, hB, hk, b1, hBl⟩
  have hbx := HBX.out.below b1 HBX.out.lt
  have HX := Lib.hid hbx
  have HW := Lib.hid (HB1.out.trans (b1.mono HB1.out.size))
  have HLT := Lib.hid (show w.heap.size < w1.heap.size from hbx.lt)
  have h1 : 1 ≤ 9 := by decide
  gi_wp2_with fail
  refine wpIn_rangeO rfl h1 (gf := 64) (lb := #[.pointer (some ⟨B, 0, none⟩)]) rfl trivial (enters_of Try.func64 (by kernel_rfl) rfl) (gall1_in B vk xs w1 hB hk hn _ (fun b => b = w.heap.size)) (Below.refl _ _) (fun _ => rfl) (fun b e => by subst e; exact HLT.out)
    (CluI w w.heap.size (w1.heap.size + 2) xs) (fun _ _ _ _ => False) ?hI (fun _ _ _ _ _ h _ => h) ?h0 (fun x => { tmps := #[.slice ao xs.length ca, undef, .slice none 0 0, .pointer (some ⟨w.heap.size, 0, none⟩), undef, x.v, .slice ao xs.length ca, .func (.func 64) #[] #[.pointer (some ⟨B, 0, none⟩)], .int .i64 (x.p.1 : Int), x.v, undef, undef, undef, undef, undef, undef], defers := [] }) ?assign ?body ?done ?stop
  case hI =>
    rintro hi pre A A' ⟨hlo, va, h1, h2, h3, h4, h5⟩ hu
    refine ⟨hlo, va, hu.keep.has h1 (fun e => by have := HLT.out; omega), h2.upd hu (fun b hb e => ?_), h3.upd hu h3.size (fun b e => by have := HLT.out; omega), Nat.le_trans h4 hu.size, h5⟩
    rcases hb with hb | hb
    · omega
    · have := (h2.lt b hb).1; omega
  case h0 =>
    intro hi W1 hb h1 h2
    exact ⟨h1, _, HX.out.below hb HX.out.lt, OwnE.nil _ _ _ _ _, HW.out.trans (hb.mono HW.out.size), h2, Nat.zero_le _⟩
  case assign =>
    intro l x W K hK
    unfold encCu
    gi_wp2
    exact hK
  case stop =>
    intro hi c pre W _ h _
    exact h.elim
  case done =>
    rintro hi ys W hS ⟨hlo, va, h1, h2, h3, h4, h5⟩ hK
    rw [cluL_all hS] at h2
    have c1 := h1.cell 0 _ rfl
    have HD := Lib.hid (show w.heap.size < w1.heap.size ∧ w1.heap.size + 2 ≤ hi from ⟨HLT.out, hlo⟩)
    have h2 := h2.keep (Y := fun b => w.heap.size ≤ b ∧ b ≠ w1.heap.size) (.refl _ _) (fun b _ h => by have := HD.out; omega)
    have hlt2 := h2.lt
    have h2 := h2.base (B' := w.heap.size) (by have := HD.out; omega)
    have h2 := h2.upd (upd_putObj (S := fun b => b = w1.heap.size) W w1.heap.size (.deferred none) rfl) (fun b hb e => by
      rcases hb with hb | hb
      · exact hb.2 e
      · have := (hlt2 b hb).1; have := HD.out; omega)
    have HO := Lib.hid (h2.keep (Y := fun b => w.heap.size ≤ b) (.refl _ _) (fun b _ h => h.1))
    have HE := Lib.hid (h3.upd (upd_putObj (S := fun b => b = w1.heap.size) W w1.heap.size (.deferred none) rfl) h3.size (fun b e => by have := HD.out; omega))
    clear h1 h2 h3 hlt2
    gi_wp2
    refine ⟨by simp, .inl ⟨_, _, rfl, run_takeDeferred hK, ?_⟩⟩
    exact ⟨va, by simp [results, Try.results20, go_sem], va, rfl, HO.out, HE.out⟩
  case body =>
    rintro l hi pre x W hlo hhi ⟨_, va, h1, h2, h3, h4, h5⟩ ⟨Wx, hx, hux⟩ hR
    have hx := hx.upd hux (fun b h1 h2 => by omega)
    have HXV := Lib.hid hx.held
    have c1 := h1.cell 0 _ rfl
    have c1f := h1.free 0
    have hmix : Try.prog.follows .mixedOrders = true := by kernel_rfl
    have HLB := Lib.hid (show w.heap.size < W.heap.size from h1.lt)
    have HO := Lib.hid h2
    have HL := Lib.hid h3
    have HH := Lib.hid h1
    clear h1 h2 h3
    have HHI := Lib.hid hhi
    have HDD := Lib.hid (show w.heap.size < hi from by have := HLT.out; omega)
    have HXL := Lib.hid (show (sliceL xs x.p).length ≤ 1000000 from by
      obtain ⟨g, hv, q1, q2, q3, q4, q5, q6⟩ := hx
      rw [sliceL_len xs x.p (Nat.le_of_lt q4) q5]; omega)
    have HPL := Lib.hid (show pre.length + 1 ≤ 1000000 from by
      have h9 := hR.length_le
      rw [List.length_map, List.length_append, List.length_singleton] at h9
      have := clS_len xs
      omega)
    clear hx hux
    have HLEN := Lib.hid (show (cluL xs pre).length = pre.length from by simp [cluL])
    have HSN := Lib.hid (show cluL xs (pre ++ [x]) = cluL xs pre ++ [sliceL xs x.p] from by simp [cluL])
    obtain ⟨T, hT⟩ : ∃ T, T = sliceL xs x.p := ⟨_, rfl⟩
    rw [← hT] at HXV HXL HSN
    obtain ⟨xv, hxv⟩ : ∃ xv, xv = x.v := ⟨_, rfl⟩
    rw [← hxv] at HXV ⊢
    have HLO := Lib.hid (show ∀ b, va.ownBlock = some b → hi ≤ b ∧ b < W.heap.size from fun b e => HO.out.lt b e)
    obtain ⟨CP, hCP⟩ : ∃ CP, CP = cluL xs pre := ⟨_, rfl⟩
    rw [← hCP] at HO HLEN HSN
    clear hT hxv hCP
    gi_wp2
    obtain ⟨Erg, hErg⟩ : ∃ EE : Nat → Value → World → Prop, EE = fun jj xx ww => match jj with
        | 0 => xx = va
        | 1 => xx = xv
        | 2 => (fun x w' => HeldE (intE .i32) (fun b => W.heap.size ≤ b) w' x T) xx ww
        | 3 => (fun x w' => HeldE rowE (fun b => W.heap.size ≤ b) w' x [T]) xx ww
        | 4 => (fun x w' => OwnE rowE (fun b => hi ≤ b) w' hi 22 x (CP ++ [T])) xx ww
        | 5 => xx = undef
        | _ => True := ⟨_, rfl⟩
    have erg0 : ∀ xx ww, Erg 0 xx ww = (xx = va) := fun xx ww => congrFun (congrFun (congrFun hErg 0) xx) ww
    have erg1 : ∀ xx ww, Erg 1 xx ww = (xx = xv) := fun xx ww => congrFun (congrFun (congrFun hErg 1) xx) ww
    have erg2 : ∀ xx ww, Erg 2 xx ww = ((fun x w' => HeldE (intE .i32) (fun b => W.heap.size ≤ b) w' x T) xx ww) := fun xx ww => congrFun (congrFun (congrFun hErg 2) xx) ww
    have erg3 : ∀ xx ww, Erg 3 xx ww = ((fun x w' => HeldE rowE (fun b => W.heap.size ≤ b) w' x [T]) xx ww) := fun xx ww => congrFun (congrFun (congrFun hErg 3) xx) ww
    have erg4 : ∀ xx ww, Erg 4 xx ww = ((fun x w' => OwnE rowE (fun b => hi ≤ b) w' hi 22 x (CP ++ [T])) xx ww) := fun xx ww => congrFun (congrFun (congrFun hErg 4) xx) ww
    have erg5 : ∀ xx ww, Erg 5 xx ww = (xx = undef) := fun xx ww => congrFun (congrFun (congrFun hErg 5) xx) ww
    obtain ⟨Crg, hCrg⟩ : ∃ CC : Array Bool → World → Prop, CC = fun L8 w' => Below w.heap.size w w' ∧ (Mix.one L8 5 = 1 → ∃ v4, Has w' w.heap.size [v4] 36 ∧ OwnE rowE (fun b => hi ≤ b) w' hi 22 v4 (CP ++ [T])) ∧ (Mix.one L8 5 = 0 → Has w' w.heap.size [va] 36) ∧ Upd (fun b => b = w.heap.size ∨ hi ≤ b) W w' ∧ (Mix.one L8 4 = 0 → OwnE rowE (fun b => hi ≤ b) w' hi 22 va CP ∧ Below W.heap.size W w') := ⟨_, rfl⟩
    have krg : ∀ i L w, i ≠ 4 → i ≠ 5 →  Crg L w → Crg (L.setIfInBounds i true) w := by
      intro i L w q4 q5 h
      rw [hCrg] at h ⊢
      simp only [Mix.one_ne q4, Mix.one_ne q5]; exact h
    obtain ⟨Xrg, hXrg⟩ : ∃ XX : Nat → World → World → Prop, XX = fun kk ww1 ww2 => if kk = 4 then (fun x y => Upd (fun b => va.ownBlock = some b) x y) ww1 ww2 else (fun x y => Upd (fun b => b = w.heap.size) x y) ww1 ww2 := ⟨_, rfl⟩
    have xrg : ∀ {k : Nat} (w : World), Xrg k w w := by
      intro k w
      rw [hXrg]
      show if k = 4 then _ else _
      split
      · exact Upd.refl _ _
      · exact Upd.refl _ _
    have crg : Crg (Array.replicate 6 false) W.drew := by rw [hCrg]; exact ⟨HL.out.drew, fun e => absurd e (by decide), fun _ => HH.out, (Upd.refl _ _).drew, fun _ => ⟨HO.out, (Below.refl _ _).drew⟩⟩
    have brg : ∀ L w w1, Crg L w → Below w.heap.size w w1 → Crg L w1 := by
      intro L w w1 h hb
      rw [hCrg] at h ⊢
      (obtain ⟨q1, q2, q3, q4, q5⟩ := h; exact ⟨q1.trans (hb.mono q1.size), fun e => by obtain ⟨v4, r1, r2⟩ := q2 e; exact ⟨v4, r1.below hb r1.lt, r2.below hb⟩, fun e => (q3 e).below hb (q3 e).lt, q4.trans (.ofBelow hb), fun e => ⟨(q5 e).1.below hb, (q5 e).2.trans (hb.mono (q5 e).2.size)⟩⟩)
    have xbrg : ∀ {k : Nat} (w w1 : World), Below w.heap.size w w1 → Xrg k w w1 := by
      intro k w w1 hb
      rw [hXrg]
      show if k = 4 then _ else _
      split
      · exact Upd.ofBelow hb
      · exact Upd.ofBelow hb
    have Hrgb := Lib.hid brg
    have Hrgxb : Go.RowKit.Hid (∀ {k : Nat} (w w1 : World), Below w.heap.size w w1 → Xrg k w w1) := @xbrg
    clear brg xbrg
    have HrghE := Lib.hid hErg
    clear hErg
    have Hrgk := Lib.hid krg
    have Hrgx : Go.RowKit.Hid (∀ {k : Nat} (w : World), Xrg k w w) := @xrg
    have Hrgc := Lib.hid crg
    have HrghC := Lib.hid hCrg
    have HrghX := Lib.hid hXrg
    have Hrge0 := Lib.hid erg0
    have Hrge1 := Lib.hid erg1
    have Hrge2 := Lib.hid erg2
    have Hrge3 := Lib.hid erg3
    have Hrge4 := Lib.hid erg4
    have Hrge5 := Lib.hid erg5
    clear krg xrg crg hCrg hXrg erg0 erg1 erg2 erg3 erg4 erg5
    gi_wp2_with fail
    refine RegX.regionFIn (fun _ => trivial) rfl Reg.calls_round (by kernel_rfl) Erg Crg Xrg ?_ (by kernel_rfl) (by kernel_rfl) (by kernel_rfl) Hrgc.out (fun Frg hFrg => ?_)
    · intro ii jj x w w1 hji hr hx h
      rw [HrghX.out] at hx
      by_cases hi : ii = 4
      · subst hi
        simp only [if_pos] at hx
        match jj with
        | 0 => rw [Hrge0.out] at h ⊢; exact h
        | 1 => rw [Hrge1.out] at h ⊢; exact h
        | 2 => rw [Hrge2.out] at h ⊢; (exact (HeldE.upd h hx (fun b hb e => by have := (HLO.out b e).2; omega)))
        | 3 => rw [Hrge3.out] at h ⊢; (exact (HeldE.upd h hx (fun b hb e => by have := (HLO.out b e).2; omega)))
        | 4 => exact absurd rfl hji
        | 5 => rw [Hrge5.out] at h ⊢; exact h
        | jj + 6 => rw [HrghE.out]; trivial
      · simp only [if_neg hi] at hx
        match jj with
        | 0 => rw [Hrge0.out] at h ⊢; exact h
        | 1 => rw [Hrge1.out] at h ⊢; exact h
        | 2 => rw [Hrge2.out] at h ⊢; (first | exact (HeldE.upd h hx (fun b hb e => by have := HLB.out; omega)) | exact (OwnE.upd h hx (fun b hb e => by have := HDD.out; rcases hb with hb | hb; omega; have := (OwnE.lt h b hb).1; omega)))
        | 3 => rw [Hrge3.out] at h ⊢; (first | exact (HeldE.upd h hx (fun b hb e => by have := HLB.out; omega)) | exact (OwnE.upd h hx (fun b hb e => by have := HDD.out; rcases hb with hb | hb; omega; have := (OwnE.lt h b hb).1; omega)))
        | 4 => rw [Hrge4.out] at h ⊢; (first | exact (HeldE.upd h hx (fun b hb e => by have := HLB.out; omega)) | exact (OwnE.upd h hx (fun b hb e => by have := HDD.out; rcases hb with hb | hb; omega; have := (OwnE.lt h b hb).1; omega)))
        | 5 => rw [Hrge5.out] at h ⊢; exact h
        | jj + 6 => rw [HrghE.out]; trivial
    simp only [Reg.frame, Reg.dsts, List.map_cons, List.map_nil, Mix.put_lit, Reg.put_none, List.set_cons_succ, List.set_cons_zero, Nat.zero_add, Nat.reduceAdd] at hFrg
    refine ⟨?_, ?_⟩
    · refine ⟨?_, ?_, ?_, ?_, ?_, ?_, trivial⟩
      · intro Lq wq xq hh
        simp only [hFrg]
        refine .inl ⟨rfl, ?_⟩
        unfold Reg.upon
        have hc : Crg Lq wq := hh.cls
        rw [HrghC.out] at hc
        have q0 := (hc.2.2.1 (Mix.one_un (hh.notYet 5 (by kernel_rfl)))).cell 0 _ rfl
        clear hc
        have hk := Hrgk.out 0 Lq wq (by decide) (by decide)  hh.cls
        have hx : Xrg 0 wq wq := Hrgx.out wq
        have he : Erg 0 (va) wq := by rw [Hrge0.out]
        have HK := Lib.hid (And.intro hk (And.intro he hx))
        clear hk hx he
        go_simp
        exact HK.out
      · intro Lq wq xq hh
        simp only [hFrg]
        refine .inl ⟨rfl, ?_⟩
        unfold Reg.upon
        have hk := Hrgk.out 1 Lq wq (by decide) (by decide)  hh.cls
        have hx : Xrg 1 wq wq := Hrgx.out wq
        have he : Erg 1 (xv) wq := by rw [Hrge1.out]
        have HK := Lib.hid (And.intro hk (And.intro he hx))
        clear hk hx he
        go_simp
        exact HK.out
      · intro Lq wq xq hh
        have d1 : Erg 1 (xq 1) wq := hh.val 1 (by kernel_rfl) (by kernel_rfl)
        rw [Hrge1.out] at d1
        simp only [hFrg, d1]
        clear d1
        refine .inl ⟨rfl, ?_⟩
        unfold Reg.upon
        have hc : Crg Lq wq := hh.cls
        rw [HrghC.out] at hc
        have hcW := (hc.2.2.2.2 (Mix.one_un (hh.notYet 4 (by kernel_rfl)))).2
        go_simp
        refine (rclone_any xv T wq (HXV.out.below hcW) (by have := HXL.out; omega)).mono ?_
        rintro e w2 ⟨v2, rfl, ho2, hb⟩
        refine ⟨_, rfl, Hrgk.out 2 Lq w2 (by decide) (by decide) (Hrgb.out Lq wq w2 hh.cls hb), ?_, Hrgxb.out wq w2 hb⟩
        rw [Hrge2.out]
        exact ((ownE_ints (Z := fun b => W.heap.size ≤ b) ho2).held (Z := fun b => W.heap.size ≤ b) (fun b h1 _ => Nat.le_trans hc.2.2.2.1.size h1))
      · intro Lq wq xq hh
        have d2 : Erg 2 (xq 2) wq := hh.val 2 (by kernel_rfl) (by kernel_rfl)
        rw [Hrge2.out] at d2
        simp only [hFrg]
        refine .inl ⟨rfl, ?_⟩
        unfold Reg.upon
        have hc : Crg Lq wq := hh.cls
        rw [HrghC.out] at hc
        obtain ⟨a3, c3, e3⟩ := d2.len
        have hb := (Below.refl wq.heap.size wq).alloc (Nat.le_refl _) (.cells [xq 2].toArray 22)
        have hh3 : HeldE rowE (fun b => W.heap.size ≤ b) (wq.alloc (.cells [xq 2].toArray 22)) (.slice (some ⟨wq.heap.size, 0, none⟩) 1 1) [T] := heldE_one (Y := fun b => W.heap.size ≤ b) [xq 2] T ⟨_, rfl, d2⟩ (fun b _ h => h) hc.2.2.2.1.size
        rw [e3] at hb hh3 ⊢
        go_simp
        refine ⟨Hrgk.out 3 Lq _ (by decide) (by decide) (Hrgb.out Lq wq _ hh.cls hb), ?_, Hrgxb.out wq _ hb⟩
        rw [Hrge3.out]
        exact hh3
      · intro Lq wq xq hh
        have d0 : Erg 0 (xq 0) wq := hh.val 0 (by kernel_rfl) (by kernel_rfl)
        rw [Hrge0.out] at d0
        have d3 : Erg 3 (xq 3) wq := hh.val 3 (by kernel_rfl) (by kernel_rfl)
        rw [Hrge3.out] at d3
        simp only [hFrg, d0]
        clear d0
        refine .inl ⟨rfl, ?_⟩
        unfold Reg.upon
        have hc : Crg Lq wq := hh.cls
        rw [HrghC.out] at hc
        have hc4 := hc.2.2.2.2 hh.un
        have hun5 := Mix.one_un (hh.notYet 5 (by kernel_rfl))
        obtain ⟨v', w', hr, h1, h2, h3, h4⟩ := run_append_e (P := Try.prog) (E := rowE) (Z := fun b => hi ≤ b) (w := wq) (B := hi) (ty := 22) 36 _ (.slice none 0 0) 24 Try.underlying36 info_rs rfl (by decide) hc4.1 (d3.zoned (Y := fun b => hi ≤ b ∧ va.ownBlock ≠ some b) (fun b _ hz => ⟨by have := HHI.out; omega, fun e => by have := (HLO.out b e).2; omega⟩)) (by rw [HLEN.out]; simp only [List.length_singleton]; have := HPL.out; omega) (by rw [HLEN.out]; simp only [List.length_singleton]; have := HPL.out; omega) (Nat.le_trans HHI.out hc.2.2.2.1.size)
        rw [exec_app rfl rfl rfl hr]
        have hu : Upd (fun b => va.ownBlock = some b) wq w' := ⟨h2.os, h2.tape, h2.output, h3.size, fun b hb hn => h3.block b hb hn⟩
        refine ⟨?_, ?_, ?_⟩
        · rw [HrghC.out]
          refine ⟨hc.1.upd hu hc.1.size (fun b e => by have := (HLO.out b e).1; have := HDD.out; omega), fun e => ?_, fun _ => hu.keep.has (hc.2.2.1 hun5) (fun e => by have := (HLO.out _ e).1; have := HDD.out; omega), hc.2.2.2.1.trans (hu.mono (fun b _ e => .inr (HLO.out b e).1)), fun e => ?_⟩
          · rw [Mix.one_ne (by decide), hun5] at e; cases e
          · rw [Mix.one_set (by rw [hh.size]; decide)] at e; exact absurd e (by decide)
        · rw [Hrge4.out]; exact h1
        · rw [HrghX.out]; exact hu
      · intro Lq wq xq hh
        have d4 : Erg 4 (xq 4) wq := hh.val 4 (by kernel_rfl) (by kernel_rfl)
        rw [Hrge4.out] at d4
        simp only [hFrg]
        refine .inl ⟨rfl, ?_⟩
        unfold Reg.upon
        have hc : Crg Lq wq := hh.cls
        rw [HrghC.out] at hc
        have hun5 := hh.un
        have hx5 := hc.2.2.1 hun5
        obtain ⟨a5, c5, e5⟩ := (OwnE.held d4 (Z := fun b => hi ≤ b) (fun b h _ => h)).len
        rw [exec_store_sl (b := w.heap.size) (off := 0) rfl rfl e5 va (hx5.cell 0 _ rfl) (hx5.free 0) (by kernel_rfl)]
        rw [e5] at d4
        have hu := (Upd.refl (fun b => b = w.heap.size) wq).setCell (p := ⟨w.heap.size, 0, none⟩) (.inl rfl) (.slice a5 (CP ++ [T]).length c5)
        have hlt5 := d4.lt
        refine ⟨?_, ?_, ?_⟩
        · rw [HrghC.out]
          refine ⟨hc.1.upd hu hc.1.size (fun b e => by omega), fun e => ⟨_, hx5.set 0 _, d4.upd hu (fun b hb e => ?_)⟩, fun e => ?_, hc.2.2.2.1.trans (hu.mono (fun b _ e => .inl e)), fun e => ?_⟩
          · have := HDD.out; rcases hb with hb | hb; omega; have := (hlt5 b hb).1; omega
          · rw [Mix.one_set (by rw [hh.size]; decide)] at e; exact absurd e (by decide)
          · rw [Mix.one_ne (by decide)] at e
            have := hh.isDone 4 (by kernel_rfl)
            rw [this] at e; cases e
        · rw [Hrge5.out]
        · rw [HrghX.out]; exact hu
    intro xq wrg hcrg hvrg
    rw [HrghC.out] at hcrg
    simp only [hFrg]
    clear hvrg hFrg Hrgk Hrgx HrghE Hrgc HrghC HrghX Hrgb Hrgxb Hrge0 Hrge1 Hrge2 Hrge3 Hrge4 Hrge5
    obtain ⟨r1, r2, r3, r4, r5⟩ := hcrg
    obtain ⟨v4, k1, k2⟩ := r2 (by kernel_rfl)
    have HF1 := Lib.hid r4
    have HF2 := Lib.hid (show CluI w w.heap.size (w1.heap.size + 2) xs hi (pre ++ [x]) wrg from ⟨hlo, v4, k1, by rw [HSN.out]; exact k2, r1, Nat.le_trans HHI.out r4.size, by rw [List.length_append, List.length_singleton]; exact HPL.out⟩)
    clear r1 r2 r3 r4 r5 k1 k2
    gi_wp2
    exact ⟨HF1.out, HF2.out⟩
end Go.Proofs.Ytgkcobmbdpgceaa
