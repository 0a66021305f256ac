/- Texts put together: GraK, GraL. -/
import Derived.Test.YtgkcobmbdpgceaaGreatGraI
import Derived.Test.YtgkcobmbdpgceaaGreatMg1
/- grapheme.All and Clusters: contracts. -/
namespace Go.Proofs.YtgkcobmbdpgceaaGreat
open Go.RowKit Go.ChangeShapes Go.WideShapes
attribute [local go_sem] Oper.semAt_some
section
variable {P : Program} {F : Fence} {nf : Nat} {α : Type} {E : Elem α} {Z : Zone} {w : World} {v u : Value} {L M : List α} {B : Nat} {ty : TypeId}
/-- 'append(v, u...)' within a fence. -/
theorem wpListIn_append_e {ops : Array Oper} {rest : List Oper} {o : Oper} {a : Act} {Q : Exit → Act → World → Prop} (hgd : o.guard = none) (s x : Operand) (t : TypeId)
    (ho : o.op = .call { callee := .builtin .append, args := #[s, x], argTypes := #[t, t] })
    (z : Value) (bytes : Nat) (ht : P.underlying t = some (.slice ty)) (hinfo : (P.info? ty).map (fun i => (i.zero, i.size, i.bytes)) = some (some z, E.size, bytes)) (hzs : z.cells.size = E.size) (h0 : 0 < E.size)
    (hs : a.eval s = v) (hx : a.eval x = u) (hv : OwnE E Z w B ty v L) (hu : HeldE E (fun b => Z b ∧ v.ownBlock ≠ some b) w u M) (hn : (L.length + M.length) * bytes ≤ 140737488355328) (hn0 : L.length + M.length ≤ 140737488355328) (hB : B ≤ w.heap.size)
    (h : ∀ v' w', OwnE E Z w' B ty v' (L ++ M) → Below B w w' → KeepZ (fun b => v.ownBlock ≠ some b) w w' → (∀ b, b < w.heap.size → v.ownBlock ≠ some b → v'.ownBlock ≠ some b) → wpListIn F nf P ops Q rest (a.put o.dst v') w') :
    wpListIn F nf P ops Q (o :: rest) a w := by
  obtain ⟨v', w', hr, h1, h2, h3, h4⟩ := run_append_e (P := P) t o.type z bytes ht hinfo hzs h0 hv hu hn hn0 hB
  refine wpListIn_plain hgd fun K hK' => ?_
  unfold Oper.wpIn
  refine ⟨?_, ?_⟩
  · simp [Oper.about, ho, resolve, Target.leads, Sem.run_pure]
  · rw [Oper.semAt_plain F _ _ (by rw [ho]; intro c hc'; cases hc'), exec_app ho hs hx hr]
    exact hK' _ _ (h v' w' h1 h2 h3 h4)
end
theorem exec_store_sl {P : Program} {ρ : Operand → Value} {o : Oper} {w : World} {ty : TypeId} {x y : Operand} {b off : Nat} (ho : o.op = .store ty x y) (hx : ρ x = .pointer (some ⟨b, off, none⟩)) {a : Option Addr} {n c : Nat} (hy : ρ y = .slice a n c) (u : Value) (hc : w.cell? ⟨b, off, none⟩ = some u) (hf : w.frozen? ⟨b, off, none⟩ = false) (hi : (P.info? ty).map (·.size) = some 1) : (execOp ρ o).run P w = .ok .skip (w.setCell ⟨b, off, none⟩ (.slice a n c)) := by
  obtain ⟨i, hi1, hi2⟩ := Option.map_eq_some_iff.1 hi
  have hce : 1 = P.cellsOf ty := by unfold Program.cellsOf; rw [hi1]; exact hi2.symm
  unfold execOp
  simp [ho, hx, hy, go_sem, hc, hf, run_sizeOf, hi1, hi2]
  exact hce
/-- What hands back an iterator over the clusters of xs. -/
def GivesAll (xs : List Int) (w : World) (e : Ending) (w' : World) : Prop := ∃ B v, e = .returned (.func (.func 35) #[] #[.pointer (some ⟨B, 0, none⟩)]) ∧ w'.cell? ⟨B, 0, none⟩ = some v ∧ Held .i32 w' v xs ∧ Below w.heap.size w w' ∧ w.heap.size ≤ B
set_option maxRecDepth 100000 in
theorem gall_any (v : Value) (xs : List Int) (w : World) (hx : Held .i32 w v xs) (hn : xs.length ≤ 1000000) : Calls Tryz.prog 29 #[v] w (GivesAll xs w) := by
  obtain ⟨ao, ca, rfl⟩ := hx.len
  have HC := Lib.hid (rclone_any _ xs w hx (by omega))
  clear hx
  go_enter Tryz.func29, Tryz.ntmps29
  go_wp2_with fail
  refine HC.out.mono ?_
  rintro e w1 ⟨v1, rfl, ho1, b1⟩
  have hh := held_of_owns ho1
  obtain ⟨a1, c1, rfl⟩ := hh.len
  have HH := Lib.hid (hh.below ((Below.refl _ w1).alloc (Nat.le_refl _) (.cells #[.slice a1 xs.length c1] 22)))
  have HB := Lib.hid (b1.alloc b1.size (.cells #[.slice a1 xs.length c1] 22))
  have HN := Lib.hid (show (w1.alloc (.cells #[.slice a1 xs.length c1] 22)).cell? ⟨w1.heap.size, 0, none⟩ = some (.slice a1 xs.length c1) from (Has.new w1 [.slice a1 xs.length c1] 22).cell 0 _ rfl)
  have HS := Lib.hid b1.size
  clear ho1 b1 hh HC
  go_wp2
  go_ret
  exact ⟨_, _, rfl, HN.out, HH.out, HB.out, HS.out⟩
end Go.Proofs.YtgkcobmbdpgceaaGreat
/- grapheme.Clusters: contract. -/
namespace Go.Proofs.YtgkcobmbdpgceaaGreat
open Go.RowKit Go.ChangeShapes Go.WideShapes
attribute [local go_sem] Oper.semAt_some
/-- Rows of numbers. -/
theorem clS_len (xs : List Int) : (clS xs).length ≤ xs.length := by
  unfold clS
  rw [spansB_len _ (jR_zero _)]
  exact startB_len _ _
def rowE : Elem (List Int) := slE (intE .i32)
theorem info_rs : (Tryz.prog.info? 22).map (fun i => (i.zero, i.size, i.bytes)) = some (some (.slice none 0 0), rowE.size, 24) := by kernel_rfl
def MadeRow (w : World) (L : List (List Int)) (e : Ending) (w' : World) : Prop := ∃ v', e = .returned v' ∧ OwnE rowE (fun b => w.heap.size ≤ b) w' w.heap.size 22 v' L ∧ Below w.heap.size w w'
def cluL (xs : List Int) (pre : List Cu) : List (List Int) := pre.map fun x => sliceL xs x.p
def cluA (xs : List Int) : List (List Int) := (clS xs).map (sliceL xs)
theorem _root_.Go.Proofs.YtgkcobmbdpgceaaGreat.HeldE.zoned {α : Type} {E : Elem α} {Z Y : Zone} {w : World} {v : Value} {L : List α} (h : HeldE E Z w v L) (hy : ∀ b, b < w.heap.size → Z b → Y b) : HeldE E Y w v L := h.zone hy
theorem cluL_all {xs : List Int} {pre : List Cu} (h : pre.map Cu.p = clS xs) : cluL xs pre = cluA xs := by
  unfold cluL cluA
  rw [← h, List.map_map]
  rfl
theorem XCu.held {xs : List Int} {lo hi : Nat} {x : Cu} {W : World} (h : XCu xs lo hi x W) : Held .i32 W x.v (sliceL xs x.p) := by
  obtain ⟨g, hv, h1, h2, h3, h4, h5, h6⟩ := h
  have hl := sliceL_len xs x.p (Nat.le_of_lt h4) h5
  rw [hv, ← hl]
  refine held_at h3 fun i hi => ?_
  rw [hl] at hi
  rw [h6 _ (by omega)]
  congr 2
  unfold sliceL
  simp [List.getD, List.getElem?_take, hi, List.getElem?_drop]
theorem XCu.upd {xs : List Int} {lo hi : Nat} {x : Cu} {W W' : World} {S : Zone} (h : XCu xs lo hi x W) (hu : Upd S W W') (hs : ∀ b, lo ≤ b → b < hi → ¬ S b) : XCu xs lo hi x W' := by
  obtain ⟨g, hv, h1, h2, h3, h4, h5, h6⟩ := h
  exact ⟨g, hv, h1, h2, Nat.lt_of_lt_of_le h3 hu.size, h4, h5, fun i hi => (hu.keep.cell h3 (hs g h1 h2)).trans (h6 i hi)⟩
def CluI (w : World) (bx lo : Nat) (xs : List Int) (hi : Nat) (pre : List Cu) (W : World) : Prop := lo ≤ hi ∧ ∃ va, Has W bx [va] 35 ∧ OwnE rowE (fun b => hi ≤ b) W hi 22 va (cluL xs pre) ∧ Below w.heap.size w W ∧ hi ≤ W.heap.size ∧ pre.length ≤ 1000000
end Go.Proofs.YtgkcobmbdpgceaaGreat
