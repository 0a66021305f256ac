/- Texts put together: BasewW, GraK, GraL, GraN, GraO, GraS, GraT, GraQ, GraR, TblR, TblS. -/
import Derived.Test.YtkpmmkokfllafaaBasewC
import Derived.Test.YtkpmmkokfllafaaGraI
import Derived.Test.YtkpmmkokfllafaaMg1
import Derived.Test.YtkpmmkokfllafaaMg2
import Derived.Laws.Cover4
import Derived.Test.YtkpmmkokfllafaaMg5
/- basew.Rune and Silent, the reference's; works of layer 18. -/
namespace Go.Proofs.Ytkpmmkokfllafaa
open Go.RowKit Go.ChangeShapes Go.WideShapes
def silB (r : Int) : Bool := (decide (0 ≤ r) && decide (r ≤ 31)) || (decide (127 ≤ r) && decide (r ≤ 159))
def runeW (r : Int) : Int := basewI (gcbI r) (eastI r)
theorem inT {T : List (Int × Int)} (a b r : Int) (hm : (a, b) ∈ T) (h1 : a ≤ r) (h2 : r ≤ b) : inTab T r = true := List.any_eq_true.2 ⟨(a, b), hm, by simp [h1, h2]⟩
theorem control_three {r : Int} (h : inTab tControl r = true) : gcbI r = 3 := by
  obtain ⟨h1, h2, h3, h4⟩ := not_single (apart_not ap_cs h)
  have hl : listedI r = 3 := by unfold listedI; simp [h]
  unfold gcbI
  rw [if_neg h1, if_neg h2, if_neg h3, if_neg h4, if_neg (by omega), hl]
theorem silent_zero {r : Int} (h : silB r = true) : runeW r = 0 := by
  have h' : (0 ≤ r ∧ r ≤ 31) ∨ (127 ≤ r ∧ r ≤ 159) := by unfold silB at h; simpa using h
  have hg : gcbI r = 1 ∨ gcbI r = 2 ∨ gcbI r = 3 := by
    by_cases h13 : r = 13
    · subst h13; exact .inl (by decide +kernel)
    by_cases h10 : r = 10
    · subst h10; exact .inr (.inl (by decide +kernel))
    refine .inr (.inr (control_three ?_))
    by_cases e1 : r ≤ 9
    · exact inT 0 9 r (by decide) (by omega) e1
    by_cases e2 : r ≤ 12
    · exact inT 11 12 r (by decide) (by omega) e2
    by_cases e3 : r ≤ 31
    · exact inT 14 31 r (by decide) (by omega) e3
    · exact inT 127 159 r (by decide) (by omega) (by omega)
  unfold runeW basewI
  rw [if_pos (by omega)]
theorem sil_cases (r : Int) : (decide (0 ≤ r) = true ∧ decide (r ≤ 31) = true ∧ silB r = true) ∨ (decide (0 ≤ r) = true ∧ decide (r ≤ 31) = false ∧ decide (127 ≤ r) = true ∧ decide (r ≤ 159) = true ∧ silB r = true)
    ∨ (decide (0 ≤ r) = true ∧ decide (r ≤ 31) = false ∧ decide (127 ≤ r) = true ∧ decide (r ≤ 159) = false ∧ silB r = false) ∨ (decide (0 ≤ r) = true ∧ decide (r ≤ 31) = false ∧ decide (127 ≤ r) = false ∧ silB r = false)
    ∨ (decide (0 ≤ r) = false ∧ decide (127 ≤ r) = false ∧ silB r = false) := by
  unfold silB
  simp only [decide_eq_true_eq, decide_eq_false_iff_not, Bool.or_eq_true, Bool.and_eq_true, Bool.or_eq_false_iff, Bool.and_eq_false_iff]
  omega
set_option maxRecDepth 100000 in
theorem bsil_any (r : Int) (w : World) : Calls Try.prog 35 #[.int .i32 r] w (Gives w (.bool (silB r))) := by
  rcases sil_cases r with ⟨h1, h2, hs⟩ | ⟨h1, h2, h3, h4, hs⟩ | ⟨h1, h2, h3, h4, hs⟩ | ⟨h1, h2, h3, hs⟩ | ⟨h1, h2, hs⟩
  all_goals
    have HS := Lib.hid hs
    clear hs
    go_enter Try.func35, Try.ntmps35
    go_wp2
    go_ret
    exact ⟨ret_eq (by rw [HS.out]; first | rfl | simp), Below.refl _ _⟩
end Go.Proofs.Ytkpmmkokfllafaa
/- grapheme.All and Clusters: contracts. -/
namespace Go.Proofs.Ytkpmmkokfllafaa
open Go.RowKit Go.ChangeShapes Go.WideShapes
attribute [local go_sem] Oper.semAt_some
section
variable {P : Program} {F : Fence} {nf : Nat} {α : Type} {E : Elem α} {Z : Zone} {w : World} {v u : Value} {L M : List α} {B : Nat} {ty : TypeId}
/-- 'append(v, u...)' within a fence. -/
theorem wpListIn_append_e {ops : Array Oper} {rest : List Oper} {o : Oper} {a : Act} {Q : Exit → Act → World → Prop} (hgd : o.guard = none) (s x : Operand) (t : TypeId)
    (ho : o.op = .call { callee := .builtin .append, args := #[s, x], argTypes := #[t, t] })
    (z : Value) (bytes : Nat) (ht : P.underlying t = some (.slice ty)) (hinfo : (P.info? ty).map (fun i => (i.zero, i.size, i.bytes)) = some (some z, E.size, bytes)) (hzs : z.cells.size = E.size) (h0 : 0 < E.size)
    (hs : a.eval s = v) (hx : a.eval x = u) (hv : OwnE E Z w B ty v L) (hu : HeldE E (fun b => Z b ∧ v.ownBlock ≠ some b) w u M) (hn : (L.length + M.length) * bytes ≤ 140737488355328) (hn0 : L.length + M.length ≤ 140737488355328) (hB : B ≤ w.heap.size)
    (h : ∀ v' w', OwnE E Z w' B ty v' (L ++ M) → Below B w w' → KeepZ (fun b => v.ownBlock ≠ some b) w w' → (∀ b, b < w.heap.size → v.ownBlock ≠ some b → v'.ownBlock ≠ some b) → wpListIn F nf P ops Q rest (a.put o.dst v') w') :
    wpListIn F nf P ops Q (o :: rest) a w := by
  obtain ⟨v', w', hr, h1, h2, h3, h4⟩ := run_append_e (P := P) t o.type z bytes ht hinfo hzs h0 hv hu hn hn0 hB
  refine wpListIn_plain hgd fun K hK' => ?_
  unfold Oper.wpIn
  refine ⟨?_, ?_⟩
  · simp [Oper.about, ho, resolve, Target.leads, Sem.run_pure]
  · rw [Oper.semAt_plain F _ _ (by rw [ho]; intro c hc'; cases hc'), exec_app ho hs hx hr]
    exact hK' _ _ (h v' w' h1 h2 h3 h4)
end
theorem exec_store_sl {P : Program} {ρ : Operand → Value} {o : Oper} {w : World} {ty : TypeId} {x y : Operand} {b off : Nat} (ho : o.op = .store ty x y) (hx : ρ x = .pointer (some ⟨b, off, none⟩)) {a : Option Addr} {n c : Nat} (hy : ρ y = .slice a n c) (u : Value) (hc : w.cell? ⟨b, off, none⟩ = some u) (hf : w.frozen? ⟨b, off, none⟩ = false) (hi : (P.info? ty).map (·.size) = some 1) : (execOp ρ o).run P w = .ok .skip (w.setCell ⟨b, off, none⟩ (.slice a n c)) := by
  obtain ⟨i, hi1, hi2⟩ := Option.map_eq_some_iff.1 hi
  have hce : 1 = P.cellsOf ty := by unfold Program.cellsOf; rw [hi1]; exact hi2.symm
  unfold execOp
  simp [ho, hx, hy, go_sem, hc, hf, run_sizeOf, hi1, hi2]
  exact hce
/-- What hands back an iterator over the clusters of xs. -/
def GivesAll (xs : List Int) (w : World) (e : Ending) (w' : World) : Prop := ∃ B v, e = .returned (.func (.func 32) #[] #[.pointer (some ⟨B, 0, none⟩)]) ∧ w'.cell? ⟨B, 0, none⟩ = some v ∧ Held .i32 w' v xs ∧ Below w.heap.size w w' ∧ w.heap.size ≤ B
set_option maxRecDepth 100000 in
theorem gall_any (v : Value) (xs : List Int) (w : World) (hx : Held .i32 w v xs) (hn : xs.length ≤ 1000000) : Calls Try.prog 15 #[v] w (GivesAll xs w) := by
  obtain ⟨ao, ca, rfl⟩ := hx.len
  have HC := Lib.hid (rclone_any _ xs w hx (by omega))
  clear hx
  go_enter Try.func15, Try.ntmps15
  go_wp2_with fail
  refine HC.out.mono ?_
  rintro e w1 ⟨v1, rfl, ho1, b1⟩
  have hh := held_of_owns ho1
  obtain ⟨a1, c1, rfl⟩ := hh.len
  have HH := Lib.hid (hh.below ((Below.refl _ w1).alloc (Nat.le_refl _) (.cells #[.slice a1 xs.length c1] 28)))
  have HB := Lib.hid (b1.alloc b1.size (.cells #[.slice a1 xs.length c1] 28))
  have HN := Lib.hid (show (w1.alloc (.cells #[.slice a1 xs.length c1] 28)).cell? ⟨w1.heap.size, 0, none⟩ = some (.slice a1 xs.length c1) from (Has.new w1 [.slice a1 xs.length c1] 28).cell 0 _ rfl)
  have HS := Lib.hid b1.size
  clear ho1 b1 hh HC
  go_wp2
  go_ret
  exact ⟨_, _, rfl, HN.out, HH.out, HB.out, HS.out⟩
end Go.Proofs.Ytkpmmkokfllafaa
/- grapheme.Clusters: contract. -/
namespace Go.Proofs.Ytkpmmkokfllafaa
open Go.RowKit Go.ChangeShapes Go.WideShapes
attribute [local go_sem] Oper.semAt_some
/-- Rows of numbers. -/
theorem clS_len (xs : List Int) : (clS xs).length ≤ xs.length := by
  unfold clS
  rw [spansB_len _ (jR_zero _)]
  exact startB_len _ _
def rowE : Elem (List Int) := slE (intE .i32)
theorem info_rs : (Try.prog.info? 28).map (fun i => (i.zero, i.size, i.bytes)) = some (some (.slice none 0 0), rowE.size, 24) := by kernel_rfl
def MadeRow (w : World) (L : List (List Int)) (e : Ending) (w' : World) : Prop := ∃ v', e = .returned v' ∧ OwnE rowE (fun b => w.heap.size ≤ b) w' w.heap.size 28 v' L ∧ Below w.heap.size w w'
def cluL (xs : List Int) (pre : List Cu) : List (List Int) := pre.map fun x => sliceL xs x.p
def cluA (xs : List Int) : List (List Int) := (clS xs).map (sliceL xs)
theorem _root_.Go.Proofs.Ytkpmmkokfllafaa.HeldE.zoned {α : Type} {E : Elem α} {Z Y : Zone} {w : World} {v : Value} {L : List α} (h : HeldE E Z w v L) (hy : ∀ b, b < w.heap.size → Z b → Y b) : HeldE E Y w v L := h.zone hy
theorem cluL_all {xs : List Int} {pre : List Cu} (h : pre.map Cu.p = clS xs) : cluL xs pre = cluA xs := by
  unfold cluL cluA
  rw [← h, List.map_map]
  rfl
theorem XCu.held {xs : List Int} {lo hi : Nat} {x : Cu} {W : World} (h : XCu xs lo hi x W) : Held .i32 W x.v (sliceL xs x.p) := by
  obtain ⟨g, hv, h1, h2, h3, h4, h5, h6⟩ := h
  have hl := sliceL_len xs x.p (Nat.le_of_lt h4) h5
  rw [hv, ← hl]
  refine held_at h3 fun i hi => ?_
  rw [hl] at hi
  rw [h6 _ (by omega)]
  congr 2
  unfold sliceL
  simp [List.getD, List.getElem?_take, hi, List.getElem?_drop]
theorem XCu.upd {xs : List Int} {lo hi : Nat} {x : Cu} {W W' : World} {S : Zone} (h : XCu xs lo hi x W) (hu : Upd S W W') (hs : ∀ b, lo ≤ b → b < hi → ¬ S b) : XCu xs lo hi x W' := by
  obtain ⟨g, hv, h1, h2, h3, h4, h5, h6⟩ := h
  exact ⟨g, hv, h1, h2, Nat.lt_of_lt_of_le h3 hu.size, h4, h5, fun i hi => (hu.keep.cell h3 (hs g h1 h2)).trans (h6 i hi)⟩
def CluI (w : World) (bx lo : Nat) (xs : List Int) (hi : Nat) (pre : List Cu) (W : World) : Prop := lo ≤ hi ∧ ∃ va, Has W bx [va] 26 ∧ OwnE rowE (fun b => hi ≤ b) W hi 28 va (cluL xs pre) ∧ Below w.heap.size w W ∧ hi ≤ W.heap.size ∧ pre.length ≤ 1000000
end Go.Proofs.Ytkpmmkokfllafaa
/- The reference's Clusters (16); Count. -/
namespace Go.Proofs.Ytkpmmkokfllafaa
open Go.RowKit Go.ChangeShapes Go.WideShapes
theorem spans_pair {xs : List Int} {i : Nat} (hi : i < (startB (jR (knownL xs)) xs.length).length) : ∃ a b : Nat, (toI (startB (jR (knownL xs)) xs.length) ++ [(xs.length : Int)]).getD i 0 = (a : Int) ∧ (toI (startB (jR (knownL xs)) xs.length) ++ [(xs.length : Int)]).getD (i + 1) 0 = (b : Int) ∧ (clS xs).getD i (0, 0) = (a, b) ∧ a < b ∧ b ≤ xs.length := by
  have h0 := spansB_at (jR (knownL xs)) (jR_zero _) xs.length i hi
  have hl := spansB_len (jR (knownL xs)) (jR_zero _) xs.length
  have hm : (clS xs).getD i (0, 0) ∈ clS xs := by
    unfold clS
    rw [List.getD, List.getElem?_eq_getElem (by omega)]
    exact List.getElem_mem _
  have hok := spansB_ok _ _ _ hm
  have e : toI (startB (jR (knownL xs)) xs.length) ++ [(xs.length : Int)] = toI (startB (jR (knownL xs)) xs.length ++ [xs.length]) := by simp [toI]
  have hg : ∀ k, k < (startB (jR (knownL xs)) xs.length ++ [xs.length]).length → (toI (startB (jR (knownL xs)) xs.length ++ [xs.length])).getD k 0 = (((startB (jR (knownL xs)) xs.length ++ [xs.length]).getD k 0 : Nat) : Int) := fun k hk => by
    rw [toI_at hk]
    simp [List.getD, List.getElem?_eq_getElem hk]
  have h1 : (clS xs).getD i (0, 0) = _ := h0
  rw [h1] at hok
  refine ⟨_, _, ?_, ?_, h1, hok.1, hok.2⟩
  · rw [e, hg i (by rw [List.length_append]; omega)]
  · rw [e, hg (i + 1) (by rw [List.length_append, List.length_singleton]; omega)]
theorem cluA_take (xs : List Int) (i : Nat) (h : i < (clS xs).length) : (cluA xs).take (i + 1) = (cluA xs).take i ++ [sliceL xs ((clS xs).getD i (0, 0))] := by
  unfold cluA
  rw [List.take_succ_eq_append_getElem (by rw [List.length_map]; exact h), List.getElem_map]
  simp [List.getD, List.getElem?_eq_getElem h]
theorem cluA_len (xs : List Int) : (cluA xs).length = (startB (jR (knownL xs)) xs.length).length := by
  unfold cluA
  rw [List.length_map]
  exact spansB_len _ (jR_zero _) _
end Go.Proofs.Ytkpmmkokfllafaa
/- Count; the works of layer 16. -/
namespace Go.Proofs.Ytkpmmkokfllafaa
open Go.RowKit Go.ChangeShapes Go.WideShapes
theorem clu_first : cluA [101, 769, 97] = [[101, 769], [97]] := by decide +kernel
theorem count_flags : (startB (jR (knownL [127465, 127466, 127467])) 3).length = 2 := by decide +kernel
end Go.Proofs.Ytkpmmkokfllafaa
/- Rows of numbers as texts; the reference's Same (16), of alike lists. -/
namespace Go.Proofs.Ytkpmmkokfllafaa
open Go.RowKit Go.ChangeShapes Go.WideShapes
theorem held_rtext {P : Program} {w : World} {v : Value} {xs : List Int} (h : Held .i32 w v xs) (src e dst : TypeId) (hs : P.underlying src = some (.slice e)) (he : P.underlying e = some (.int .i32)) (hd : P.underlying dst = some .string) :
    (convert src dst v).run P w = .ok (.string (runesBytes xs)) w := by
  obtain ⟨ao, cap, rfl, hn, hc⟩ := h
  cases xs with
  | nil =>
    cases ao with
    | none => exact run_convert_runes_nil w src dst e 0 cap hs he hd
    | some a =>
      rw [run_convert_runes_string w src dst e _ _ _ hs he hd]
      exact run_runesToString w a 0 cap [] (by simp [loadCells, loadCellsFrom])
  | cons x xs =>
    obtain ⟨b, off, rfl, _, _⟩ := hc 0 (by simp)
    have h2 := run_convert_runes w src dst e ⟨b, off, none⟩ (x :: xs).length cap (x :: xs) (Nat.le_refl _) hs he hd (fun j hj => by
      obtain ⟨b', off', e1, _, h1⟩ := hc j hj
      cases e1
      rw [Addr.add_lit]
      exact h1)
    rw [List.take_of_length_le (Nat.le_refl _)] at h2
    exact h2
end Go.Proofs.Ytkpmmkokfllafaa
/- Rows of numbers that are arguments. -/
namespace Go.Proofs.Ytkpmmkokfllafaa
open Go.RowKit Go.ChangeShapes Go.WideShapes
theorem bounds_of {xs : List Int} (hp : ∀ x ∈ xs, (Lit.int .i32 x).wf = true) : bounds32 xs := by
  intro i hi
  have hm : xs.getD i 0 ∈ xs := by simp [List.getD, List.getElem?_eq_getElem hi]
  have hw := hp _ hm
  simp [Lit.wf] at hw
  exact hw
set_option maxRecDepth 100000 in
theorem runes_arg {H : Type} {enc : TypeId × Value → H} {W : World} {base : Nat} {v : Value} {d : DataW H} {p : List MemPlace} (hv : Value.okWide Try.prog W .any base 28 v) (h : DataW.Trod enc Try.prog W 0 (fun _ => true) true 28 v d p) : ∃ L, HeldE (intE .i32) (fun b => b < W.heap.size) W v L ∧ bounds32 L := by
  obtain ⟨L, hL, hk⟩ := opens_arg (E := intE .i32) Try.underlying28 (by kernel_rfl) (by decide) (opens_int Try.underlying21 (by kernel_rfl)) hv h
  exact ⟨L, hL, bounds_of hk⟩
end Go.Proofs.Ytkpmmkokfllafaa
/- Clusters in a row: what came so far is the beginning of the row. -/
namespace Go.Proofs.Ytkpmmkokfllafaa
open Go.RowKit Go.ChangeShapes Go.WideShapes
theorem startB_head (j : Nat → Bool) (h0 : j 0 = false) (n : Nat) (h : 0 < n) : (startB j n).getD 0 0 = 0 := by
  have : 0 ∈ startB j n := startB_mem.2 ⟨h, h0⟩
  unfold startB
  obtain ⟨m, rfl⟩ : ∃ m, n = m + 1 := ⟨n - 1, by omega⟩
  rw [List.range_succ_eq_map, List.filter_cons_of_pos (by rw [h0]; rfl)]
  rfl
/-- Where the first k end. -/
def endC (xs : List Int) (k : Nat) : Nat := (startB (jR (knownL xs)) xs.length ++ [xs.length]).getD k 0
theorem endC_zero (xs : List Int) : endC xs 0 = 0 := by
  unfold endC
  rcases Nat.eq_zero_or_pos xs.length with h | h
  · rw [h]; rfl
  · have h1 := startB_head (jR (knownL xs)) (jR_zero _) xs.length h
    have hne : 0 < (startB (jR (knownL xs)) xs.length).length := List.length_pos_of_mem (startB_mem.2 ⟨h, jR_zero _⟩)
    rw [List.getD, List.getElem?_append_left hne]
    exact h1
theorem clS_at (xs : List Int) (k : Nat) (h : k < (clS xs).length) : (clS xs).getD k (0, 0) = (endC xs k, endC xs (k + 1)) :=
  spansB_at (jR (knownL xs)) (jR_zero _) xs.length k (by rw [← spansB_len _ (jR_zero _)]; exact h)
theorem clS_ok (xs : List Int) (k : Nat) (h : k < (clS xs).length) : endC xs k < endC xs (k + 1) ∧ endC xs (k + 1) ≤ xs.length := by
  have hm : (clS xs).getD k (0, 0) ∈ clS xs := by
    rw [List.getD, List.getElem?_eq_getElem h]
    exact List.getElem_mem _
  have := spansB_ok _ _ _ hm
  rw [clS_at xs k h] at this
  exact this
theorem endC_last (xs : List Int) : endC xs (clS xs).length = xs.length := by
  unfold endC
  have : (clS xs).length = (startB (jR (knownL xs)) xs.length).length := spansB_len _ (jR_zero _) _
  rw [this, List.getD, List.getElem?_append_right (Nat.le_refl _), Nat.sub_self]
  rfl
theorem flat_take (xs : List Int) : ∀ k, k ≤ (clS xs).length → (((clS xs).take k).map (sliceL xs)).flatten = xs.take (endC xs k)
  | 0, _ => by rw [endC_zero]; simp
  | k + 1, h => by
    have ih := flat_take xs k (by omega)
    rw [List.take_succ_eq_append_getElem (by omega), List.map_append, List.flatten_append, ih]
    have e : (clS xs)[k]'(by omega) = (endC xs k, endC xs (k + 1)) := by
      rw [← clS_at xs k (by omega)]
      simp [List.getD, List.getElem?_eq_getElem (show k < (clS xs).length by omega)]
    simp only [List.map_cons, List.map_nil, List.flatten_cons, List.flatten_nil, List.append_nil]
    rw [e]
    exact sliceL_next xs _ _ (Nat.le_of_lt (clS_ok xs k (by omega)).1)
theorem endC_le (xs : List Int) (k : Nat) (h : k ≤ (clS xs).length) : endC xs k ≤ xs.length := by
  rcases Nat.eq_zero_or_pos k with e | e
  · rw [e, endC_zero]; exact Nat.zero_le _
  · obtain ⟨m, rfl⟩ : ∃ m, k = m + 1 := ⟨k - 1, by omega⟩
    exact (clS_ok xs m (by omega)).2
/-- What a round is told: the next cluster. -/
theorem next_cu {xs : List Int} {pre : List Cu} {x : Cu} (h : (pre ++ [x]).map Cu.p <+: clS xs) : pre.length < (clS xs).length ∧ x.p = (endC xs pre.length, endC xs (pre.length + 1)) ∧ pre.map Cu.p = (clS xs).take pre.length := by
  have hl := h.length_le
  rw [List.length_map, List.length_append, List.length_singleton] at hl
  have ht := List.prefix_iff_eq_take.1 h
  rw [List.length_map, List.length_append, List.length_singleton, List.map_append] at ht
  have h1 : (pre.map Cu.p ++ [x.p]).take pre.length = ((clS xs).take (pre.length + 1)).take pre.length := by rw [← ht]; rfl
  have h2 : (pre.map Cu.p ++ [x.p]).getD pre.length (0, 0) = ((clS xs).take (pre.length + 1)).getD pre.length (0, 0) := by rw [← ht]; rfl
  rw [List.take_take, List.take_left' (by simp), Nat.min_eq_left (by omega)] at h1
  refine ⟨by omega, ?_, h1⟩
  rw [List.getD, List.getElem?_append_right (by simp)] at h2
  simp only [List.length_map, Nat.sub_self, List.getElem?_cons_zero, Option.getD_some] at h2
  rw [h2]
  have e : ((clS xs).take (pre.length + 1)).getD pre.length (0, 0) = (clS xs).getD pre.length (0, 0) := by simp [List.getD, List.getElem?_take]
  rw [e, clS_at xs _ (by omega)]
end Go.Proofs.Ytkpmmkokfllafaa
/- Clusters of two rows, of which the second one begins with one that breaks: numbers alone. -/
namespace Go.Proofs.Ytkpmmkokfllafaa
open Go.RowKit Go.ChangeShapes Go.WideShapes
def apartT (A B : List (Int × Int)) : Bool := A.all fun p => B.all fun q => decide (p.2 < q.1) || decide (q.2 < p.1)
theorem apart_tab {A B : List (Int × Int)} (h : apartT A B = true) {r : Int} (ha : inTab A r = true) : inTab B r = false := by
  cases hb : inTab B r with
  | false => rfl
  | true =>
    obtain ⟨p, hp, h1⟩ := List.any_eq_true.1 ha
    obtain ⟨q, hq, h2⟩ := List.any_eq_true.1 hb
    have h3 := List.all_eq_true.1 (List.all_eq_true.1 h p hp) q hq
    simp at h1 h2 h3
    omega
theorem ctrl_pict : apartT tControl tPict = true := by decide +kernel
theorem ctrl_cons : apartT tControl tCons = true := by decide +kernel
theorem ctrl_link : apartT tControl tLink = true := by decide +kernel
theorem ctrl_join : apartT tControl tJoin = true := by decide +kernel
theorem class_ends (r : Int) : classI r = 0 ∨ 9 ≤ classI r := by
  unfold classI
  repeat' split
  all_goals omega
/-- What breaks on both sides is no picture, and has no part in a conjunct. -/
theorem ctrl_plain {r : Int} (h : 1 ≤ gcbI r ∧ gcbI r ≤ 3) : inTab tPict r = false ∧ conjO r = 0 := by
  have hc : r = 13 ∨ r = 10 ∨ inTab tControl r = true := by
    by_cases h1 : r = 13
    · exact .inl h1
    by_cases h2 : r = 10
    · exact .inr (.inl h2)
    right; right
    cases hi : inTab tControl r with
    | true => rfl
    | false =>
      exfalso
      unfold gcbI listedI at h
      rw [if_neg h1, if_neg h2, hi] at h
      simp only [Bool.false_eq_true, if_false] at h
      have hcl := class_ends r
      repeat' split at h
      all_goals omega
  rcases hc with rfl | rfl | hc
  · exact ⟨by decide +kernel, by decide +kernel⟩
  · exact ⟨by decide +kernel, by decide +kernel⟩
  · refine ⟨apart_tab ctrl_pict hc, ?_⟩
    unfold conjO
    rw [apart_tab ctrl_cons hc, apart_tab ctrl_link hc, apart_tab ctrl_join hc]
    rfl
theorem sts_congr {xs ys : List Pr} : ∀ k, (∀ i, i < k → xs.getD i Pr.none = ys.getD i Pr.none) → cSt xs k = cSt ys k ∧ pSt xs k = pSt ys k ∧ oSt xs k = oSt ys k ∧ lSt xs k = lSt ys k
  | 0, _ => ⟨rfl, rfl, rfl, rfl⟩
  | k + 1, h => by
    obtain ⟨h1, h2, h3, _⟩ := sts_congr k fun i hi => h i (by omega)
    have h5 := h k (by omega)
    simp only [cSt, pSt, oSt, lSt]
    rw [h1, h2, h3, h5]
    exact ⟨rfl, rfl, rfl, rfl⟩
theorem jR_congr {xs ys : List Pr} (k : Nat) (h : ∀ i, i < k + 1 → xs.getD i Pr.none = ys.getD i Pr.none) : jR xs k = jR ys k := by
  obtain ⟨h1, h2, h3, h4⟩ := sts_congr k fun i hi => h i (by omega)
  rw [jR_st, jR_st, h1, h2, h3, h4, h k (by omega)]
theorem known_left (a b : List Int) (i : Nat) (h : i < a.length) : (knownL (a ++ b)).getD i Pr.none = (knownL a).getD i Pr.none := by
  unfold knownL
  rw [List.map_append]
  simp [List.getD, List.getElem?_append_left (show i < (a.map knownPr).length by simpa using h)]
theorem known_right (a b : List Int) (i : Nat) : (knownL (a ++ b)).getD (a.length + i) Pr.none = (knownL b).getD i Pr.none := by
  unfold knownL
  rw [List.map_append, List.getD, List.getElem?_append_right (by simp)]
  simp [List.getD]
theorem sts_shift {a b : List Int} {r : Int} {t : List Int} (hb : b = r :: t) (hr : 1 ≤ gcbI r ∧ gcbI r ≤ 3) : ∀ i, cSt (knownL (a ++ b)) (a.length + (i + 1)) = cSt (knownL b) (i + 1) ∧ pSt (knownL (a ++ b)) (a.length + (i + 1)) = pSt (knownL b) (i + 1) ∧ oSt (knownL (a ++ b)) (a.length + (i + 1)) = oSt (knownL b) (i + 1) ∧ lSt (knownL (a ++ b)) (a.length + (i + 1)) = lSt (knownL b) (i + 1)
  | 0 => by
    obtain ⟨h1, h2⟩ := ctrl_plain hr
    have h3 := known_right a b 0
    have h4 : (knownL b).getD 0 Pr.none = knownPr r := by rw [hb]; rfl
    rw [Nat.add_zero, h4] at h3
    have e1 : (knownPr r).br = gcbI r := rfl
    have e2 : (knownPr r).pc = inTab tPict r := rfl
    have e3 : (knownPr r).cv = conjO r := rfl
    show cSt _ (a.length + 0 + 1) = cSt _ (0 + 1) ∧ pSt _ (a.length + 0 + 1) = pSt _ (0 + 1) ∧ oSt _ (a.length + 0 + 1) = oSt _ (0 + 1) ∧ lSt _ (a.length + 0 + 1) = lSt _ (0 + 1)
    rw [Nat.add_zero]
    simp only [cSt, pSt, oSt, lSt]
    rw [h3, h4, e1, e2, e3, h1, h2]
    refine ⟨by simp [conjI], ?_, ?_, rfl⟩
    · unfold picI
      simp only [Bool.false_eq_true, if_false]
      split <;> split <;> first | rfl | (split <;> first | rfl | omega) | omega
    · have : (gcbI r == 6) = false := by rw [beq_eq_false_iff_ne]; omega
      rw [this]; rfl
  | i + 1 => by
    obtain ⟨h1, h2, h3, _⟩ := sts_shift (a := a) hb hr i
    have h5 := known_right a b (i + 1)
    show cSt _ (a.length + (i + 1) + 1) = cSt _ (i + 1 + 1) ∧ pSt _ (a.length + (i + 1) + 1) = pSt _ (i + 1 + 1) ∧ oSt _ (a.length + (i + 1) + 1) = oSt _ (i + 1 + 1) ∧ lSt _ (a.length + (i + 1) + 1) = lSt _ (i + 1 + 1)
    have c1 : cSt (knownL (a ++ b)) (a.length + (i + 1) + 1) = conjI (cSt (knownL (a ++ b)) (a.length + (i + 1))) ((knownL (a ++ b)).getD (a.length + (i + 1)) Pr.none).cv := rfl
    have c2 : pSt (knownL (a ++ b)) (a.length + (i + 1) + 1) = picI (pSt (knownL (a ++ b)) (a.length + (i + 1))) ((knownL (a ++ b)).getD (a.length + (i + 1)) Pr.none).br ((knownL (a ++ b)).getD (a.length + (i + 1)) Pr.none).pc := rfl
    have c3 : oSt (knownL (a ++ b)) (a.length + (i + 1) + 1) = (((knownL (a ++ b)).getD (a.length + (i + 1)) Pr.none).br == 6 && !oSt (knownL (a ++ b)) (a.length + (i + 1))) := rfl
    have c4 : lSt (knownL (a ++ b)) (a.length + (i + 1) + 1) = ((knownL (a ++ b)).getD (a.length + (i + 1)) Pr.none).br := rfl
    rw [c1, c2, c3, c4, h5, h1, h2, h3]
    exact ⟨rfl, rfl, rfl, rfl⟩
theorem join_cut {a b : List Int} {r : Int} {t : List Int} (hb : b = r :: t) (hr : 1 ≤ gcbI r ∧ gcbI r ≤ 3) (hcr : ¬ (gcbI r = 2 ∧ 0 < a.length ∧ gcbI (a.getD (a.length - 1) 0) = 1)) : ∀ i, jR (knownL (a ++ b)) (a.length + i) = jR (knownL b) i
  | 0 => by
    rw [jR_zero]
    rcases Nat.eq_zero_or_pos a.length with h0 | h0
    · rw [h0]; exact jR_zero _
    obtain ⟨m, hm⟩ : ∃ m, a.length = m + 1 := ⟨a.length - 1, by omega⟩
    have h3 := known_right a b 0
    have h4 : (knownL b).getD 0 Pr.none = knownPr r := by rw [hb]; rfl
    rw [Nat.add_zero, h4] at h3
    obtain ⟨h1, h2⟩ := ctrl_plain hr
    have hl : lSt (knownL (a ++ b)) a.length = gcbI (a.getD (a.length - 1) 0) := by
      rw [hm]
      show ((knownL (a ++ b)).getD m Pr.none).br = _
      rw [known_left a b m (by omega), knownL_at (by omega), Nat.add_sub_cancel]
      rfl
    rw [Nat.add_zero, jR_st, h3, hl]
    have e1 : (knownPr r).br = gcbI r := rfl
    have e2 : (knownPr r).pc = inTab tPict r := rfl
    have e3 : (knownPr r).cv = conjO r := rfl
    rw [e1, e2, e3, h1, h2, decide_eq_true h0]
    unfold joinsB
    have hj : joinI (gcbI (a.getD (a.length - 1) 0)) (gcbI r) ≠ 1 := by
      unfold joinI
      have hcl : clI (gcbI r) = gcbI r := by unfold clI; rw [if_neg (by omega)]
      have hbr : brB (gcbI r) = true := by unfold brB; simp; omega
      rw [hcl]
      unfold pairI
      by_cases hc : clI (gcbI (a.getD (a.length - 1) 0)) = 1 ∧ gcbI r = 2
      · exfalso
        apply hcr
        refine ⟨hc.2, h0, ?_⟩
        have := hc.1
        unfold clI at this
        split at this <;> omega
      · rw [if_neg hc, if_pos (.inr hbr)]; decide
    have h6 : (gcbI r == 6) = false := by rw [beq_eq_false_iff_ne]; omega
    rw [if_neg (by decide), if_neg hj, if_neg (by omega), if_neg (by simp), h6]
    rfl
  | i + 1 => by
    obtain ⟨h1, h2, h3, h4⟩ := sts_shift (a := a) hb hr i
    rw [jR_st, jR_st, h1, h2, h3, h4, known_right]
    rw [decide_eq_true (show 0 < a.length + (i + 1) by omega), decide_eq_true (show 0 < i + 1 by omega)]
theorem cluA_cut {a b : List Int} {r : Int} {t : List Int} (hb : b = r :: t) (hr : 1 ≤ gcbI r ∧ gcbI r ≤ 3) (hcr : ¬ (gcbI r = 2 ∧ 0 < a.length ∧ gcbI (a.getD (a.length - 1) 0) = 1)) : cluA (a ++ b) = cluA a ++ cluA b := by
  have hj := join_cut (a := a) hb hr hcr
  have h0 : jR (knownL (a ++ b)) a.length = false := by have := hj 0; rw [Nat.add_zero, jR_zero] at this; exact this
  have hlb : b.length = t.length + 1 := by rw [hb]; rfl
  unfold cluA clS
  rw [List.length_append, hlb, spansB_cut _ _ _ h0, List.map_append, List.map_map]
  have e1 : spansB (jR (knownL (a ++ b))) a.length = spansB (jR (knownL a)) a.length := spansB_congr _ _ _ fun i hi => jR_congr i fun k hk => known_left a b k (by omega)
  have e2 : spansB (fun i => jR (knownL (a ++ b)) (a.length + i)) (t.length + 1) = spansB (jR (knownL b)) (t.length + 1) := spansB_congr _ _ _ fun i _ => hj i
  rw [e1, e2]
  congr 1
  · refine List.map_congr_left fun p hp => ?_
    have := spansB_ok _ _ _ hp
    unfold sliceL
    rw [List.drop_append_of_le_length (by omega), List.take_append_of_le_length (by rw [List.length_drop]; omega)]
  · refine List.map_congr_left fun p hp => ?_
    show sliceL (a ++ b) (a.length + p.1, a.length + p.2) = sliceL b p
    unfold sliceL
    simp only
    rw [List.drop_length_add_append]
    congr 1
    omega
end Go.Proofs.Ytkpmmkokfllafaa
/- Texts with a blank between: their clusters are the parts' own. Of no program's code. -/
namespace Go.Proofs.Ytkpmmkokfllafaa
open Go.RowKit Go.ChangeShapes Go.WideShapes
theorem blank_plain {r : Int} (hr : r = 32) : gcbI r = 0 ∧ inTab tPict r = false ∧ conjO r = 0 := by subst hr; refine ⟨by decide +kernel, by decide +kernel, by decide +kernel⟩
theorem sts_shift32 {a b : List Int} {r : Int} {t : List Int} (hb : b = r :: t) (hr : r = 32) : ∀ i, cSt (knownL (a ++ b)) (a.length + (i + 1)) = cSt (knownL b) (i + 1) ∧ pSt (knownL (a ++ b)) (a.length + (i + 1)) = pSt (knownL b) (i + 1) ∧ oSt (knownL (a ++ b)) (a.length + (i + 1)) = oSt (knownL b) (i + 1) ∧ lSt (knownL (a ++ b)) (a.length + (i + 1)) = lSt (knownL b) (i + 1)
  | 0 => by
    obtain ⟨h0r, h1, h2⟩ := blank_plain hr
    have h3 := known_right a b 0
    have h4 : (knownL b).getD 0 Pr.none = knownPr r := by rw [hb]; rfl
    rw [Nat.add_zero, h4] at h3
    have e1 : (knownPr r).br = gcbI r := rfl
    have e2 : (knownPr r).pc = inTab tPict r := rfl
    have e3 : (knownPr r).cv = conjO r := rfl
    show cSt _ (a.length + 0 + 1) = cSt _ (0 + 1) ∧ pSt _ (a.length + 0 + 1) = pSt _ (0 + 1) ∧ oSt _ (a.length + 0 + 1) = oSt _ (0 + 1) ∧ lSt _ (a.length + 0 + 1) = lSt _ (0 + 1)
    rw [Nat.add_zero]
    simp only [cSt, pSt, oSt, lSt]
    rw [h3, h4, e1, e2, e3, h1, h2]
    refine ⟨by simp [conjI], ?_, ?_, rfl⟩
    · unfold picI
      simp only [Bool.false_eq_true, if_false]
      split <;> split <;> first | rfl | (split <;> first | rfl | omega) | omega
    · have : (gcbI r == 6) = false := by rw [beq_eq_false_iff_ne]; omega
      rw [this]; rfl
  | i + 1 => by
    obtain ⟨h1, h2, h3, _⟩ := sts_shift32 (a := a) hb hr i
    have h5 := known_right a b (i + 1)
    show cSt _ (a.length + (i + 1) + 1) = cSt _ (i + 1 + 1) ∧ pSt _ (a.length + (i + 1) + 1) = pSt _ (i + 1 + 1) ∧ oSt _ (a.length + (i + 1) + 1) = oSt _ (i + 1 + 1) ∧ lSt _ (a.length + (i + 1) + 1) = lSt _ (i + 1 + 1)
    have c1 : cSt (knownL (a ++ b)) (a.length + (i + 1) + 1) = conjI (cSt (knownL (a ++ b)) (a.length + (i + 1))) ((knownL (a ++ b)).getD (a.length + (i + 1)) Pr.none).cv := rfl
    have c2 : pSt (knownL (a ++ b)) (a.length + (i + 1) + 1) = picI (pSt (knownL (a ++ b)) (a.length + (i + 1))) ((knownL (a ++ b)).getD (a.length + (i + 1)) Pr.none).br ((knownL (a ++ b)).getD (a.length + (i + 1)) Pr.none).pc := rfl
    have c3 : oSt (knownL (a ++ b)) (a.length + (i + 1) + 1) = (((knownL (a ++ b)).getD (a.length + (i + 1)) Pr.none).br == 6 && !oSt (knownL (a ++ b)) (a.length + (i + 1))) := rfl
    have c4 : lSt (knownL (a ++ b)) (a.length + (i + 1) + 1) = ((knownL (a ++ b)).getD (a.length + (i + 1)) Pr.none).br := rfl
    rw [c1, c2, c3, c4, h5, h1, h2, h3]
    exact ⟨rfl, rfl, rfl, rfl⟩
theorem join_cut32 {a b : List Int} {r : Int} {t : List Int} (hb : b = r :: t) (hr : r = 32) (hcr : 0 < a.length → joinI (gcbI (a.getD (a.length - 1) 0)) 0 ≠ 1) : ∀ i, jR (knownL (a ++ b)) (a.length + i) = jR (knownL b) i
  | 0 => by
    rw [jR_zero]
    rcases Nat.eq_zero_or_pos a.length with h0 | h0
    · rw [h0]; exact jR_zero _
    obtain ⟨m, hm⟩ : ∃ m, a.length = m + 1 := ⟨a.length - 1, by omega⟩
    have h3 := known_right a b 0
    have h4 : (knownL b).getD 0 Pr.none = knownPr r := by rw [hb]; rfl
    rw [Nat.add_zero, h4] at h3
    obtain ⟨h0r, h1, h2⟩ := blank_plain hr
    have hl : lSt (knownL (a ++ b)) a.length = gcbI (a.getD (a.length - 1) 0) := by
      rw [hm]
      show ((knownL (a ++ b)).getD m Pr.none).br = _
      rw [known_left a b m (by omega), knownL_at (by omega), Nat.add_sub_cancel]
      rfl
    rw [Nat.add_zero, jR_st, h3, hl]
    have e1 : (knownPr r).br = gcbI r := rfl
    have e2 : (knownPr r).pc = inTab tPict r := rfl
    have e3 : (knownPr r).cv = conjO r := rfl
    rw [e1, e2, e3, h1, h2, decide_eq_true h0]
    unfold joinsB
    have hj : joinI (gcbI (a.getD (a.length - 1) 0)) (gcbI r) ≠ 1 := by rw [h0r]; exact hcr h0
    have h6 : (gcbI r == 6) = false := by rw [beq_eq_false_iff_ne]; omega
    rw [if_neg (by decide), if_neg hj, if_neg (by omega), if_neg (by simp), h6]
    rfl
  | i + 1 => by
    obtain ⟨h1, h2, h3, h4⟩ := sts_shift32 (a := a) hb hr i
    rw [jR_st, jR_st, h1, h2, h3, h4, known_right]
    rw [decide_eq_true (show 0 < a.length + (i + 1) by omega), decide_eq_true (show 0 < i + 1 by omega)]
theorem cluA_cut32 {a b : List Int} {r : Int} {t : List Int} (hb : b = r :: t) (hr : r = 32) (hcr : 0 < a.length → joinI (gcbI (a.getD (a.length - 1) 0)) 0 ≠ 1) : cluA (a ++ b) = cluA a ++ cluA b := by
  have hj := join_cut32 (a := a) hb hr hcr
  have h0 : jR (knownL (a ++ b)) a.length = false := by have := hj 0; rw [Nat.add_zero, jR_zero] at this; exact this
  have hlb : b.length = t.length + 1 := by rw [hb]; rfl
  unfold cluA clS
  rw [List.length_append, hlb, spansB_cut _ _ _ h0, List.map_append, List.map_map]
  have e1 : spansB (jR (knownL (a ++ b))) a.length = spansB (jR (knownL a)) a.length := spansB_congr _ _ _ fun i hi => jR_congr i fun k hk => known_left a b k (by omega)
  have e2 : spansB (fun i => jR (knownL (a ++ b)) (a.length + i)) (t.length + 1) = spansB (jR (knownL b)) (t.length + 1) := spansB_congr _ _ _ fun i _ => hj i
  rw [e1, e2]
  congr 1
  · refine List.map_congr_left fun p hp => ?_
    have := spansB_ok _ _ _ hp
    unfold sliceL
    rw [List.drop_append_of_le_length (by omega), List.take_append_of_le_length (by rw [List.length_drop]; omega)]
  · refine List.map_congr_left fun p hp => ?_
    show sliceL (a ++ b) (a.length + p.1, a.length + p.2) = sliceL b p
    unfold sliceL
    simp only
    rw [List.drop_length_add_append]
    congr 1
    omega
end Go.Proofs.Ytkpmmkokfllafaa
/- Texts with a blank between: behind the blank a text of its own begins. Of no program's code. -/
namespace Go.Proofs.Ytkpmmkokfllafaa
open Go.RowKit Go.ChangeShapes Go.WideShapes
theorem plain_join {c : Int} (h : barB c = false) : joinI c 0 ≠ 1 := by
  have hc : c < 0 ∨ 13 < c ∨ c = 0 ∨ c = 4 ∨ c = 5 ∨ c = 8 ∨ c = 9 ∨ c = 10 ∨ c = 11 ∨ c = 12 ∨ c = 13 := by
    unfold barB at h
    simp at h
    omega
  rcases hc with h1 | h1 | rfl | rfl | rfl | rfl | rfl | rfl | rfl | rfl | rfl
  · unfold joinI clI; rw [if_pos (.inl h1)]; decide
  · unfold joinI clI; rw [if_pos (.inr h1)]; decide
  all_goals decide
theorem sts_after {b : List Int} : ∀ i, cSt (knownL ([32] ++ b)) (1 + i) = cSt (knownL b) i ∧ pSt (knownL ([32] ++ b)) (1 + i) = pSt (knownL b) i ∧ oSt (knownL ([32] ++ b)) (1 + i) = oSt (knownL b) i
  | 0 => by
    obtain ⟨h0, h1, h2⟩ := blank_plain (rfl : (32 : Int) = 32)
    have c1 : cSt (knownL ([32] ++ b)) (1 + 0) = conjI 0 (conjO 32) := rfl
    have c2 : pSt (knownL ([32] ++ b)) (1 + 0) = picI 0 (gcbI 32) (inTab tPict 32) := rfl
    have c3 : oSt (knownL ([32] ++ b)) (1 + 0) = (gcbI 32 == 6 && !false) := rfl
    rw [c1, c2, c3, h0, h1, h2]
    exact ⟨rfl, rfl, rfl⟩
  | i + 1 => by
    obtain ⟨h1, h2, h3⟩ := sts_after (b := b) i
    have h5 := known_right [32] b i
    rw [show ([32] : List Int).length = 1 from rfl] at h5
    have c1 : cSt (knownL ([32] ++ b)) (1 + i + 1) = conjI (cSt (knownL ([32] ++ b)) (1 + i)) ((knownL ([32] ++ b)).getD (1 + i) Pr.none).cv := rfl
    have c2 : pSt (knownL ([32] ++ b)) (1 + i + 1) = picI (pSt (knownL ([32] ++ b)) (1 + i)) ((knownL ([32] ++ b)).getD (1 + i) Pr.none).br ((knownL ([32] ++ b)).getD (1 + i) Pr.none).pc := rfl
    have c3 : oSt (knownL ([32] ++ b)) (1 + i + 1) = (((knownL ([32] ++ b)).getD (1 + i) Pr.none).br == 6 && !oSt (knownL ([32] ++ b)) (1 + i)) := rfl
    rw [show 1 + (i + 1) = 1 + i + 1 from by omega, c1, c2, c3, h5, h1, h2, h3]
    exact ⟨rfl, rfl, rfl⟩
theorem join_after {b : List Int} {r : Int} {t : List Int} (hb : b = r :: t) (hr : gcbI r = 0) : ∀ i, jR (knownL ([32] ++ b)) (1 + i) = jR (knownL b) i
  | 0 => by
    rw [jR_zero, jR_st]
    obtain ⟨h1, h2, h3⟩ := sts_after (b := b) 0
    have h5 := known_right [32] b 0
    rw [show ([32] : List Int).length = 1 from rfl] at h5
    have h4 : (knownL b).getD 0 Pr.none = knownPr r := by rw [hb]; rfl
    have hl : lSt (knownL ([32] ++ b)) (1 + 0) = 0 := by
      have : lSt (knownL ([32] ++ b)) (1 + 0) = gcbI 32 := rfl
      rw [this, (blank_plain rfl).1]
    rw [h1, h2, h3, h5, h4, hl]
    have e1 : (knownPr r).br = 0 := hr
    rw [e1]
    have e2 : cSt (knownL b) 0 = 0 := rfl
    have e3 : pSt (knownL b) 0 = 0 := rfl
    have e4 : oSt (knownL b) 0 = false := rfl
    rw [e2, e3, e4]
    unfold joinsB
    simp
    decide
  | i + 1 => by
    obtain ⟨h1, h2, h3⟩ := sts_after (b := b) (i + 1)
    have h5 := known_right [32] b (i + 1)
    have h6 := known_right [32] b i
    rw [show ([32] : List Int).length = 1 from rfl] at h5 h6
    have hl : lSt (knownL ([32] ++ b)) (1 + (i + 1)) = lSt (knownL b) (i + 1) := by
      have c1 : lSt (knownL ([32] ++ b)) (1 + i + 1) = ((knownL ([32] ++ b)).getD (1 + i) Pr.none).br := rfl
      rw [show 1 + (i + 1) = 1 + i + 1 from by omega, c1, h6]
      rfl
    rw [jR_st, jR_st, h1, h2, h3, hl, h5]
    rw [decide_eq_true (show 0 < 1 + (i + 1) by omega), decide_eq_true (show 0 < i + 1 by omega)]
end Go.Proofs.Ytkpmmkokfllafaa
