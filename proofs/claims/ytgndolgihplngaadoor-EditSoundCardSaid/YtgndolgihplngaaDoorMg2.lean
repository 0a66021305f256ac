/- Texts put together: CursorD, ErfA, ErfB, ErfL, ErfS. -/
import Derived.Test.YtgndolgihplngaaDoorCursorC
import Derived.Test.YtgndolgihplngaaDoorErfC
import Derived.Test.YtgndolgihplngaaDoorRows
import Derived.LaidMore
import Derived.Test.YtgndolgihplngaaDoorErrS
/- Contracts of cursor.Right, Move, After and of the reference's. -/
namespace Go.Proofs.YtgndolgihplngaaDoor
open Go.RowKit Go.ChangeShapes Go.WideShapes
def curRightB (r c : Int) (p : Bool) (a b : Int) : Bool := decide (0 ≤ r) && decide (r < sideI b) && decide (0 ≤ c) && decide (c < sideI a) && (!p || (c == sideI a - 1))
theorem right_iff (r c : Int) (p : Bool) (a b : Int) : curRightB r c p a b = true ↔ (0 ≤ r ∧ r < sideI b ∧ 0 ≤ c ∧ c < sideI a ∧ (p = true → c = sideI a - 1)) := by
  unfold curRightB; cases p <;> simp [and_assoc]
/-- The box of a function that takes a cursor. -/
theorem box1 (w : World) (a0 a1 a2 : Value) : ∃ W, W = w.alloc (.cells #[a0, a1, a2] 24) ∧ Has W w.heap.size [a0, a1, a2] 24 ∧ Below w.heap.size w W :=
  ⟨_, rfl, Has.new w _ _, (Below.refl _ _).alloc (Nat.le_refl _) _⟩
set_option maxRecDepth 100000 in
theorem cright_any (r c : Int) (p : Bool) (a b : Int) (w : World) : Calls Tryd.prog 17 #[.agg #[.int .i64 r, .int .i64 c, .bool p], .int .i64 a, .int .i64 b] w (Gives w (.bool (curRightB r c p a b))) := by
  have ka := sideI_bd a
  have kb := sideI_bd b
  have hv : curEq r c p (inI r (sideI b)) (inI c (sideI a)) (holdP c p a) = curRightB r c p a b := by
    rw [Bool.eq_iff_iff, right_iff]
    unfold curEq inI holdP
    cases p <;> simp <;> omega
  have HV := Lib.hid hv
  clear hv
  go_enter Tryd.func17, Tryd.ntmps17
  go_wp2_with fail
  obtain ⟨W, hW, hb, hl⟩ := box1 w (Value.int .i64 r) (.int .i64 c) (.bool p)
  rw [← hW]
  have HL := Lib.hid hl
  have e0 := ext_cell (hb.cell 0 _ rfl)
  have e1 := ext_cell (hb.cell 1 _ rfl)
  have e2 := ext_cell (hb.cell 2 _ rfl)
  generalize hg : w.heap.size = g at *
  have HG := Lib.hid hg
  clear hb hl hW hg
  have q1 := cur_eql
  refine wp_region_ext (by kernel_rfl) (by kernel_rfl) ?_
  repeat (go_big_quiet_step ((go_at_call 42; exact callx (chold_any r c p a b _))))
  refine wpQuiet_nil ?_
  intro _ hw'
  obtain ⟨u, hw''⟩ := hw'
  subst hw''
  have hbl := ext_below (w := w) (by rw [HG.out]; exact HL.out) u
  go_wp2
  go_ret
  exact ⟨ret_eq (by rw [← HV.out]; rfl), hbl⟩
end Go.Proofs.YtgndolgihplngaaDoor
/- errors.As at a target of type **api.Fault, and api.At, api.Within: by Go's own text of errors.As, walked (after the worked toy 'toyas'). -/
namespace Go.Proofs.YtgndolgihplngaaDoor.F
open Go.RowKit Go.Extern.Stop Go.Stop Go.Extern

end Go.Proofs.YtgndolgihplngaaDoor.F
/- api.At and api.Within: the places of an error's faults. -/
namespace Go.Proofs.YtgndolgihplngaaDoor.F
open Go.RowKit

end Go.Proofs.YtgndolgihplngaaDoor.F
/- From what a row lists to where it lies. -/
namespace Go.Proofs.YtgndolgihplngaaDoor.F
open Go.RowKit Go.ChangeShapes

def sentD (t : List UInt8) : DataW Unit := .iface "*errors.errorString" (.ptr (.agg [.lit (.string t)]))

theorem laidVars_sents {P : Program} {W : World} {ti tp te ts : TypeId} {ms : Array (String × TypeId)} {f : Field}
    (hi : P.underlying ti = some (.interface ms)) (hrow : ∀ u, P.typeName? 3 u = some "*errors.errorString" → u = tp)
    (hp : P.underlying tp = some (.pointer te)) (he : P.underlying te = some (.struct #[f])) (hft : f.type = ts) (hfo : f.offset = 0) (hs : P.underlying ts = some .string) (hc : P.cellsOf te = 1) (hcs : P.cellsOf ts = 1) :
    ∀ (l : List (String × List UInt8 × Nat)) (ps : List MemPlace), (∀ x ∈ l, P.globalNamed x.1 = some x.2.2 ∧ (P.globals[x.2.2]?).map (·.type) = some ti) →
      DataW.LaidVars P W (l.map fun x => (x.1, sentD x.2.1)) ps →
      (∀ b off, MemPlace.cell b off ∈ ps → (∃ c t, W.heap[b]? = some (.cells c t (0, 0))) ∧ ∀ u v, W.cell? ⟨b, off, none⟩ = some (.iface u v) → Value.okWide P W .any 0 u v) → ps.Nodup →
      ∃ ads : List Addr, ads.length = l.length ∧ (∀ k, k < l.length → W.cell? ⟨(l.getD k ("", [], 0)).2.2, 0, none⟩ = some (.iface tp (.pointer (some (ads.getD k default))))) ∧
        (∀ a ∈ ads, MemPlace.cell a.block a.off ∈ ps ∧ ∃ c t, W.heap[a.block]? = some (.cells c t (0, 0))) ∧ ads.Nodup := by
  intro l
  induction l with
  | nil => intro ps _ _ _ _; exact ⟨[], rfl, fun k hk => by simp at hk, fun a ha => by simp at ha, List.nodup_nil⟩
  | cons x l ih =>
    intro ps hgs h hrows hnd
    obtain ⟨n, tx, g⟩ := x
    obtain ⟨g', t', cs, fuel, p, q, hg', ht', hv, hd, hq, rfl⟩ := h
    obtain ⟨hg, ht⟩ := hgs (n, tx, g) (by simp)
    obtain rfl := Option.some.inj (hg.symm.trans hg')
    obtain rfl := Option.some.inj (ht.symm.trans ht')
    obtain ⟨l0⟩ := cs
    have ok0 : ∀ u v, l0 = [.iface u v] → Value.okWide P W .any 0 u v := fun u v e => by
      subst e
      exact (hrows g 0 (by simp [MemPlace.row])).2 u v (by simpa using World.var?_cell hg' hv 0)
    obtain ⟨a0, s0, rfl, hc0, hs0, hz0, rfl⟩ := errorString_of_trod hi hrow hp he hft hfo hs hc hcs hd ok0
    have hin : MemPlace.cell a0.block a0.off ∈ MemPlace.row a0 1 := by simp [MemPlace.row]
    obtain ⟨c0, t0, hb0⟩ := (hrows a0.block a0.off (List.mem_append_left _ (List.mem_append_right _ hin))).1
    obtain ⟨ads, h1, h2, h3, h4⟩ := ih q (fun y hy => hgs y (by simp [hy])) hq (fun b off hm => hrows b off (List.mem_append_right _ hm)) (List.Nodup.sublist (List.sublist_append_right _ _) hnd)
    refine ⟨a0 :: ads, by simp [h1], ?_, ?_, ?_⟩
    · intro k hk
      cases k with
      | zero => simpa using World.var?_cell hg' hv 0
      | succ k => simpa using h2 k (by simpa using hk)
    · intro a ha
      rcases List.mem_cons.1 ha with rfl | ha
      · exact ⟨List.mem_append_left _ (List.mem_append_right _ hin), c0, t0, hb0⟩
      · exact ⟨List.mem_append_right _ (h3 a ha).1, (h3 a ha).2⟩
    · refine List.nodup_cons.2 ⟨fun ha => ?_, h4⟩
      have hm := (h3 a0 ha).1
      have hd2 := (List.nodup_append.1 hnd).2.2
      exact hd2 _ (List.mem_append_right _ hin) _ hm rfl

def sentList : List (String × List UInt8 × Nat) := [("linotype/api.ErrScalar", [115, 99, 97, 108, 97, 114], 2), ("linotype/api.ErrForm", [102, 111, 114, 109], 3), ("linotype/api.ErrRange", [114, 97, 110, 103, 101], 0),
  ("linotype/api.ErrLong", [108, 111, 110, 103], 4), ("linotype/api.ErrKind", [107, 105, 110, 100], 1), ("linotype/api.ErrWord", [119, 111, 114, 100], 5), ("linotype/api.ErrFull", [102, 117, 108, 108], 6), ("linotype/api.ErrNone", [110, 111, 110, 101], 7)]
theorem esRow : ∀ u, Tryd.prog.typeName? 3 u = some "*errors.errorString" → u = 180 := typeName_ptr_named (nm := "errors.errorString") (by kernel_rfl) (by kernel_rfl) (by decide)
theorem sents_of_laid {W : World} (h : laidMet Tryd.prog (sentList.map fun x => (x.1, sentD x.2.1)) W) : ∃ sa, Sents W sa := by
  obtain ⟨ps, hv, hnd, hrows⟩ := h
  obtain ⟨ads, h1, h2, h3, h4⟩ := laidVars_sents Tryd.underlying33 esRow Tryd.underlying180 Tryd.underlying205 rfl rfl Tryd.underlying9 (by kernel_rfl) (by kernel_rfl) sentList ps
    (by intro x hx; simp only [sentList, List.mem_cons, List.not_mem_nil, or_false] at hx; rcases hx with rfl | rfl | rfl | rfl | rfl | rfl | rfl | rfl <;> exact ⟨by kernel_rfl, by kernel_rfl⟩) hv hrows hnd
  have hl : ads.length = 8 := h1
  refine ⟨fun k => ads.getD k default, ⟨?_, ?_, ?_⟩⟩
  · intro k hk
    have := h2 k hk
    rw [show glob k = (sentList.getD k ("", [], 0)).2.2 from by
      match k, hk with
      | 0, _ | 1, _ | 2, _ | 3, _ | 4, _ | 5, _ | 6, _ | 7, _ => rfl]
    exact this
  · intro k hk
    exact (h3 _ (by simp [List.getD, List.getElem?_eq_getElem (show k < ads.length by omega)])).2
  · intro i j hi hj hne he
    refine hne ?_
    have e1 : ads.getD i default = ads[i]'(by omega) := by simp [List.getD, List.getElem?_eq_getElem (show i < ads.length by omega)]
    have e2 : ads.getD j default = ads[j]'(by omega) := by simp [List.getD, List.getElem?_eq_getElem (show j < ads.length by omega)]
    rw [e1, e2] at he
    exact (List.getElem_inj h4).1 he
end Go.Proofs.YtgndolgihplngaaDoor.F
/- The eight errors' places, as the texts of faults (F) and those without them say it. -/
namespace Go.Proofs.YtgndolgihplngaaDoor
open Go.RowKit Go.ChangeShapes Go.WideShapes
end Go.Proofs.YtgndolgihplngaaDoor
