/- Texts put together: CursorD, TabF, TabG. -/
import Derived.Test.YteinppjklhomnaaDoorCursorC
import Derived.Test.YteinppjklhomnaaDoorTabE
import Derived.Test.YteinppjklhomnaaDoorMg1
/- Contracts of cursor.Right, Move, After and of the reference's. -/
namespace Go.Proofs.YteinppjklhomnaaDoor
open Go.RowKit Go.ChangeShapes Go.WideShapes
def curRightB (r c : Int) (p : Bool) (a b : Int) : Bool := decide (0 ≤ r) && decide (r < sideI b) && decide (0 ≤ c) && decide (c < sideI a) && (!p || (c == sideI a - 1))
theorem right_iff (r c : Int) (p : Bool) (a b : Int) : curRightB r c p a b = true ↔ (0 ≤ r ∧ r < sideI b ∧ 0 ≤ c ∧ c < sideI a ∧ (p = true → c = sideI a - 1)) := by
  unfold curRightB; cases p <;> simp [and_assoc]
/-- The box of a function that takes a cursor. -/
theorem box1 (w : World) (a0 a1 a2 : Value) : ∃ W, W = w.alloc (.cells #[a0, a1, a2] 29) ∧ Has W w.heap.size [a0, a1, a2] 29 ∧ Below w.heap.size w W :=
  ⟨_, rfl, Has.new w _ _, (Below.refl _ _).alloc (Nat.le_refl _) _⟩
set_option maxRecDepth 100000 in
theorem cright_any (r c : Int) (p : Bool) (a b : Int) (w : World) : Calls Tryd.prog 22 #[.agg #[.int .i64 r, .int .i64 c, .bool p], .int .i64 a, .int .i64 b] w (Gives w (.bool (curRightB r c p a b))) := by
  have ka := sideI_bd a
  have kb := sideI_bd b
  have hv : curEq r c p (inI r (sideI b)) (inI c (sideI a)) (holdP c p a) = curRightB r c p a b := by
    rw [Bool.eq_iff_iff, right_iff]
    unfold curEq inI holdP
    cases p <;> simp <;> omega
  have HV := Lib.hid hv
  clear hv
  go_enter Tryd.func22, Tryd.ntmps22
  go_wp2_with fail
  obtain ⟨W, hW, hb, hl⟩ := box1 w (Value.int .i64 r) (.int .i64 c) (.bool p)
  rw [← hW]
  have HL := Lib.hid hl
  have e0 := ext_cell (hb.cell 0 _ rfl)
  have e1 := ext_cell (hb.cell 1 _ rfl)
  have e2 := ext_cell (hb.cell 2 _ rfl)
  generalize hg : w.heap.size = g at *
  have HG := Lib.hid hg
  clear hb hl hW hg
  have q1 := cur_eql
  refine wp_region_ext (by kernel_rfl) (by kernel_rfl) ?_
  repeat (go_big_quiet_step ((go_at_call 63; exact callx (chold_any r c p a b _))))
  refine wpQuiet_nil ?_
  intro _ hw'
  obtain ⟨u, hw''⟩ := hw'
  subst hw''
  have hbl := ext_below (w := w) (by rw [HG.out]; exact HL.out) u
  go_wp2
  go_ret
  exact ⟨ret_eq (by rw [← HV.out]; rfl), hbl⟩
theorem right_held (r c : Int) (p : Bool) (a b : Int) : curRightB (inI r (sideI b)) (inI c (sideI a)) (holdP c p a) a b = true := by
  have ka := sideI_bd a
  have kb := sideI_bd b
  rw [right_iff]
  unfold inI holdP
  cases p <;> simp <;> omega
theorem cright_held (r c : Int) (p : Bool) (a b : Int) (w : World) : Calls Tryd.prog 22 #[.agg #[.int .i64 (inI r (sideI b)), .int .i64 (inI c (sideI a)), .bool (holdP c p a)], .int .i64 a, .int .i64 b] w (Gives w (.bool true)) := by
  have := cright_any (inI r (sideI b)) (inI c (sideI a)) (holdP c p a) a b w
  rwa [right_held] at this
end Go.Proofs.YteinppjklhomnaaDoor
/- Contracts of the tables' readers: pict.Is, the class of a number, what it is in a conjunct and in the east; the reference's In. -/
namespace Go.Proofs.YteinppjklhomnaaDoor
open Go.RowKit Go.ChangeShapes Go.WideShapes
theorem storesT (P : Program) (t : TypeId) (T : List (Int × Int)) (z : Array Value) (n : Nat) (hi : (P.info? t).map (·.size) = some (2 * n)) (hz : z.size = 2 * n) (hT : T.length = n) (w : World) :
    (storeCells ⟨w.heap.size, 0, none⟩ (tabCells .i32 T) 0).run P (w.alloc (.cells z t)) = .ok () (w.alloc (.cells (tabCells .i32 T).toArray t)) := by
  have hs := tab_size .i32 T n hT
  have := run_storeCells_new (P := P) w t z (tabCells .i32 T).toArray (by rw [hs]; exact hi) (by rw [hs]; exact hz) (tab_one _ _)
  simpa using this
theorem heldT_new {k : IntKind} {w : World} {T : List (Int × Int)} {t : TypeId} {n cap : Nat} (hn : T.length = n) : HeldT k (w.alloc (.cells (tabCells k T).toArray t)) (.slice (some ⟨w.heap.size, 0, none⟩) n cap) T := by
  subst hn
  exact heldT_has (heap_alloc_last w _)
set_option maxRecDepth 100000 in
theorem in_any (v : Value) (T : List (Int × Int)) (r : Int) (w : World) (hh : HeldT .i64 w v T) (hl : T.length ≤ 1000000) (r0 : -2147483648 ≤ r) (r1 : r ≤ 2147483647) :
    Calls Tryd.prog 133 #[v, .int .i32 r] w (Gives w (.bool (inTab T r))) := by
  obtain ⟨ao, cap, rfl, hc⟩ := hh.view
  have HC := Lib.hid hc
  clear hc hh
  go_enter Tryd.func133, Tryd.ntmps133
  go_wp2
  go_loopw [5] (fun i wr => ∃ k : Nat, k ≤ T.length ∧ i = .int .i64 k ∧ Go.RowKit.Hid (∀ j (hj : j < T.length), j < k → ¬ (T[j].1 ≤ r ∧ r ≤ T[j].2)) ∧ Below w.heap.size w wr) (fun i _ => T.length - (intOf i).toNat)
  case atStart => exact ⟨0, Nat.zero_le _, rfl, Lib.hid (fun j _ hj => by omega), Below.refl _ _⟩
  case round =>
    obtain ⟨k, hk, rfl, HN, hbw⟩ := hrel
    by_cases hlt : k < T.length
    · obtain ⟨b, off, rfl, hb, h1, h2⟩ := HC.out k hlt
      have h1 := (hbw.cell (p := ⟨b, off + k * 2, none⟩) hb).trans h1
      have h2 := (hbw.cell (p := ⟨b, off + k * 2 + 1, none⟩) hb).trans h2
      rw [getD_tab hlt] at h1 h2
      by_cases h3 : T[k].1 ≤ r
      · have d1 : decide (T[k].1 ≤ r) = true := decide_eq_true h3
        by_cases h4 : r ≤ T[k].2
        · have d2 : decide (r ≤ T[k].2) = true := decide_eq_true h4
          have HE := Lib.hid (inTab_of k hlt h3 h4)
          generalize T[k].1 = x at *
          generalize T[k].2 = y at *
          clear HN
          go_wp2
          go_ret
          exact ⟨ret_eq (by rw [HE.out]; rfl), hbw⟩
        · have d2 : decide (r ≤ T[k].2) = false := decide_eq_false h4
          have HN2 := Lib.hid (show ∀ j (hj : j < T.length), j < k + 1 → ¬ (T[j].1 ≤ r ∧ r ≤ T[j].2) from fun j hj hjk => by
            by_cases h : j = k
            · subst h; omega
            · exact HN.out j hj (by omega))
          generalize T[k].1 = x at h1 h3 d1
          generalize T[k].2 = y at h2 h4 d2
          go_wp2
          go_roundw
          case rel => exact ⟨k + 1, by omega, by go_num, HN2, hbw⟩
          case measure => simp [intOf]; omega
      · have d1 : decide (T[k].1 ≤ r) = false := decide_eq_false h3
        have HN2 := Lib.hid (show ∀ j (hj : j < T.length), j < k + 1 → ¬ (T[j].1 ≤ r ∧ r ≤ T[j].2) from fun j hj hjk => by
          by_cases h : j = k
          · subst h; omega
          · exact HN.out j hj (by omega))
        generalize T[k].1 = x at h1 h3 d1
        generalize T[k].2 = y at h2
        go_wp2
        go_roundw
        case rel => exact ⟨k + 1, by omega, by go_num, HN2, hbw⟩
        case measure => simp [intOf]; omega
    · have he : inTab T r = false := inTab_none fun j hj => HN.out j hj (by omega)
      have HE := Lib.hid he
      clear he
      go_wp2
      go_ret
      exact ⟨ret_eq (by rw [HE.out]; rfl), hbw⟩
end Go.Proofs.YteinppjklhomnaaDoor
/- What the program's tables tell of any number: its class, its use in a conjunct, its width in the east. -/
namespace Go.Proofs.YteinppjklhomnaaDoor
open Go.RowKit Go.ChangeShapes Go.WideShapes
theorem tabB {w0 w1 w2 w3 : World} {o : Obj} (h : Below w0.heap.size w0 w1) (b : Below w1.heap.size w1 w2) (c : Below (w2.alloc o).heap.size (w2.alloc o) w3) : Below w0.heap.size w0 w3 := by
  have h2 := h.trans (b.mono h.size)
  exact (h2.alloc h2.size o).trans (c.mono (by have := h2.size; simp; omega))
def listedI (r : Int) : Int := if inTab tControl r = true then 3 else if inTab tExtend r = true then 4 else if inTab tSpacing r = true then 8 else if inTab tPrepend r = true then 7 else 0
def gcbI (r : Int) : Int := if r = 13 then 1 else if r = 10 then 2 else if r = 8205 then 5 else if 127462 ≤ r ∧ r ≤ 127487 then 6 else if listedI r = 0 then classI r else listedI r
def conjO (r : Int) : Int := if inTab tCons r = true then 1 else if inTab tLink r = true then 2 else if inTab tJoin r = true then 3 else 0
def eastI (r : Int) : Int := if inTab tWide r = true then 1 else if inTab tFull r = true then 2 else if inTab tHalf r = true then 3 else 0
end Go.Proofs.YteinppjklhomnaaDoor
