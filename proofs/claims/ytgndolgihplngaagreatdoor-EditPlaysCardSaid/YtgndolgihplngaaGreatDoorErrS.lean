/- Contracts on api's eight errors, by themselves: what each, and nil, answers to errors.Is and to api.Code; where a row's list lays them. -/
import Derived.Test.YtgndolgihplngaaGreatDoorProg
import Derived.Test.YtgndolgihplngaaGreatDoorMg1
import Derived.Test.YtgndolgihplngaaGreatDoorRows
import Derived.Handy
import Derived.LaidEql
import Derived.LaidHandle
import Derived.LaidMore
import Derived.Stop.Asserts
import Derived.Stop.LaidErr
import Derived.RowKitTokens
import Derived.Deep.LoopGhost
import Derived.Deep.RegionWith
namespace Go.Proofs.YtgndolgihplngaaGreatDoor
open Go.RowKit Go.ChangeShapes Go.WideShapes
open Go.Extern.Stop Go.Stop Go.Extern
/-- The number of the package variable that holds the k-th of api's eight. -/
def glob : Nat → Nat
  | 0 => 1 | 1 => 2 | 2 => 0 | 3 => 3
  | 4 => 4 | 5 => 5 | 6 => 6 | _ => 7

/-- Where the eight lie: each variable holds a pointer of its own. -/
structure Sents (w : World) (sa : Nat → Addr) : Prop where
  cell : ∀ k, k < 8 → w.cell? ⟨glob k, 0, none⟩ = some (.iface 151 (.pointer (some (sa k))))
  row : ∀ k, k < 8 → ∃ c t, w.heap[(sa k).block]? = some (.cells c t (0, 0))
  ne : ∀ i j, i < 8 → j < 8 → i ≠ j → sa i ≠ sa j
theorem Sents.below {w w' : World} {sa : Nat → Addr} (h : Sents w sa) (hb : Below w.heap.size w w') : Sents w' sa where
  cell k hk := by
    have := h.cell k hk
    exact (hb.cell (p := ⟨glob k, 0, none⟩) (World.block_lt_of_cell? _ _ this)).trans this
  row k hk := by
    obtain ⟨c, t, hr⟩ := h.row k hk
    exact ⟨c, t, (hb.block _ (Array.getElem?_eq_some_iff.1 hr).1).trans hr⟩
  ne := h.ne

theorem isTypeOf (v : Value) (w : World) : (Extern.ReflectliteType.typeOf #[.iface 151 v]).run Tryz.prog w = .ok (.iface 117 (.agg #[.pointer (some ⟨8, 151, none⟩)])) w := by kernel_rfl
def comparableEntry : Array Value → Sem Value := Extern.ReflectliteType.method fun t => do Extern.Rtype.noPackHeld "Comparable" t; pure (.bool (← typeInfo t).comparable)
theorem isComparable (w : World) : (comparableEntry #[.agg #[.pointer (some ⟨8, 151, none⟩)]]).run Tryz.prog w = .ok (.bool true) w := by kernel_rfl
theorem isMethodComparable (v : Value) (w : World) : (Go.method 288 117 v "Comparable").run Tryz.prog w = .ok (125, v) w := by kernel_rfl
theorem isComp : (Tryz.prog.info? 151).map (·.comparable) = some true := by kernel_rfl
theorem isSize : (Tryz.prog.info? 176).map (·.size) = some 1 := by kernel_rfl
theorem noIsE (v : Value) (xT : TypeId) (w : World) : (Instr.typeAssert (.iface 151 v) xT 119 true).run Tryz.prog w = .ok (.tuple #[.nilIface, .bool false]) w := run_typeAssert_lacksB Tryz.underlying119 (by kernel_rfl) (by kernel_rfl) v xT w
theorem noUnwrapE (v : Value) (xT : TypeId) (w : World) : (Instr.typeAssert (.iface 151 v) xT 122 true).run Tryz.prog w = .ok (.tuple #[.nilIface, .bool false]) w := run_typeAssert_lacksB Tryz.underlying122 (by kernel_rfl) (by kernel_rfl) v xT w
theorem noUnwrapsE (v : Value) (xT : TypeId) (w : World) : (Instr.typeAssert (.iface 151 v) xT 124 true).run Tryz.prog w = .ok (.tuple #[.nilIface, .bool false]) w := run_typeAssert_lacksB Tryz.underlying124 (by kernel_rfl) (by kernel_rfl) v xT w
set_option maxRecDepth 100000 in
theorem sis_chain (sa : Nat → Addr) (w : World) (hs : Sents w sa) (k : Nat) (hk : k < 8) (m : Nat) (hm : m < 8) :
    Calls Tryz.prog 55 #[.iface 151 (.pointer (some (sa m))), .iface 151 (.pointer (some (sa k))), .bool true] w fun r w' => r = .returned (.bool (m == k)) ∧ w = w' := by
  obtain ⟨i, hi, hcmp⟩ := Option.map_eq_some_iff.1 isComp
  obtain ⟨j, hj, hjs⟩ := Option.map_eq_some_iff.1 isSize
  have nE := noIsE
  have uE := noUnwrapE
  have vE := noUnwrapsE
  have HS := Lib.hid hs
  clear hs
  go_enter Tryz.func55, Tryz.ntmps55
  go_wp2
  go_loopg [0] 1 (fun n v wr => v = .iface 151 (.pointer (some (sa m))) ∧ 0 < n ∧ w = wr)
  case atStart => exact ⟨rfl, Nat.lt_succ_self _, rfl⟩
  case round =>
    obtain ⟨rfl, hlen, rfl⟩ := hrel
    by_cases hmk : m = k
    · subst hmk
      have heq := run_eql_iface_ptr_same (P := Tryz.prog) w (sa m) Tryz.underlying33 Tryz.underlying151 hi hcmp hj
      go_wp2
      go_ret
      exact ⟨ret_eq (by simp), rfl⟩
    · obtain ⟨c1, t1, hr1⟩ := HS.out.row m hm
      obtain ⟨c2, t2, hr2⟩ := HS.out.row k hk
      have heq := run_eql_iface_ptr_other (P := Tryz.prog) w Tryz.underlying33 Tryz.underlying151 hi hcmp hj (by rw [hjs]; decide) (HS.out.ne m k hm hk hmk) hr1 hr2
      have hf := Lib.hid (show (m == k) = false by simp; exact hmk)
      clear hr1 hr2 hmk
      go_wp2
      go_ret
      exact ⟨ret_eq (by rw [hf.out]; rfl), rfl⟩
set_option maxRecDepth 100000 in
theorem sis_any (sa : Nat → Addr) (w : World) (hs : Sents w sa) (k : Nat) (hk : k < 8) (m : Nat) (hm : m < 8) :
    Calls Tryz.prog 30 #[.iface 151 (.pointer (some (sa m))), .iface 151 (.pointer (some (sa k)))] w fun r w' => r = .returned (.bool (m == k)) ∧ w = w' := by
  have h24 := @run_callFunc_extern Tryz.prog 54 _ Extern.ReflectliteType.typeOf Tryz.func54 (by kernel_rfl) (by kernel_rfl) (by kernel_rfl) (by kernel_rfl)
  have h56 := @run_callFunc_extern Tryz.prog 125 _ comparableEntry Tryz.func125 (by kernel_rfl) (by kernel_rfl) (by kernel_rfl) (by kernel_rfl)
  have tT := isTypeOf
  have cT := isComparable
  have mR := isMethodComparable
  have HC := Lib.hid (sis_chain sa w hs k hk m hm)
  clear hs
  go_enter Tryz.func30, Tryz.ntmps30
  go_wp2_with (go_at_call 55; refine HC.out.mono ?_; rintro e w' ⟨rfl, rfl⟩)
  go_ret
  exact ⟨rfl, rfl⟩
theorem code_nil (w : World) : Calls Tryz.prog 9 #[.nilIface] w fun r w' => r = .returned (.int .i64 0) ∧ w = w' := by
  go_enter Tryz.func9, Tryz.ntmps9
  go_wp2
  go_ret
  exact ⟨rfl, rfl⟩
set_option maxRecDepth 100000 in
theorem code_sent (sa : Nat → Addr) (w : World) (hs : Sents w sa) (m : Nat) (hm : m < 8) :
    Calls Tryz.prog 9 #[.iface 151 (.pointer (some (sa m)))] w fun r w' => r = .returned (.int .i64 (m + 1)) ∧ w = w' := by
  have h0 := hs.cell 0 (by decide)
  have h1 := hs.cell 1 (by decide)
  have h2 := hs.cell 2 (by decide)
  have h3 := hs.cell 3 (by decide)
  have h4 := hs.cell 4 (by decide)
  have h5 := hs.cell 5 (by decide)
  have h6 := hs.cell 6 (by decide)
  have h7 := hs.cell 7 (by decide)
  simp only [glob] at h0 h1 h2 h3 h4 h5 h6 h7
  have i0 := Lib.hid (fun m hm => sis_any sa w hs 0 (by decide) m hm)
  have i1 := Lib.hid (fun m hm => sis_any sa w hs 1 (by decide) m hm)
  have i2 := Lib.hid (fun m hm => sis_any sa w hs 2 (by decide) m hm)
  have i3 := Lib.hid (fun m hm => sis_any sa w hs 3 (by decide) m hm)
  have i4 := Lib.hid (fun m hm => sis_any sa w hs 4 (by decide) m hm)
  have i5 := Lib.hid (fun m hm => sis_any sa w hs 5 (by decide) m hm)
  have i6 := Lib.hid (fun m hm => sis_any sa w hs 6 (by decide) m hm)
  have i7 := Lib.hid (fun m hm => sis_any sa w hs 7 (by decide) m hm)
  clear hs
  have hcc : m = 0 ∨ m = 1 ∨ m = 2 ∨ m = 3 ∨ m = 4 ∨ m = 5 ∨ m = 6 ∨ m = 7 := by omega
  clear hm
  rcases hcc with rfl | rfl | rfl | rfl | rfl | rfl | rfl | rfl
  all_goals
    go_enter Tryz.func9, Tryz.ntmps9
    go_wp2_with (first
      | (go_at_call_of 30 (Value.iface 151 (.pointer (some (sa 0)))); refine (i0.out _ (by decide)).mono ?_; rintro e w' ⟨rfl, rfl⟩)
      | (go_at_call_of 30 (Value.iface 151 (.pointer (some (sa 1)))); refine (i1.out _ (by decide)).mono ?_; rintro e w' ⟨rfl, rfl⟩)
      | (go_at_call_of 30 (Value.iface 151 (.pointer (some (sa 2)))); refine (i2.out _ (by decide)).mono ?_; rintro e w' ⟨rfl, rfl⟩)
      | (go_at_call_of 30 (Value.iface 151 (.pointer (some (sa 3)))); refine (i3.out _ (by decide)).mono ?_; rintro e w' ⟨rfl, rfl⟩)
      | (go_at_call_of 30 (Value.iface 151 (.pointer (some (sa 4)))); refine (i4.out _ (by decide)).mono ?_; rintro e w' ⟨rfl, rfl⟩)
      | (go_at_call_of 30 (Value.iface 151 (.pointer (some (sa 5)))); refine (i5.out _ (by decide)).mono ?_; rintro e w' ⟨rfl, rfl⟩)
      | (go_at_call_of 30 (Value.iface 151 (.pointer (some (sa 6)))); refine (i6.out _ (by decide)).mono ?_; rintro e w' ⟨rfl, rfl⟩)
      | (go_at_call_of 30 (Value.iface 151 (.pointer (some (sa 7)))); refine (i7.out _ (by decide)).mono ?_; rintro e w' ⟨rfl, rfl⟩))
    go_ret
    exact ⟨rfl, rfl⟩
def sentD (t : List UInt8) : DataW Unit := .iface "*errors.errorString" (.ptr (.agg [.lit (.string t)]))

theorem laidVars_sents {P : Program} {W : World} {ti tp te ts : TypeId} {ms : Array (String × TypeId)} {f : Field}
    (hi : P.underlying ti = some (.interface ms)) (hrow : ∀ u, P.typeName? 3 u = some "*errors.errorString" → u = tp)
    (hp : P.underlying tp = some (.pointer te)) (he : P.underlying te = some (.struct #[f])) (hft : f.type = ts) (hfo : f.offset = 0) (hs : P.underlying ts = some .string) (hc : P.cellsOf te = 1) (hcs : P.cellsOf ts = 1) :
    ∀ (l : List (String × List UInt8 × Nat)) (ps : List MemPlace), (∀ x ∈ l, P.globalNamed x.1 = some x.2.2 ∧ (P.globals[x.2.2]?).map (·.type) = some ti) →
      DataW.LaidVars P W (l.map fun x => (x.1, sentD x.2.1)) ps →
      (∀ b off, MemPlace.cell b off ∈ ps → (∃ c t, W.heap[b]? = some (.cells c t (0, 0))) ∧ ∀ u v, W.cell? ⟨b, off, none⟩ = some (.iface u v) → Value.okWide P W .any 0 u v) → ps.Nodup →
      ∃ ads : List Addr, ads.length = l.length ∧ (∀ k, k < l.length → W.cell? ⟨(l.getD k ("", [], 0)).2.2, 0, none⟩ = some (.iface tp (.pointer (some (ads.getD k default))))) ∧
        (∀ a ∈ ads, MemPlace.cell a.block a.off ∈ ps ∧ ∃ c t, W.heap[a.block]? = some (.cells c t (0, 0))) ∧ ads.Nodup := by
  intro l
  induction l with
  | nil => intro ps _ _ _ _; exact ⟨[], rfl, fun k hk => by simp at hk, fun a ha => by simp at ha, List.nodup_nil⟩
  | cons x l ih =>
    intro ps hgs h hrows hnd
    obtain ⟨n, tx, g⟩ := x
    obtain ⟨g', t', cs, fuel, p, q, hg', ht', hv, hd, hq, rfl⟩ := h
    obtain ⟨hg, ht⟩ := hgs (n, tx, g) (by simp)
    obtain rfl := Option.some.inj (hg.symm.trans hg')
    obtain rfl := Option.some.inj (ht.symm.trans ht')
    obtain ⟨l0⟩ := cs
    have ok0 : ∀ u v, l0 = [.iface u v] → Value.okWide P W .any 0 u v := fun u v e => by
      subst e
      exact (hrows g 0 (by simp [MemPlace.row])).2 u v (by simpa using World.var?_cell hg' hv 0)
    obtain ⟨a0, s0, rfl, hc0, hs0, hz0, rfl⟩ := errorString_of_trod hi hrow hp he hft hfo hs hc hcs hd ok0
    have hin : MemPlace.cell a0.block a0.off ∈ MemPlace.row a0 1 := by simp [MemPlace.row]
    obtain ⟨c0, t0, hb0⟩ := (hrows a0.block a0.off (List.mem_append_left _ (List.mem_append_right _ hin))).1
    obtain ⟨ads, h1, h2, h3, h4⟩ := ih q (fun y hy => hgs y (by simp [hy])) hq (fun b off hm => hrows b off (List.mem_append_right _ hm)) (List.Nodup.sublist (List.sublist_append_right _ _) hnd)
    refine ⟨a0 :: ads, by simp [h1], ?_, ?_, ?_⟩
    · intro k hk
      cases k with
      | zero => simpa using World.var?_cell hg' hv 0
      | succ k => simpa using h2 k (by simpa using hk)
    · intro a ha
      rcases List.mem_cons.1 ha with rfl | ha
      · exact ⟨List.mem_append_left _ (List.mem_append_right _ hin), c0, t0, hb0⟩
      · exact ⟨List.mem_append_right _ (h3 a ha).1, (h3 a ha).2⟩
    · refine List.nodup_cons.2 ⟨fun ha => ?_, h4⟩
      have hm := (h3 a0 ha).1
      have hd2 := (List.nodup_append.1 hnd).2.2
      exact hd2 _ (List.mem_append_right _ hin) _ hm rfl

def sentList : List (String × List UInt8 × Nat) := [("linotype/api.ErrScalar", [115, 99, 97, 108, 97, 114], 1), ("linotype/api.ErrForm", [102, 111, 114, 109], 2), ("linotype/api.ErrRange", [114, 97, 110, 103, 101], 0),
  ("linotype/api.ErrLong", [108, 111, 110, 103], 3), ("linotype/api.ErrKind", [107, 105, 110, 100], 4), ("linotype/api.ErrWord", [119, 111, 114, 100], 5), ("linotype/api.ErrFull", [102, 117, 108, 108], 6), ("linotype/api.ErrNone", [110, 111, 110, 101], 7)]
theorem esRow : ∀ u, Tryz.prog.typeName? 3 u = some "*errors.errorString" → u = 151 := typeName_ptr_named (nm := "errors.errorString") (by kernel_rfl) (by kernel_rfl) (by decide)
theorem sents_of_laid {W : World} (h : laidMet Tryz.prog (sentList.map fun x => (x.1, sentD x.2.1)) W) : ∃ sa, Sents W sa := by
  obtain ⟨ps, hv, hnd, hrows⟩ := h
  obtain ⟨ads, h1, h2, h3, h4⟩ := laidVars_sents Tryz.underlying33 esRow Tryz.underlying151 Tryz.underlying176 rfl rfl Tryz.underlying9 (by kernel_rfl) (by kernel_rfl) sentList ps
    (by intro x hx; simp only [sentList, List.mem_cons, List.not_mem_nil, or_false] at hx; rcases hx with rfl | rfl | rfl | rfl | rfl | rfl | rfl | rfl <;> exact ⟨by kernel_rfl, by kernel_rfl⟩) hv hrows hnd
  have hl : ads.length = 8 := h1
  refine ⟨fun k => ads.getD k default, ⟨?_, ?_, ?_⟩⟩
  · intro k hk
    have := h2 k hk
    rw [show glob k = (sentList.getD k ("", [], 0)).2.2 from by
      match k, hk with
      | 0, _ | 1, _ | 2, _ | 3, _ | 4, _ | 5, _ | 6, _ | 7, _ => rfl]
    exact this
  · intro k hk
    exact (h3 _ (by simp [List.getD, List.getElem?_eq_getElem (show k < ads.length by omega)])).2
  · intro i j hi hj hne he
    refine hne ?_
    have e1 : ads.getD i default = ads[i]'(by omega) := by simp [List.getD, List.getElem?_eq_getElem (show i < ads.length by omega)]
    have e2 : ads.getD j default = ads[j]'(by omega) := by simp [List.getD, List.getElem?_eq_getElem (show j < ads.length by omega)]
    rw [e1, e2] at he
    exact (List.getElem_inj h4).1 he
/-- A row that lists the eight. -/
theorem sents_of_row {W : World} (h : laidMetH Tryz.prog (sentList.map fun x => (x.1, sentD x.2.1)) W) : ∃ sa, Sents W sa := sents_of_laid h
end Go.Proofs.YtgndolgihplngaaGreatDoor
