/- Contracts on api's errors: what a value that is nil, one of the eight, or a fault about such a one answers to errors.Is and to api.Code. -/
import Derived.Test.YteinppjklhomnaaDoorProg
import Derived.Test.YteinppjklhomnaaDoorMg1
import Derived.Handy
import Derived.LaidEql
import Derived.LaidHandle
import Derived.Stop.Asserts
import Derived.Stop.LaidErr
import Derived.RowKitTokens
import Derived.Deep.LoopGhost
import Derived.Deep.RegionWith
namespace Go.Proofs.YteinppjklhomnaaDoor.F
open Go.RowKit Go.Extern.Stop Go.Stop Go.Extern

/-- The number of the package variable that holds the k-th of api's eight. -/
def glob : Nat → Nat
  | 0 => 2 | 1 => 3 | 2 => 0 | 3 => 4
  | 4 => 1 | 5 => 5 | 6 => 6 | _ => 7

/-- Where the eight lie: each variable holds a pointer of its own. -/
structure Sents (w : World) (sa : Nat → Addr) : Prop where
  cell : ∀ k, k < 8 → w.cell? ⟨glob k, 0, none⟩ = some (.iface 194 (.pointer (some (sa k))))
  row : ∀ k, k < 8 → ∃ c t, w.heap[(sa k).block]? = some (.cells c t (0, 0))
  ne : ∀ i j, i < 8 → j < 8 → i ≠ j → sa i ≠ sa j
theorem Sents.below {w w' : World} {sa : Nat → Addr} (h : Sents w sa) (hb : Below w.heap.size w w') : Sents w' sa where
  cell k hk := by
    have := h.cell k hk
    exact (hb.cell (p := ⟨glob k, 0, none⟩) (World.block_lt_of_cell? _ _ this)).trans this
  row k hk := by
    obtain ⟨c, t, hr⟩ := h.row k hk
    exact ⟨c, t, (hb.block _ (Array.getElem?_eq_some_iff.1 hr).1).trans hr⟩
  ne := h.ne

/-- An error that is one of the eight, or a fault about such a one: its places from the outermost on, its number. -/
inductive IsErr (sa : Nat → Addr) (w : World) : Value → List Int → Nat → Prop
  | sent (k : Nat) (hk : k < 8) : IsErr sa w (.iface 194 (.pointer (some (sa k)))) [] (k + 1)
  | fault (b off : Nat) (at_ : Int) (e : Value) (ps : List Int) (c : Nat) (h0 : w.cell? ⟨b, off, none⟩ = some (.int .i64 at_)) (h1 : w.cell? ⟨b, off + 1, none⟩ = some e)
      (h : IsErr sa w e ps c) : IsErr sa w (.iface 143 (.pointer (some ⟨b, off, none⟩))) (at_ :: ps) c
theorem IsErr.keep {sa : Nat → Addr} {w w' : World} {e : Value} {ps : List Int} {c : Nat} (h : IsErr sa w e ps c) (hb : Below w.heap.size w w') : IsErr sa w' e ps c := by
  induction h with
  | sent k hk => exact .sent k hk
  | fault b off at_ e ps c h0 h1 _ ih => exact .fault b off at_ e ps c ((hb.cell (p := ⟨b, off, none⟩) (World.block_lt_of_cell? _ _ h0)).trans h0) ((hb.cell (p := ⟨b, off + 1, none⟩) (World.block_lt_of_cell? _ _ h1)).trans h1) ih
theorem IsErr.num {sa : Nat → Addr} {w : World} {e : Value} {ps : List Int} {c : Nat} (h : IsErr sa w e ps c) : 1 ≤ c ∧ c ≤ 8 := by
  induction h with
  | sent k hk => omega
  | fault b off at_ e ps c h0 h1 _ ih => exact ih
/-- .. or nil. -/
def ErrV (sa : Nat → Addr) (w : World) (v : Value) (ps : List Int) (c : Nat) : Prop := (v = .nilIface ∧ ps = [] ∧ c = 0) ∨ IsErr sa w v ps c
theorem ErrV.below {sa : Nat → Addr} {w w' : World} {v : Value} {ps : List Int} {c : Nat} (h : ErrV sa w v ps c) (hb : Below w.heap.size w w') : ErrV sa w' v ps c := h.imp id (·.keep hb)

/-! Closed facts: what 'reflectlite.TypeOf(target).Comparable()' gives; what the assertions find. -/
theorem isTypeOf (v : Value) (w : World) : (Extern.ReflectliteType.typeOf #[.iface 194 v]).run Tryd.prog w = .ok (.iface 182 (.agg #[.pointer (some ⟨8, 194, none⟩)])) w := by kernel_rfl
def comparableEntry : Array Value → Sem Value := Extern.ReflectliteType.method fun t => do Extern.Rtype.noPackHeld "Comparable" t; pure (.bool (← typeInfo t).comparable)
theorem isComparable (w : World) : (comparableEntry #[.agg #[.pointer (some ⟨8, 194, none⟩)]]).run Tryd.prog w = .ok (.bool true) w := by kernel_rfl
theorem isMethodComparable (v : Value) (w : World) : (Go.method 331 182 v "Comparable").run Tryd.prog w = .ok (179, v) w := by kernel_rfl
theorem isComp : (Tryd.prog.info? 194).map (·.comparable) = some true := by kernel_rfl
theorem isSize : (Tryd.prog.info? 219).map (·.size) = some 1 := by kernel_rfl
theorem noIsE (v : Value) (xT : TypeId) (w : World) : (Instr.typeAssert (.iface 194 v) xT 184 true).run Tryd.prog w = .ok (.tuple #[.nilIface, .bool false]) w := run_typeAssert_lacksB Tryd.underlying184 (by kernel_rfl) (by kernel_rfl) v xT w
theorem noUnwrapE (v : Value) (xT : TypeId) (w : World) : (Instr.typeAssert (.iface 194 v) xT 187 true).run Tryd.prog w = .ok (.tuple #[.nilIface, .bool false]) w := run_typeAssert_lacksB Tryd.underlying187 (by kernel_rfl) (by kernel_rfl) v xT w
theorem noUnwrapsE (v : Value) (xT : TypeId) (w : World) : (Instr.typeAssert (.iface 194 v) xT 189 true).run Tryd.prog w = .ok (.tuple #[.nilIface, .bool false]) w := run_typeAssert_lacksB Tryd.underlying189 (by kernel_rfl) (by kernel_rfl) v xT w
theorem noIsF (v : Value) (xT : TypeId) (w : World) : (Instr.typeAssert (.iface 143 v) xT 184 true).run Tryd.prog w = .ok (.tuple #[.nilIface, .bool false]) w := run_typeAssert_lacksB Tryd.underlying184 (by kernel_rfl) (by kernel_rfl) v xT w
theorem hasUnwrapF (v : Value) (xT : TypeId) (w : World) : (Instr.typeAssert (.iface 143 v) xT 187 true).run Tryd.prog w = .ok (.tuple #[.iface 143 v, .bool true]) w := run_typeAssert_hasB Tryd.underlying187 (by kernel_rfl) v xT w
theorem methodUnwrapF (v : Value) (w : World) : (Go.method 331 143 v "Unwrap").run Tryd.prog w = .ok (174, v) w := by kernel_rfl

theorem unwrap_any (b off : Nat) (e : Value) (w : World) (h1 : w.cell? ⟨b, off + 1, none⟩ = some e) :
    Calls Tryd.prog 174 #[.pointer (some ⟨b, off, none⟩)] w fun r w' => r = .returned e ∧ w = w' := by
  go_enter Tryd.func174, Tryd.ntmps174
  go_wp2
  go_ret
  exact ⟨rfl, rfl⟩
/-- An error's dynamic value is never nil. -/
theorem IsErr.iface {sa : Nat → Addr} {w : World} {e : Value} {ps : List Int} {c : Nat} (h : IsErr sa w e ps c) : ∃ T v, e = .iface T v ∧ v.cells.size = 1 := by
  cases h with
  | sent k hk => exact ⟨_, _, rfl, rfl⟩
  | fault b off at_ e ps c h0 h1 h => exact ⟨_, _, rfl, rfl⟩

set_option maxRecDepth 100000 in
theorem is_chain (sa : Nat → Addr) (w : World) (hs : Sents w sa) (k : Nat) (hk : k < 8) (e : Value) (ps : List Int) (c : Nat) (he : IsErr sa w e ps c) :
    Calls Tryd.prog 143 #[e, .iface 194 (.pointer (some (sa k))), .bool true] w fun r w' => r = .returned (.bool (c == k + 1)) ∧ w = w' := by
  obtain ⟨i, hi, hcmp⟩ := Option.map_eq_some_iff.1 isComp
  obtain ⟨j, hj, hjs⟩ := Option.map_eq_some_iff.1 isSize
  have nE := noIsE
  have uE := noUnwrapE
  have vE := noUnwrapsE
  have nF := noIsF
  have uF := hasUnwrapF
  have mF := methodUnwrapF
  have HS := Lib.hid hs
  have HE := Lib.hid he
  clear hs he
  go_enter Tryd.func143, Tryd.ntmps143
  go_wp2
  go_loopg [0] (ps.length + 1) (fun n v wr => ∃ qs, IsErr sa w v qs c ∧ qs.length < n ∧ w = wr)
  case atStart => exact ⟨ps, HE.out, Nat.lt_succ_self _, rfl⟩
  case round =>
    obtain ⟨qs, hq, hlen, rfl⟩ := hrel
    cases hq with
    | sent m hm =>
      by_cases hmk : m = k
      · subst hmk
        have heq := run_eql_iface_ptr_same (P := Tryd.prog) w (sa m) Tryd.underlying50 Tryd.underlying194 hi hcmp hj
        go_wp2
        go_ret
        exact ⟨ret_eq (by simp), rfl⟩
      · obtain ⟨c1, t1, hr1⟩ := HS.out.row m hm
        obtain ⟨c2, t2, hr2⟩ := HS.out.row k hk
        have heq := run_eql_iface_ptr_other (P := Tryd.prog) w Tryd.underlying50 Tryd.underlying194 hi hcmp hj (by rw [hjs]; decide) (HS.out.ne m k hm hk hmk) hr1 hr2
        have hf := Lib.hid (show (m + 1 == k + 1) = false by simp; exact hmk)
        clear hr1 hr2 hmk
        go_wp2
        go_ret
        exact ⟨ret_eq (by rw [hf.out]; rfl), rfl⟩
    | fault b off at_ e' qs' _ h0 h1 h =>
      have hty := run_eql_iface_types (P := Tryd.prog) 143 194 (.pointer (some ⟨b, off, none⟩)) (.pointer (some (sa k))) Tryd.underlying50 (by decide) w
      obtain ⟨T, u, he', _⟩ := h.iface
      have H := Lib.hid h
      have H1 := Lib.hid h1
      have HL := Lib.hid hlen
      clear h h1 h0 hlen
      go_wp2_with (go_at_call 174; refine (unwrap_any b off _ _ H1.out).mono ?_; rintro e w' ⟨rfl, rfl⟩)
      go_roundg (qs'.length + 1)
      case measure => have := HL.out; simp at this; omega
      case rel => exact ⟨qs', by first | exact H.out | (rw [← he']; exact H.out), Nat.lt_succ_self _, rfl⟩

set_option maxRecDepth 100000 in
/-- errors.Is of nil, of one of the eight, of a fault about such a one: is it the one asked for? -/
theorem is_any (sa : Nat → Addr) (w : World) (hs : Sents w sa) (k : Nat) (hk : k < 8) (e : Value) (ps : List Int) (c : Nat) (he : ErrV sa w e ps c) :
    Calls Tryd.prog 107 #[e, .iface 194 (.pointer (some (sa k)))] w fun r w' => r = .returned (.bool (c == k + 1)) ∧ w = w' := by
  rcases he with ⟨rfl, rfl, rfl⟩ | he
  · have hn := run_eql_iface_nil_left (P := Tryd.prog) w 194 (.pointer (some (sa k))) Tryd.underlying50
    have hf := Lib.hid (show ((0 : Nat) == k + 1) = false by simp)
    go_enter Tryd.func107, Tryd.ntmps107
    go_wp2
    go_ret
    exact ⟨ret_eq (by rw [hf.out]; rfl), rfl⟩
  · have h24 := @run_callFunc_extern Tryd.prog 142 _ Extern.ReflectliteType.typeOf Tryd.func142 (by kernel_rfl) (by kernel_rfl) (by kernel_rfl) (by kernel_rfl)
    have h56 := @run_callFunc_extern Tryd.prog 179 _ comparableEntry Tryd.func179 (by kernel_rfl) (by kernel_rfl) (by kernel_rfl) (by kernel_rfl)
    have tT := isTypeOf
    have cT := isComparable
    have mR := isMethodComparable
    have HC := Lib.hid (is_chain sa w hs k hk e ps c he)
    obtain ⟨T, u, he', _⟩ := he.iface
    clear he hs
    subst he'
    go_enter Tryd.func107, Tryd.ntmps107
    go_wp2_with (go_at_call 143; refine HC.out.mono ?_; rintro e w' ⟨rfl, rfl⟩)
    go_ret
    exact ⟨rfl, rfl⟩

set_option maxRecDepth 100000 in
theorem code_any (sa : Nat → Addr) (w : World) (hs : Sents w sa) (e : Value) (ps : List Int) (c : Nat) (he : ErrV sa w e ps c) :
    Calls Tryd.prog 72 #[e] w fun r w' => r = .returned (.int .i64 c) ∧ w = w' := by
  rcases he with ⟨rfl, rfl, rfl⟩ | he
  · go_enter Tryd.func72, Tryd.ntmps72
    go_wp2
    go_ret
    exact ⟨rfl, rfl⟩
  · have h0 := hs.cell 0 (by decide)
    have h1 := hs.cell 1 (by decide)
    have h2 := hs.cell 2 (by decide)
    have h3 := hs.cell 3 (by decide)
    have h4 := hs.cell 4 (by decide)
    have h5 := hs.cell 5 (by decide)
    have h6 := hs.cell 6 (by decide)
    have h7 := hs.cell 7 (by decide)
    simp only [glob] at h0 h1 h2 h3 h4 h5 h6 h7
    have hc := he.num
    have i0 := Lib.hid (is_any sa w hs 0 (by decide) e ps c (.inr he))
    have i1 := Lib.hid (is_any sa w hs 1 (by decide) e ps c (.inr he))
    have i2 := Lib.hid (is_any sa w hs 2 (by decide) e ps c (.inr he))
    have i3 := Lib.hid (is_any sa w hs 3 (by decide) e ps c (.inr he))
    have i4 := Lib.hid (is_any sa w hs 4 (by decide) e ps c (.inr he))
    have i5 := Lib.hid (is_any sa w hs 5 (by decide) e ps c (.inr he))
    have i6 := Lib.hid (is_any sa w hs 6 (by decide) e ps c (.inr he))
    have i7 := Lib.hid (is_any sa w hs 7 (by decide) e ps c (.inr he))
    obtain ⟨T, u, he', _⟩ := he.iface
    clear he hs
    subst he'
    have hcc : c = 1 ∨ c = 2 ∨ c = 3 ∨ c = 4 ∨ c = 5 ∨ c = 6 ∨ c = 7 ∨ c = 8 := by omega
    clear hc
    rcases hcc with rfl | rfl | rfl | rfl | rfl | rfl | rfl | rfl
    all_goals
      go_enter Tryd.func72, Tryd.ntmps72
      go_wp2_with (first
        | (go_at_call_of 107 (Value.iface 194 (.pointer (some (sa 0)))); refine i0.out.mono ?_; rintro e w' ⟨rfl, rfl⟩)
        | (go_at_call_of 107 (Value.iface 194 (.pointer (some (sa 1)))); refine i1.out.mono ?_; rintro e w' ⟨rfl, rfl⟩)
        | (go_at_call_of 107 (Value.iface 194 (.pointer (some (sa 2)))); refine i2.out.mono ?_; rintro e w' ⟨rfl, rfl⟩)
        | (go_at_call_of 107 (Value.iface 194 (.pointer (some (sa 3)))); refine i3.out.mono ?_; rintro e w' ⟨rfl, rfl⟩)
        | (go_at_call_of 107 (Value.iface 194 (.pointer (some (sa 4)))); refine i4.out.mono ?_; rintro e w' ⟨rfl, rfl⟩)
        | (go_at_call_of 107 (Value.iface 194 (.pointer (some (sa 5)))); refine i5.out.mono ?_; rintro e w' ⟨rfl, rfl⟩)
        | (go_at_call_of 107 (Value.iface 194 (.pointer (some (sa 6)))); refine i6.out.mono ?_; rintro e w' ⟨rfl, rfl⟩)
        | (go_at_call_of 107 (Value.iface 194 (.pointer (some (sa 7)))); refine i7.out.mono ?_; rintro e w' ⟨rfl, rfl⟩))
      go_ret
      exact ⟨rfl, rfl⟩

theorem wrong_any (w : World) (at_ : Int) (T : TypeId) (u : Value) :
    Calls Tryd.prog 60 #[.int .i64 at_, .iface T u] w fun r w' => r = .returned (.iface 143 (.pointer (some ⟨w.heap.size, 0, none⟩))) ∧ w.alloc (.cells #[.int .i64 at_, .iface T u] 145) = w' := by
  go_enter Tryd.func60, Tryd.ntmps60
  go_wp2
  go_ret
  exact ⟨rfl, rfl⟩
end Go.Proofs.YteinppjklhomnaaDoor.F
