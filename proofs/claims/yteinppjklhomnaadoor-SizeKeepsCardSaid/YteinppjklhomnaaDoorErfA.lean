/- errors.As at a target of type **api.Fault, and api.At, api.Within: by Go's own text of errors.As, walked (after the worked toy 'toyas'). -/
import Derived.Test.YteinppjklhomnaaDoorErfC
namespace Go.Proofs.YteinppjklhomnaaDoor.F
open Go.RowKit Go.Extern.Stop Go.Stop Go.Extern

def eValueOf : Array Value → Sem Value := fun args => ReflectliteValue.unpack (args.getD 0 (.tuple #[]))
def eType : Array Value → Sem Value := ReflectliteValue.methodAny (ReflectliteValue.valueError "reflectlite.Value.Type" 0) (fun t _ _ _ => ReflectliteType.toType t)
def eIsNil : Array Value → Sem Value := ReflectliteValue.method (ReflectliteValue.valueError "reflectlite.Value.IsNil" 0) ReflectliteValue.isNil
def eKind : Array Value → Sem Value := ReflectliteType.abiMethod fun t => do pure (.int .u8 (← Rtype.kind t))
def eElem : Array Value → Sem Value := ReflectliteType.method ReflectliteType.elem
def eImplements : Array Value → Sem Value := ReflectliteType.relation "Implements" ReflectliteType.implements_
def eAssignable : Array Value → Sem Value := ReflectliteType.relation "AssignableTo" ReflectliteType.assignableTo
def eVElem : Array Value → Sem Value := ReflectliteValue.method (ReflectliteValue.valueError "reflectlite.Value.Elem" 0) ReflectliteValue.elem
def eVSet : Array Value → Sem Value := ReflectliteValue.set

theorem methodKind (h : Value) (w : World) : (Go.method 331 182 (.agg #[h]) "Kind").run Tryd.prog w = .ok (176, h) w := by kernel_rfl
theorem kindP (w : World) : (eKind #[.pointer (some ⟨8, 143, none⟩)]).run Tryd.prog w = .ok (.int .u8 22) w := by kernel_rfl
theorem rlm (z : Sem Value) (f : TypeId → Addr → Nat → Nat → Sem Value) (v : Value) :
    ReflectliteValue.method z f #[v] = (do match ← ReflectliteValue.parts v with | none => z | some (t, a, fl) => f t a fl (fl % 32)) := rfl
theorem methodElem (h : Value) (w : World) : (Go.method 331 182 (.agg #[h]) "Elem").run Tryd.prog w = .ok (180, .agg #[h]) w := by kernel_rfl
theorem methodImplements (h : Value) (w : World) : (Go.method 331 182 (.agg #[h]) "Implements").run Tryd.prog w = .ok (181, .agg #[h]) w := by kernel_rfl
theorem methodAssignableTo (h : Value) (w : World) : (Go.method 331 182 (.agg #[h]) "AssignableTo").run Tryd.prog w = .ok (178, .agg #[h]) w := by kernel_rfl
theorem implementsP (w : World) : (eImplements #[.agg #[.pointer (some ⟨8, 143, none⟩)], .iface 182 (.agg #[.pointer (some ⟨8, 50, none⟩)])]).run Tryd.prog w = .ok (.bool true) w := by kernel_rfl
theorem typeOfP (v : Value) (w : World) : (ReflectliteType.typeOf #[.iface 143 v]).run Tryd.prog w = .ok (.iface 182 (.agg #[.pointer (some ⟨8, 143, none⟩)])) w := by kernel_rfl
theorem assignableP (w : World) : (eAssignable #[.agg #[.pointer (some ⟨8, 143, none⟩)], .iface 182 (.agg #[.pointer (some ⟨8, 143, none⟩)])]).run Tryd.prog w = .ok (.bool true) w := by kernel_rfl
theorem assignableE (w : World) : (eAssignable #[.agg #[.pointer (some ⟨8, 194, none⟩)], .iface 182 (.agg #[.pointer (some ⟨8, 143, none⟩)])]).run Tryd.prog w = .ok (.bool false) w := by kernel_rfl
theorem valueOfP (e : Addr) (w : World) : (eValueOf #[.iface 143 (.pointer (some e))]).run Tryd.prog w
    = .ok (.agg #[.pointer (some ⟨8, 143, none⟩), .pointer (some ⟨w.heap.size, 0, none⟩), .int .u64 150]) (w.alloc (.cells #[.pointer (some e)] 143)) := by kernel_rfl
theorem mkP (p : Addr) (w : World) : (ReflectliteValue.mk 143 p ReflectliteValue.flagAddr).run Tryd.prog w = .ok (.agg #[.pointer (some ⟨8, 143, none⟩), .pointer (some p), .int .u64 406]) w := by kernel_rfl
theorem rls (v x : Value) : ReflectliteValue.set #[v, x] = (do
    let (some (dst, a, fl), some (src, b, _)) := (← ReflectliteValue.parts v, ← ReflectliteValue.parts x)
      | unsupported (.noEntry "extern/(internal/reflectlite.Value).Set.zeroValue")
    if fl / ReflectliteValue.flagAddr % 2 == 0 then unsupported (.noEntry "extern/(internal/reflectlite.Value).Set.unaddressable")
    let val ← loadVar src b
    if ← Rtype.directlyAssignable dst src then storeVar dst a val
    else if ← Rtype.implements dst src then
      if (← Rtype.kind src) == 20 then
        match val with
        | .nilIface => unsupported (.noEntry "extern/reflectlite: a nil value of one interface type handed on as a value of another")
        | _ => storeVar dst a val
      else storeVar dst a (.iface src val)
    else panicString ("reflectlite.Set: value of type " ++ (← Rtype.spelt src) ++ " is not assignable to type " ++ (← Rtype.spelt dst))
    pure (.tuple #[])) := rfl
theorem partsPa (a : Addr) (w : World) : (ReflectliteValue.parts (.agg #[.pointer (some ⟨8, 143, none⟩), .pointer (some a), .int .u64 406])).run Tryd.prog w = .ok (some (143, a, 406)) w := by kernel_rfl
theorem partsP (a : Addr) (w : World) : (ReflectliteValue.parts (.agg #[.pointer (some ⟨8, 143, none⟩), .pointer (some a), .int .u64 150])).run Tryd.prog w = .ok (some (143, a, 150)) w := by kernel_rfl
theorem directP (w : World) : (Rtype.directlyAssignable 143 143).run Tryd.prog w = .ok true w := by kernel_rfl
theorem setP (ta b e : Addr) (old : Value) (W : World) (hb : W.cell? b = some (.pointer (some e))) (ht : W.cell? ta = some old) (hf : W.frozen? ta = false) :
    (eVSet #[.agg #[.pointer (some ⟨8, 143, none⟩), .pointer (some ta), .int .u64 406], .agg #[.pointer (some ⟨8, 143, none⟩), .pointer (some b), .int .u64 150]]).run Tryd.prog W
      = .ok (.tuple #[]) (W.setCell ta (.pointer (some e))) := by
  unfold eVSet
  rw [rls]
  simp only [Sem.run_bind, partsPa, partsP, Result.andThen]
  simp [ReflectliteValue.flagAddr, loadVar, isAgg, underlying, Tryd.underlying143, hb, Result.andThen, directP, storeVar, Value.cells, storeCells, Addr.add]
  rw [run_store Tryd.prog W ta _ _ (by rfl)]
  simp [ht, hf]
end Go.Proofs.YteinppjklhomnaaDoor.F
