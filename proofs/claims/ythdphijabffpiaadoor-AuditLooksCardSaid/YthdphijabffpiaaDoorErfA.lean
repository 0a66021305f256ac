import Derived.Test.YthdphijabffpiaaDoorZ0
import Derived.Test.YthdphijabffpiaaDoorErfC
set_option maxRecDepth 100000
set_option linter.unusedVariables false
set_option linter.unusedSimpArgs false
set_option maxHeartbeats 4000000
namespace Go.Proofs.YthdphijabffpiaaDoor.F
open Go.RowKit Go.Extern.Stop Go.Stop Go.Extern
def bP:Array Value->Sem Value:=fun args=>ReflectliteValue.unpack (args.getD 0 (.tuple #[]))
def ew : Array Value → Sem Value := ReflectliteValue.methodAny (ReflectliteValue.valueError "reflectlite.Value.Type" 0) (fun t _ _ _ => ReflectliteType.toType t)
def cS : Array Value → Sem Value := ReflectliteValue.method (ReflectliteValue.valueError "reflectlite.Value.IsNil" 0) ReflectliteValue.isNil
def dE:Array Value->Sem Value:=ReflectliteType.abiMethod fun t=>do pure (.int .u8 (<-Rtype.kind t))
def ey:Array Value->Sem Value:=ReflectliteType.method ReflectliteType.elem
def bu : Array Value → Sem Value := ReflectliteType.relation "Implements" ReflectliteType.implements_
def a7 : Array Value → Sem Value := ReflectliteType.relation "AssignableTo" ReflectliteType.assignableTo
def cU : Array Value → Sem Value := ReflectliteValue.method (ReflectliteValue.valueError "reflectlite.Value.Elem" 0) ReflectliteValue.elem
def dF:Array Value->Sem Value:=ReflectliteValue.set
theorem cL(t:Addr)(w:World):(bP #[.iface 92 (.pointer (some t))]).run Tryd.prog w
 = .ok (.agg #[.pointer (some ⟨9,92,none⟩),.pointer (some ⟨w.heap.size,0,none⟩),.int .u64 150]) (w.alloc (.cells #[.pointer (some t)] 92)):=by kernel_rfl
theorem ez(a:Addr)(w:World):(ew #[.agg #[.pointer (some ⟨9,92,none⟩),.pointer (some a),.int .u64 150]]).run Tryd.prog w=.ok (.iface 148 (.agg #[.pointer (some ⟨9,92,none⟩)])) w:=by kernel_rfl
theorem ct (h : Value) (w : World) : (Go.method 297 148 (.agg #[h]) "Kind").run Tryd.prog w = .ok (120, h) w := by kernel_rfl
theorem eA(w:World):(dE #[.pointer (some ⟨9,92,none⟩)]).run Tryd.prog w=.ok (.int .u8 22) w:=by kernel_rfl
theorem eN(w:World):(dE #[.pointer (some ⟨9,90,none⟩)]).run Tryd.prog w=.ok (.int .u8 22) w:=by kernel_rfl
theorem rlm(z:Sem Value)(f:TypeId->Addr->Nat->Nat->Sem Value)(v:Value) :
 ReflectliteValue.method z f #[v]=(do match <-ReflectliteValue.parts v with | none=>z | some (t,a,fl)=>f t a fl (fl % 32)):=rfl
theorem dG(a:Addr)(w:World):(ReflectliteValue.parts (.agg #[.pointer (some ⟨9,92,none⟩),.pointer (some a),.int .u64 150])).run Tryd.prog w=.ok (some (92,a,150)) w:=by kernel_rfl
theorem dH(a p:Addr)(W:World)(ha:W.cell? a=some (.pointer (some p))):(cS #[.agg #[.pointer (some ⟨9,92,none⟩),.pointer (some a),.int .u64 150]]).run Tryd.prog W=.ok (.bool false) W:=by
 unfold cS;rw [rlm];simp only [Sem.run_bind,dG,Result.andThen]
 simp [ReflectliteValue.isNil,loadVar,isAgg,underlying,Tryd.underlying92,ha,Result.andThen]
theorem cu (h : Value) (w : World) : (Go.method 297 148 (.agg #[h]) "Elem").run Tryd.prog w = .ok (131, .agg #[h]) w := by kernel_rfl
theorem bc (h : Value) (w : World) : (Go.method 297 148 (.agg #[h]) "Implements").run Tryd.prog w = .ok (132, .agg #[h]) w := by kernel_rfl
theorem a4 (h : Value) (w : World) : (Go.method 297 148 (.agg #[h]) "AssignableTo").run Tryd.prog w = .ok (129, .agg #[h]) w := by kernel_rfl
theorem eB(w:World):(ey #[.agg #[.pointer (some ⟨9,92,none⟩)]]).run Tryd.prog w=.ok (.iface 148 (.agg #[.pointer (some ⟨9,90,none⟩)])) w:=by kernel_rfl
theorem bZ(w:World):(bu #[.agg #[.pointer (some ⟨9,90,none⟩)],.iface 148 (.agg #[.pointer (some ⟨9,36,none⟩)])]).run Tryd.prog w=.ok (.bool true) w:=by kernel_rfl
theorem dI(v:Value)(w:World):(ReflectliteType.typeOf #[.iface 90 v]).run Tryd.prog w=.ok (.iface 148 (.agg #[.pointer (some ⟨9,90,none⟩)])) w:=by kernel_rfl
theorem b6(w:World):(a7 #[.agg #[.pointer (some ⟨9,90,none⟩)],.iface 148 (.agg #[.pointer (some ⟨9,90,none⟩)])]).run Tryd.prog w=.ok (.bool true) w:=by kernel_rfl
theorem b8(w:World):(a7 #[.agg #[.pointer (some ⟨9,163,none⟩)],.iface 148 (.agg #[.pointer (some ⟨9,90,none⟩)])]).run Tryd.prog w=.ok (.bool false) w:=by kernel_rfl
theorem dd(e:Addr)(w:World):(bP #[.iface 90 (.pointer (some e))]).run Tryd.prog w
 = .ok (.agg #[.pointer (some ⟨9,90,none⟩),.pointer (some ⟨w.heap.size,0,none⟩),.int .u64 150]) (w.alloc (.cells #[.pointer (some e)] 90)):=by kernel_rfl
theorem eC(w:World):(Rtype.elem? 92).run Tryd.prog w=.ok (some 90) w:=by kernel_rfl
theorem mkP(p:Addr)(w:World):(ReflectliteValue.mk 90 p ReflectliteValue.flagAddr).run Tryd.prog w=.ok (.agg #[.pointer (some ⟨9,90,none⟩),.pointer (some p),.int .u64 406]) w:=by kernel_rfl
theorem dJ(a p:Addr)(W:World)(ha:W.cell? a=some (.pointer (some p))):(cU #[.agg #[.pointer (some ⟨9,92,none⟩),.pointer (some a),.int .u64 150]]).run Tryd.prog W=.ok (.agg #[.pointer (some ⟨9,90,none⟩),.pointer (some p),.int .u64 406]) W:=by
 unfold cU;rw [rlm];simp only [Sem.run_bind,dG,Result.andThen]
 simp [ReflectliteValue.elem,loadVar,isAgg,underlying,Tryd.underlying92,ha,Result.andThen,eC,mkP]
theorem rls(v x:Value):ReflectliteValue.set #[v,x]=(do
 let (some (dst,a,fl),some (src,b,_)):=(<-ReflectliteValue.parts v,<-ReflectliteValue.parts x)
  |unsupported (.noEntry "extern/(internal/reflectlite.Value).Set.zeroValue")
 if fl / ReflectliteValue.flagAddr % 2 == 0 then unsupported (.noEntry "extern/(internal/reflectlite.Value).Set.unaddressable")
 let val <-loadVar src b
 if <-Rtype.directlyAssignable dst src then storeVar dst a val
 else if <-Rtype.implements dst src then
  if (<-Rtype.kind src) == 20 then
   match val with
   | .nilIface => unsupported (.noEntry "extern/reflectlite: a nil value of one interface type handed on as a value of another")
   | _=>storeVar dst a val
  else storeVar dst a (.iface src val)
 else panicString ("reflectlite.Set: value of type " ++ (← Rtype.spelt src) ++ " is not assignable to type " ++ (← Rtype.spelt dst))
 pure (.tuple #[])):=rfl
theorem eI(a:Addr)(w:World):(ReflectliteValue.parts (.agg #[.pointer (some ⟨9,90,none⟩),.pointer (some a),.int .u64 406])).run Tryd.prog w=.ok (some (90,a,406)) w:=by kernel_rfl
theorem eR(a:Addr)(w:World):(ReflectliteValue.parts (.agg #[.pointer (some ⟨9,90,none⟩),.pointer (some a),.int .u64 150])).run Tryd.prog w=.ok (some (90,a,150)) w:=by kernel_rfl
theorem eJ(w:World):(Rtype.directlyAssignable 90 90).run Tryd.prog w=.ok true w:=by kernel_rfl
theorem e6(ta b e:Addr)(old:Value)(W:World)(hb:W.cell? b=some (.pointer (some e)))(ht:W.cell? ta=some old)(hf:W.frozen? ta=false) :
  (dF #[.agg #[.pointer (some ⟨9,90,none⟩),.pointer (some ta),.int .u64 406],.agg #[.pointer (some ⟨9,90,none⟩),.pointer (some b),.int .u64 150]]).run Tryd.prog W
   = .ok (.tuple #[]) (W.setCell ta (.pointer (some e))):=by
 unfold dF;rw [rls];simp only [Sem.run_bind,eI,eR,Result.andThen]
 simp [ReflectliteValue.flagAddr,loadVar,isAgg,underlying,Tryd.underlying90,hb,Result.andThen,eJ,storeVar,Value.cells,storeCells,Addr.add]
 rw [run_store Tryd.prog W ta _ _ (by rfl)]
 simp [ht,hf]
theorem eV(v:Value)(xT:TypeId)(w:World):(Instr.typeAssert (.iface 163 v) xT 152 true).run Tryd.prog w=.ok (.tuple #[.nilIface,.bool false]) w:=run_typeAssert_lacksB Tryd.underlying152 (by kernel_rfl) (by kernel_rfl) v xT w
def Handle(w:World):Prop:=w.cell? ⟨8,0,none⟩=some (.iface 148 (.agg #[.pointer (some ⟨9,36,none⟩)]))
theorem eD(e t:Addr)(old:Value)(w:World)(hg:Handle w)(fT:w.cell? t=some old)(hf0:w.frozen? t=false) :
  Calls Tryd.prog 52 #[.iface 90 (.pointer (some e)),.iface 92 (.pointer (some t))] w fun ev w'=>ev=.returned (.bool true)/\((((w.alloc (.cells #[.pointer (some t)] 92)).alloc (.cells #[.pointer (some ⟨9,92,none⟩),.pointer (some ⟨w.heap.size,0,none⟩),.int .u64 150] 130)).alloc (.cells #[.pointer (some ⟨9,92,none⟩),.pointer (some ⟨w.heap.size,0,none⟩),.int .u64 150] 130)).alloc (.cells #[.pointer (some e)] 90)).setCell t (.pointer (some e))=w':=by
 unfold Handle at hg;have h6:=@run_callFunc_extern Tryd.prog 84 _ bP Tryd.func84 (by kernel_rfl) (by kernel_rfl) (by kernel_rfl) (by kernel_rfl);have h7:=@run_callFunc_extern Tryd.prog 85 _ ew Tryd.func85 (by kernel_rfl) (by kernel_rfl) (by kernel_rfl) (by kernel_rfl);have h8:=@run_callFunc_extern Tryd.prog 86 _ cS Tryd.func86 (by kernel_rfl) (by kernel_rfl) (by kernel_rfl) (by kernel_rfl);have h27:=@run_callFunc_extern Tryd.prog 120 _ dE Tryd.func120 (by kernel_rfl) (by kernel_rfl) (by kernel_rfl) (by kernel_rfl);have h37:=@run_callFunc_extern Tryd.prog 131 _ ey Tryd.func131 (by kernel_rfl) (by kernel_rfl) (by kernel_rfl) (by kernel_rfl);have h38:=@run_callFunc_extern Tryd.prog 132 _ bu Tryd.func132 (by kernel_rfl) (by kernel_rfl) (by kernel_rfl) (by kernel_rfl);have h10:=@run_callFunc_extern Tryd.prog 88 _ ReflectliteType.typeOf Tryd.func88 (by kernel_rfl) (by kernel_rfl) (by kernel_rfl) (by kernel_rfl);have h35:=@run_callFunc_extern Tryd.prog 129 _ a7 Tryd.func129 (by kernel_rfl) (by kernel_rfl) (by kernel_rfl) (by kernel_rfl);have h11:=@run_callFunc_extern Tryd.prog 99 _ cU Tryd.func99 (by kernel_rfl) (by kernel_rfl) (by kernel_rfl) (by kernel_rfl);have gE:=@run_callFunc_extern Tryd.prog 100 _ dF Tryd.func100 (by kernel_rfl) (by kernel_rfl) (by kernel_rfl) (by kernel_rfl);have tO:=dI;have tE:=isTypeOf;have mA:=a4;have aP:=b6;have aE:=b8;have vP:=dd;have f6:=cL;have f7:=ez;have mK:=ct;have mE:=cu;have mI:=bc;have kPP:=eA;have kP:=eN;have ePP:=eB;have iP:=bZ;have n8:=dH ⟨w.heap.size,0,none⟩ t ((w.alloc (.cells #[.pointer (some t)] 92)).alloc (.cells #[.pointer (some ⟨9,92,none⟩),.pointer (some ⟨w.heap.size,0,none⟩),.int .u64 150] 130)) (by simp);have hlt:8<w.heap.size:=World.block_lt_of_cell? w ⟨8,0,none⟩ hg;have hg2:((w.alloc (.cells #[.pointer (some t)] 92)).alloc (.cells #[.pointer (some ⟨9,92,none⟩),.pointer (some ⟨w.heap.size,0,none⟩),.int .u64 150] 130)).cell? ⟨8,0,none⟩=some (.iface 148 (.agg #[.pointer (some ⟨9,36,none⟩)])):=by
  rw [World.cell?_alloc_lt _ _ ⟨8,0,none⟩ (by simp;omega),World.cell?_alloc_lt _ _ ⟨8,0,none⟩ hlt];exact hg
 have jE:t.block<w.heap.size:=World.block_lt_of_cell? w t fT;have el:=dJ ⟨w.heap.size,0,none⟩ t (((w.alloc (.cells #[.pointer (some t)] 92)).alloc (.cells #[.pointer (some ⟨9,92,none⟩),.pointer (some ⟨w.heap.size,0,none⟩),.int .u64 150] 130)).alloc (.cells #[.pointer (some ⟨9,92,none⟩),.pointer (some ⟨w.heap.size,0,none⟩),.int .u64 150] 130)) (by rw [World.cell?_alloc_lt _ _ ⟨w.heap.size,0,none⟩ (by simp;omega)];simp);have st:=e6 t ⟨w.heap.size+1+1+1,0,none⟩ e old ((((w.alloc (.cells #[.pointer (some t)] 92)).alloc (.cells #[.pointer (some ⟨9,92,none⟩),.pointer (some ⟨w.heap.size,0,none⟩),.int .u64 150] 130)).alloc (.cells #[.pointer (some ⟨9,92,none⟩),.pointer (some ⟨w.heap.size,0,none⟩),.int .u64 150] 130)).alloc (.cells #[.pointer (some e)] 90))
  (by rw [World.cell?_alloc_at _ _ _ _ (by simp)];rfl)
  (by rw [World.cell?_alloc_lt _ _ t (by simp;omega),World.cell?_alloc_lt _ _ t (by simp;omega),World.cell?_alloc_lt _ _ t (by simp;omega),World.cell?_alloc_lt _ _ t jE];exact fT)
  (by rw [World.frozen?_alloc_old _ _ t (by simp;omega),World.frozen?_alloc_old _ _ t (by simp;omega),World.frozen?_alloc_old _ _ t (by simp;omega),World.frozen?_alloc_old _ _ t (Nat.ne_of_lt jE)];exact hf0)
 go_enter Tryd.func52,Tryd.ntmps52
 go_wp2;refine wp_loop_rounds 1 ?_;rw [rounds_succ];go_wp2;go_ret;exact ⟨rfl,rfl⟩
theorem dK(a t:Addr)(w:World)(hg:Handle w) :
  Calls Tryd.prog 52 #[.iface 163 (.pointer (some a)),.iface 92 (.pointer (some t))] w fun ev w'=>ev=.returned (.bool false)/\(((w.alloc (.cells #[.pointer (some t)] 92)).alloc (.cells #[.pointer (some ⟨9,92,none⟩),.pointer (some ⟨w.heap.size,0,none⟩),.int .u64 150] 130)).alloc (.cells #[.pointer (some ⟨9,92,none⟩),.pointer (some ⟨w.heap.size,0,none⟩),.int .u64 150] 130))=w':=by
 unfold Handle at hg;have h6:=@run_callFunc_extern Tryd.prog 84 _ bP Tryd.func84 (by kernel_rfl) (by kernel_rfl) (by kernel_rfl) (by kernel_rfl);have h7:=@run_callFunc_extern Tryd.prog 85 _ ew Tryd.func85 (by kernel_rfl) (by kernel_rfl) (by kernel_rfl) (by kernel_rfl);have h8:=@run_callFunc_extern Tryd.prog 86 _ cS Tryd.func86 (by kernel_rfl) (by kernel_rfl) (by kernel_rfl) (by kernel_rfl);have h27:=@run_callFunc_extern Tryd.prog 120 _ dE Tryd.func120 (by kernel_rfl) (by kernel_rfl) (by kernel_rfl) (by kernel_rfl);have h37:=@run_callFunc_extern Tryd.prog 131 _ ey Tryd.func131 (by kernel_rfl) (by kernel_rfl) (by kernel_rfl) (by kernel_rfl);have h38:=@run_callFunc_extern Tryd.prog 132 _ bu Tryd.func132 (by kernel_rfl) (by kernel_rfl) (by kernel_rfl) (by kernel_rfl);have h10:=@run_callFunc_extern Tryd.prog 88 _ ReflectliteType.typeOf Tryd.func88 (by kernel_rfl) (by kernel_rfl) (by kernel_rfl) (by kernel_rfl);have h35:=@run_callFunc_extern Tryd.prog 129 _ a7 Tryd.func129 (by kernel_rfl) (by kernel_rfl) (by kernel_rfl) (by kernel_rfl);have h11:=@run_callFunc_extern Tryd.prog 99 _ cU Tryd.func99 (by kernel_rfl) (by kernel_rfl) (by kernel_rfl) (by kernel_rfl);have gE:=@run_callFunc_extern Tryd.prog 100 _ dF Tryd.func100 (by kernel_rfl) (by kernel_rfl) (by kernel_rfl) (by kernel_rfl);have tO:=dI;have tE:=isTypeOf;have mA:=a4;have aP:=b6;have aE:=b8;have vP:=dd;have f6:=cL;have f7:=ez;have mK:=ct;have mE:=cu;have mI:=bc;have kPP:=eA;have kP:=eN;have ePP:=eB;have iP:=bZ;have n8:=dH ⟨w.heap.size,0,none⟩ t ((w.alloc (.cells #[.pointer (some t)] 92)).alloc (.cells #[.pointer (some ⟨9,92,none⟩),.pointer (some ⟨w.heap.size,0,none⟩),.int .u64 150] 130)) (by simp);have hlt:8<w.heap.size:=World.block_lt_of_cell? w ⟨8,0,none⟩ hg;have hg2:((w.alloc (.cells #[.pointer (some t)] 92)).alloc (.cells #[.pointer (some ⟨9,92,none⟩),.pointer (some ⟨w.heap.size,0,none⟩),.int .u64 150] 130)).cell? ⟨8,0,none⟩=some (.iface 148 (.agg #[.pointer (some ⟨9,36,none⟩)])):=by
  rw [World.cell?_alloc_lt _ _ ⟨8,0,none⟩ (by simp;omega),World.cell?_alloc_lt _ _ ⟨8,0,none⟩ hlt];exact hg
 have el:=dJ ⟨w.heap.size,0,none⟩ t (((w.alloc (.cells #[.pointer (some t)] 92)).alloc (.cells #[.pointer (some ⟨9,92,none⟩),.pointer (some ⟨w.heap.size,0,none⟩),.int .u64 150] 130)).alloc (.cells #[.pointer (some ⟨9,92,none⟩),.pointer (some ⟨w.heap.size,0,none⟩),.int .u64 150] 130)) (by rw [World.cell?_alloc_lt _ _ ⟨w.heap.size,0,none⟩ (by simp;omega)];simp);have nA:=eV;have uE:=noUnwrapE;have vE:=noUnwrapsE
 go_enter Tryd.func52,Tryd.ntmps52
 go_wp2;refine wp_loop_rounds 1 ?_;rw [rounds_succ];go_wp2;go_ret;exact ⟨rfl,rfl⟩
end Go.Proofs.YthdphijabffpiaaDoor.F
