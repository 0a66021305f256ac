import Derived.Test.YthdphijabffpiaaDoorZ0
import Derived.Test.YthdphijabffpiaaDoorErfC
set_option maxRecDepth 100000
set_option linter.unusedVariables false
set_option linter.unusedSimpArgs false
set_option maxHeartbeats 4000000
namespace Go.Proofs.YthdphijabffpiaaDoor.F
open Go.RowKit Go.Extern.Stop Go.Stop Go.Extern
def cA:Array Value->Sem Value:=fun args=>ReflectliteValue.unpack (args.getD 0 (.tuple #[]))
def ge : Array Value → Sem Value := ReflectliteValue.methodAny (ReflectliteValue.valueError "reflectlite.Value.Type" 0) (fun t _ _ _ => ReflectliteType.toType t)
def ea : Array Value → Sem Value := ReflectliteValue.method (ReflectliteValue.valueError "reflectlite.Value.IsNil" 0) ReflectliteValue.isNil
def fs:Array Value->Sem Value:=ReflectliteType.abiMethod fun t=>do pure (.int .u8 (<-Rtype.kind t))
def gh:Array Value->Sem Value:=ReflectliteType.method ReflectliteType.elem
def bO : Array Value → Sem Value := ReflectliteType.relation "Implements" ReflectliteType.implements_
def bq : Array Value → Sem Value := ReflectliteType.relation "AssignableTo" ReflectliteType.assignableTo
def eb : Array Value → Sem Value := ReflectliteValue.method (ReflectliteValue.valueError "reflectlite.Value.Elem" 0) ReflectliteValue.elem
def fu:Array Value->Sem Value:=ReflectliteValue.set
theorem dP(t:Addr)(w:World):(cA #[.iface 92 (.pointer (some t))]).run Tryd.prog w
 = .ok (.agg #[.pointer (some ⟨9,92,none⟩),.pointer (some ⟨w.heap.size,0,none⟩),.int .u64 150]) (w.alloc (.cells #[.pointer (some t)] 92)):=by kernel_rfl
theorem gi(a:Addr)(w:World):(ge #[.agg #[.pointer (some ⟨9,92,none⟩),.pointer (some a),.int .u64 150]]).run Tryd.prog w=.ok (.iface 148 (.agg #[.pointer (some ⟨9,92,none⟩)])) w:=by kernel_rfl
theorem dv (h : Value) (w : World) : (Go.method 297 148 (.agg #[h]) "Kind").run Tryd.prog w = .ok (120, h) w := by kernel_rfl
theorem gj(w:World):(fs #[.pointer (some ⟨9,92,none⟩)]).run Tryd.prog w=.ok (.int .u8 22) w:=by kernel_rfl
theorem gI(w:World):(fs #[.pointer (some ⟨9,90,none⟩)]).run Tryd.prog w=.ok (.int .u8 22) w:=by kernel_rfl
theorem rlm(z:Sem Value)(f:TypeId->Addr->Nat->Nat->Sem Value)(v:Value) :
 ReflectliteValue.method z f #[v]=(do match <-ReflectliteValue.parts v with | none=>z | some (t,a,fl)=>f t a fl (fl % 32)):=rfl
theorem fw(a:Addr)(w:World):(ReflectliteValue.parts (.agg #[.pointer (some ⟨9,92,none⟩),.pointer (some a),.int .u64 150])).run Tryd.prog w=.ok (some (92,a,150)) w:=by kernel_rfl
theorem fx(a p:Addr)(W:World)(ha:W.cell? a=some (.pointer (some p))):(ea #[.agg #[.pointer (some ⟨9,92,none⟩),.pointer (some a),.int .u64 150]]).run Tryd.prog W=.ok (.bool false) W:=by
 unfold ea;rw [rlm];simp only [Sem.run_bind,fw,Result.andThen]
 simp [ReflectliteValue.isNil,loadVar,isAgg,underlying,Tryd.underlying92,ha,Result.andThen]
theorem dw (h : Value) (w : World) : (Go.method 297 148 (.agg #[h]) "Elem").run Tryd.prog w = .ok (131, .agg #[h]) w := by kernel_rfl
theorem bA (h : Value) (w : World) : (Go.method 297 148 (.agg #[h]) "Implements").run Tryd.prog w = .ok (132, .agg #[h]) w := by kernel_rfl
theorem bn (h : Value) (w : World) : (Go.method 297 148 (.agg #[h]) "AssignableTo").run Tryd.prog w = .ok (129, .agg #[h]) w := by kernel_rfl
theorem gk(w:World):(gh #[.agg #[.pointer (some ⟨9,92,none⟩)]]).run Tryd.prog w=.ok (.iface 148 (.agg #[.pointer (some ⟨9,90,none⟩)])) w:=by kernel_rfl
theorem cX(w:World):(bO #[.agg #[.pointer (some ⟨9,90,none⟩)],.iface 148 (.agg #[.pointer (some ⟨9,36,none⟩)])]).run Tryd.prog w=.ok (.bool true) w:=by kernel_rfl
theorem fy(v:Value)(w:World):(ReflectliteType.typeOf #[.iface 90 v]).run Tryd.prog w=.ok (.iface 148 (.agg #[.pointer (some ⟨9,90,none⟩)])) w:=by kernel_rfl
theorem cY(w:World):(bq #[.agg #[.pointer (some ⟨9,90,none⟩)],.iface 148 (.agg #[.pointer (some ⟨9,90,none⟩)])]).run Tryd.prog w=.ok (.bool true) w:=by kernel_rfl
theorem cZ(w:World):(bq #[.agg #[.pointer (some ⟨9,163,none⟩)],.iface 148 (.agg #[.pointer (some ⟨9,90,none⟩)])]).run Tryd.prog w=.ok (.bool false) w:=by kernel_rfl
theorem eG(e:Addr)(w:World):(cA #[.iface 90 (.pointer (some e))]).run Tryd.prog w
 = .ok (.agg #[.pointer (some ⟨9,90,none⟩),.pointer (some ⟨w.heap.size,0,none⟩),.int .u64 150]) (w.alloc (.cells #[.pointer (some e)] 90)):=by kernel_rfl
theorem gm(w:World):(Rtype.elem? 92).run Tryd.prog w=.ok (some 90) w:=by kernel_rfl
theorem mkP(p:Addr)(w:World):(ReflectliteValue.mk 90 p ReflectliteValue.flagAddr).run Tryd.prog w=.ok (.agg #[.pointer (some ⟨9,90,none⟩),.pointer (some p),.int .u64 406]) w:=by kernel_rfl
theorem fz(a p:Addr)(W:World)(ha:W.cell? a=some (.pointer (some p))):(eb #[.agg #[.pointer (some ⟨9,92,none⟩),.pointer (some a),.int .u64 150]]).run Tryd.prog W=.ok (.agg #[.pointer (some ⟨9,90,none⟩),.pointer (some p),.int .u64 406]) W:=by
 unfold eb;rw [rlm];simp only [Sem.run_bind,fw,Result.andThen]
 simp [ReflectliteValue.elem,loadVar,isAgg,underlying,Tryd.underlying92,ha,Result.andThen,gm,mkP]
theorem rls(v x:Value):ReflectliteValue.set #[v,x]=(do
 let (some (dst,a,fl),some (src,b,_)):=(<-ReflectliteValue.parts v,<-ReflectliteValue.parts x)
  |unsupported (.noEntry "extern/(internal/reflectlite.Value).Set.zeroValue")
 if fl / ReflectliteValue.flagAddr % 2 == 0 then unsupported (.noEntry "extern/(internal/reflectlite.Value).Set.unaddressable")
 let val <-loadVar src b
 if <-Rtype.directlyAssignable dst src then storeVar dst a val
 else if <-Rtype.implements dst src then
  if (<-Rtype.kind src) == 20 then
   match val with
   | .nilIface => unsupported (.noEntry "extern/reflectlite: a nil value of one interface type handed on as a value of another")
   | _=>storeVar dst a val
  else storeVar dst a (.iface src val)
 else panicString ("reflectlite.Set: value of type " ++ (← Rtype.spelt src) ++ " is not assignable to type " ++ (← Rtype.spelt dst))
 pure (.tuple #[])):=rfl
theorem gy(a:Addr)(w:World):(ReflectliteValue.parts (.agg #[.pointer (some ⟨9,90,none⟩),.pointer (some a),.int .u64 406])).run Tryd.prog w=.ok (some (90,a,406)) w:=by kernel_rfl
theorem gM(a:Addr)(w:World):(ReflectliteValue.parts (.agg #[.pointer (some ⟨9,90,none⟩),.pointer (some a),.int .u64 150])).run Tryd.prog w=.ok (some (90,a,150)) w:=by kernel_rfl
theorem gz(w:World):(Rtype.directlyAssignable 90 90).run Tryd.prog w=.ok true w:=by kernel_rfl
theorem gT(ta b e:Addr)(old:Value)(W:World)(hb:W.cell? b=some (.pointer (some e)))(ht:W.cell? ta=some old)(hf:W.frozen? ta=false) :
  (fu #[.agg #[.pointer (some ⟨9,90,none⟩),.pointer (some ta),.int .u64 406],.agg #[.pointer (some ⟨9,90,none⟩),.pointer (some b),.int .u64 150]]).run Tryd.prog W
   = .ok (.tuple #[]) (W.setCell ta (.pointer (some e))):=by
 unfold fu;rw [rls];simp only [Sem.run_bind,gy,gM,Result.andThen]
 simp [ReflectliteValue.flagAddr,loadVar,isAgg,underlying,Tryd.underlying90,hb,Result.andThen,gz,storeVar,Value.cells,storeCells,Addr.add]
 rw [run_store Tryd.prog W ta _ _ (by rfl)]
 simp [ht,hf]
theorem gQ(v:Value)(xT:TypeId)(w:World):(Instr.typeAssert (.iface 163 v) xT 152 true).run Tryd.prog w=.ok (.tuple #[.nilIface,.bool false]) w:=run_typeAssert_lacksB Tryd.underlying152 (by kernel_rfl) (by kernel_rfl) v xT w
def Handle(w:World):Prop:=w.cell? ⟨8,0,none⟩=some (.iface 148 (.agg #[.pointer (some ⟨9,36,none⟩)]))
theorem gN(e t:Addr)(old:Value)(w:World)(hg:Handle w)(jF:w.cell? t=some old)(hf0:w.frozen? t=false) :
  Calls Tryd.prog 52 #[.iface 90 (.pointer (some e)),.iface 92 (.pointer (some t))] w fun ev w'=>ev=.returned (.bool true)/\((((w.alloc (.cells #[.pointer (some t)] 92)).alloc (.cells #[.pointer (some ⟨9,92,none⟩),.pointer (some ⟨w.heap.size,0,none⟩),.int .u64 150] 130)).alloc (.cells #[.pointer (some ⟨9,92,none⟩),.pointer (some ⟨w.heap.size,0,none⟩),.int .u64 150] 130)).alloc (.cells #[.pointer (some e)] 90)).setCell t (.pointer (some e))=w':=by
 unfold Handle at hg;have h6:=@run_callFunc_extern Tryd.prog 84 _ cA Tryd.func84 (by kernel_rfl) (by kernel_rfl) (by kernel_rfl) (by kernel_rfl);have h7:=@run_callFunc_extern Tryd.prog 85 _ ge Tryd.func85 (by kernel_rfl) (by kernel_rfl) (by kernel_rfl) (by kernel_rfl);have h8:=@run_callFunc_extern Tryd.prog 86 _ ea Tryd.func86 (by kernel_rfl) (by kernel_rfl) (by kernel_rfl) (by kernel_rfl);have h27:=@run_callFunc_extern Tryd.prog 120 _ fs Tryd.func120 (by kernel_rfl) (by kernel_rfl) (by kernel_rfl) (by kernel_rfl);have h37:=@run_callFunc_extern Tryd.prog 131 _ gh Tryd.func131 (by kernel_rfl) (by kernel_rfl) (by kernel_rfl) (by kernel_rfl);have h38:=@run_callFunc_extern Tryd.prog 132 _ bO Tryd.func132 (by kernel_rfl) (by kernel_rfl) (by kernel_rfl) (by kernel_rfl);have h10:=@run_callFunc_extern Tryd.prog 88 _ ReflectliteType.typeOf Tryd.func88 (by kernel_rfl) (by kernel_rfl) (by kernel_rfl) (by kernel_rfl);have h35:=@run_callFunc_extern Tryd.prog 129 _ bq Tryd.func129 (by kernel_rfl) (by kernel_rfl) (by kernel_rfl) (by kernel_rfl);have h11:=@run_callFunc_extern Tryd.prog 99 _ eb Tryd.func99 (by kernel_rfl) (by kernel_rfl) (by kernel_rfl) (by kernel_rfl);have jt:=@run_callFunc_extern Tryd.prog 100 _ fu Tryd.func100 (by kernel_rfl) (by kernel_rfl) (by kernel_rfl) (by kernel_rfl);have tO:=fy;have tE:=isTypeOf;have mA:=bn;have aP:=cY;have aE:=cZ;have vP:=eG;have f6:=dP;have f7:=gi;have mK:=dv;have mE:=dw;have mI:=bA;have kPP:=gj;have kP:=gI;have ePP:=gk;have iP:=cX;have n8:=fx ⟨w.heap.size,0,none⟩ t ((w.alloc (.cells #[.pointer (some t)] 92)).alloc (.cells #[.pointer (some ⟨9,92,none⟩),.pointer (some ⟨w.heap.size,0,none⟩),.int .u64 150] 130)) (by simp);have hlt:8<w.heap.size:=World.block_lt_of_cell? w ⟨8,0,none⟩ hg;have hg2:((w.alloc (.cells #[.pointer (some t)] 92)).alloc (.cells #[.pointer (some ⟨9,92,none⟩),.pointer (some ⟨w.heap.size,0,none⟩),.int .u64 150] 130)).cell? ⟨8,0,none⟩=some (.iface 148 (.agg #[.pointer (some ⟨9,36,none⟩)])):=by
  rw [World.cell?_alloc_lt _ _ ⟨8,0,none⟩ (by simp;omega),World.cell?_alloc_lt _ _ ⟨8,0,none⟩ hlt];exact hg
 have jn:t.block<w.heap.size:=World.block_lt_of_cell? w t jF;have el:=fz ⟨w.heap.size,0,none⟩ t (((w.alloc (.cells #[.pointer (some t)] 92)).alloc (.cells #[.pointer (some ⟨9,92,none⟩),.pointer (some ⟨w.heap.size,0,none⟩),.int .u64 150] 130)).alloc (.cells #[.pointer (some ⟨9,92,none⟩),.pointer (some ⟨w.heap.size,0,none⟩),.int .u64 150] 130)) (by rw [World.cell?_alloc_lt _ _ ⟨w.heap.size,0,none⟩ (by simp;omega)];simp);have st:=gT t ⟨w.heap.size+1+1+1,0,none⟩ e old ((((w.alloc (.cells #[.pointer (some t)] 92)).alloc (.cells #[.pointer (some ⟨9,92,none⟩),.pointer (some ⟨w.heap.size,0,none⟩),.int .u64 150] 130)).alloc (.cells #[.pointer (some ⟨9,92,none⟩),.pointer (some ⟨w.heap.size,0,none⟩),.int .u64 150] 130)).alloc (.cells #[.pointer (some e)] 90))
  (by rw [World.cell?_alloc_at _ _ _ _ (by simp)];rfl)
  (by rw [World.cell?_alloc_lt _ _ t (by simp;omega),World.cell?_alloc_lt _ _ t (by simp;omega),World.cell?_alloc_lt _ _ t (by simp;omega),World.cell?_alloc_lt _ _ t jn];exact jF)
  (by rw [World.frozen?_alloc_old _ _ t (by simp;omega),World.frozen?_alloc_old _ _ t (by simp;omega),World.frozen?_alloc_old _ _ t (by simp;omega),World.frozen?_alloc_old _ _ t (Nat.ne_of_lt jn)];exact hf0)
 go_enter Tryd.func52,Tryd.ntmps52
 go_wp2;refine wp_loop_rounds 1 ?_;rw [rounds_succ];go_wp2;go_ret;exact ⟨rfl,rfl⟩
theorem gA(a t:Addr)(w:World)(hg:Handle w) :
  Calls Tryd.prog 52 #[.iface 163 (.pointer (some a)),.iface 92 (.pointer (some t))] w fun ev w'=>ev=.returned (.bool false)/\(((w.alloc (.cells #[.pointer (some t)] 92)).alloc (.cells #[.pointer (some ⟨9,92,none⟩),.pointer (some ⟨w.heap.size,0,none⟩),.int .u64 150] 130)).alloc (.cells #[.pointer (some ⟨9,92,none⟩),.pointer (some ⟨w.heap.size,0,none⟩),.int .u64 150] 130))=w':=by
 unfold Handle at hg;have h6:=@run_callFunc_extern Tryd.prog 84 _ cA Tryd.func84 (by kernel_rfl) (by kernel_rfl) (by kernel_rfl) (by kernel_rfl);have h7:=@run_callFunc_extern Tryd.prog 85 _ ge Tryd.func85 (by kernel_rfl) (by kernel_rfl) (by kernel_rfl) (by kernel_rfl);have h8:=@run_callFunc_extern Tryd.prog 86 _ ea Tryd.func86 (by kernel_rfl) (by kernel_rfl) (by kernel_rfl) (by kernel_rfl);have h27:=@run_callFunc_extern Tryd.prog 120 _ fs Tryd.func120 (by kernel_rfl) (by kernel_rfl) (by kernel_rfl) (by kernel_rfl);have h37:=@run_callFunc_extern Tryd.prog 131 _ gh Tryd.func131 (by kernel_rfl) (by kernel_rfl) (by kernel_rfl) (by kernel_rfl);have h38:=@run_callFunc_extern Tryd.prog 132 _ bO Tryd.func132 (by kernel_rfl) (by kernel_rfl) (by kernel_rfl) (by kernel_rfl);have h10:=@run_callFunc_extern Tryd.prog 88 _ ReflectliteType.typeOf Tryd.func88 (by kernel_rfl) (by kernel_rfl) (by kernel_rfl) (by kernel_rfl);have h35:=@run_callFunc_extern Tryd.prog 129 _ bq Tryd.func129 (by kernel_rfl) (by kernel_rfl) (by kernel_rfl) (by kernel_rfl);have h11:=@run_callFunc_extern Tryd.prog 99 _ eb Tryd.func99 (by kernel_rfl) (by kernel_rfl) (by kernel_rfl) (by kernel_rfl);have jt:=@run_callFunc_extern Tryd.prog 100 _ fu Tryd.func100 (by kernel_rfl) (by kernel_rfl) (by kernel_rfl) (by kernel_rfl);have tO:=fy;have tE:=isTypeOf;have mA:=bn;have aP:=cY;have aE:=cZ;have vP:=eG;have f6:=dP;have f7:=gi;have mK:=dv;have mE:=dw;have mI:=bA;have kPP:=gj;have kP:=gI;have ePP:=gk;have iP:=cX;have n8:=fx ⟨w.heap.size,0,none⟩ t ((w.alloc (.cells #[.pointer (some t)] 92)).alloc (.cells #[.pointer (some ⟨9,92,none⟩),.pointer (some ⟨w.heap.size,0,none⟩),.int .u64 150] 130)) (by simp);have hlt:8<w.heap.size:=World.block_lt_of_cell? w ⟨8,0,none⟩ hg;have hg2:((w.alloc (.cells #[.pointer (some t)] 92)).alloc (.cells #[.pointer (some ⟨9,92,none⟩),.pointer (some ⟨w.heap.size,0,none⟩),.int .u64 150] 130)).cell? ⟨8,0,none⟩=some (.iface 148 (.agg #[.pointer (some ⟨9,36,none⟩)])):=by
  rw [World.cell?_alloc_lt _ _ ⟨8,0,none⟩ (by simp;omega),World.cell?_alloc_lt _ _ ⟨8,0,none⟩ hlt];exact hg
 have el:=fz ⟨w.heap.size,0,none⟩ t (((w.alloc (.cells #[.pointer (some t)] 92)).alloc (.cells #[.pointer (some ⟨9,92,none⟩),.pointer (some ⟨w.heap.size,0,none⟩),.int .u64 150] 130)).alloc (.cells #[.pointer (some ⟨9,92,none⟩),.pointer (some ⟨w.heap.size,0,none⟩),.int .u64 150] 130)) (by rw [World.cell?_alloc_lt _ _ ⟨w.heap.size,0,none⟩ (by simp;omega)];simp);have nA:=gQ;have uE:=noUnwrapE;have vE:=noUnwrapsE
 go_enter Tryd.func52,Tryd.ntmps52
 go_wp2;refine wp_loop_rounds 1 ?_;rw [rounds_succ];go_wp2;go_ret;exact ⟨rfl,rfl⟩
end Go.Proofs.YthdphijabffpiaaDoor.F
