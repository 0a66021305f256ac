import Derived.Test.YthdphijabffpiaaDoorZ0
import Derived.Test.YthdphijabffpiaaDoorErfC
set_option maxRecDepth 100000
set_option linter.unusedVariables false
set_option linter.unusedSimpArgs false
set_option maxHeartbeats 4000000
namespace Go.Proofs.YthdphijabffpiaaDoor.F
open Go.RowKit Go.Extern.Stop Go.Stop Go.Extern
def cc:Array Value->Sem Value:=fun args=>ReflectliteValue.unpack (args.getD 0 (.tuple #[]))
def fP : Array Value → Sem Value := ReflectliteValue.methodAny (ReflectliteValue.valueError "reflectlite.Value.Type" 0) (fun t _ _ _ => ReflectliteType.toType t)
def dK : Array Value → Sem Value := ReflectliteValue.method (ReflectliteValue.valueError "reflectlite.Value.IsNil" 0) ReflectliteValue.isNil
def eM:Array Value->Sem Value:=ReflectliteType.abiMethod fun t=>do pure (.int .u8 (<-Rtype.kind t))
def fQ:Array Value->Sem Value:=ReflectliteType.method ReflectliteType.elem
def bD : Array Value → Sem Value := ReflectliteType.relation "Implements" ReflectliteType.implements_
def be : Array Value → Sem Value := ReflectliteType.relation "AssignableTo" ReflectliteType.assignableTo
def dL : Array Value → Sem Value := ReflectliteValue.method (ReflectliteValue.valueError "reflectlite.Value.Elem" 0) ReflectliteValue.elem
def eN:Array Value->Sem Value:=ReflectliteValue.set
theorem dv(t:Addr)(w:World):(cc #[.iface 92 (.pointer (some t))]).run Tryd.prog w
 = .ok (.agg #[.pointer (some ⟨9,92,none⟩),.pointer (some ⟨w.heap.size,0,none⟩),.int .u64 150]) (w.alloc (.cells #[.pointer (some t)] 92)):=by kernel_rfl
theorem fR(a:Addr)(w:World):(fP #[.agg #[.pointer (some ⟨9,92,none⟩),.pointer (some a),.int .u64 150]]).run Tryd.prog w=.ok (.iface 148 (.agg #[.pointer (some ⟨9,92,none⟩)])) w:=by kernel_rfl
theorem c8 (h : Value) (w : World) : (Go.method 297 148 (.agg #[h]) "Kind").run Tryd.prog w = .ok (120, h) w := by kernel_rfl
theorem fS(w:World):(eM #[.pointer (some ⟨9,92,none⟩)]).run Tryd.prog w=.ok (.int .u8 22) w:=by kernel_rfl
theorem gk(w:World):(eM #[.pointer (some ⟨9,90,none⟩)]).run Tryd.prog w=.ok (.int .u8 22) w:=by kernel_rfl
theorem rlm(z:Sem Value)(f:TypeId->Addr->Nat->Nat->Sem Value)(v:Value) :
 ReflectliteValue.method z f #[v]=(do match <-ReflectliteValue.parts v with | none=>z | some (t,a,fl)=>f t a fl (fl % 32)):=rfl
theorem eO(a:Addr)(w:World):(ReflectliteValue.parts (.agg #[.pointer (some ⟨9,92,none⟩),.pointer (some a),.int .u64 150])).run Tryd.prog w=.ok (some (92,a,150)) w:=by kernel_rfl
theorem eP(a p:Addr)(W:World)(ha:W.cell? a=some (.pointer (some p))):(dK #[.agg #[.pointer (some ⟨9,92,none⟩),.pointer (some a),.int .u64 150]]).run Tryd.prog W=.ok (.bool false) W:=by
 unfold dK;rw [rlm];simp only [Sem.run_bind,eO,Result.andThen]
 simp [ReflectliteValue.isNil,loadVar,isAgg,underlying,Tryd.underlying92,ha,Result.andThen]
theorem c9 (h : Value) (w : World) : (Go.method 297 148 (.agg #[h]) "Elem").run Tryd.prog w = .ok (131, .agg #[h]) w := by kernel_rfl
theorem bj (h : Value) (w : World) : (Go.method 297 148 (.agg #[h]) "Implements").run Tryd.prog w = .ok (132, .agg #[h]) w := by kernel_rfl
theorem a9 (h : Value) (w : World) : (Go.method 297 148 (.agg #[h]) "AssignableTo").run Tryd.prog w = .ok (129, .agg #[h]) w := by kernel_rfl
theorem fT(w:World):(fQ #[.agg #[.pointer (some ⟨9,92,none⟩)]]).run Tryd.prog w=.ok (.iface 148 (.agg #[.pointer (some ⟨9,90,none⟩)])) w:=by kernel_rfl
theorem cC(w:World):(bD #[.agg #[.pointer (some ⟨9,90,none⟩)],.iface 148 (.agg #[.pointer (some ⟨9,36,none⟩)])]).run Tryd.prog w=.ok (.bool true) w:=by kernel_rfl
theorem eQ(v:Value)(w:World):(ReflectliteType.typeOf #[.iface 90 v]).run Tryd.prog w=.ok (.iface 148 (.agg #[.pointer (some ⟨9,90,none⟩)])) w:=by kernel_rfl
theorem cD(w:World):(be #[.agg #[.pointer (some ⟨9,90,none⟩)],.iface 148 (.agg #[.pointer (some ⟨9,90,none⟩)])]).run Tryd.prog w=.ok (.bool true) w:=by kernel_rfl
theorem cE(w:World):(be #[.agg #[.pointer (some ⟨9,163,none⟩)],.iface 148 (.agg #[.pointer (some ⟨9,90,none⟩)])]).run Tryd.prog w=.ok (.bool false) w:=by kernel_rfl
theorem ec(e:Addr)(w:World):(cc #[.iface 90 (.pointer (some e))]).run Tryd.prog w
 = .ok (.agg #[.pointer (some ⟨9,90,none⟩),.pointer (some ⟨w.heap.size,0,none⟩),.int .u64 150]) (w.alloc (.cells #[.pointer (some e)] 90)):=by kernel_rfl
theorem fU(w:World):(Rtype.elem? 92).run Tryd.prog w=.ok (some 90) w:=by kernel_rfl
theorem mkP(p:Addr)(w:World):(ReflectliteValue.mk 90 p ReflectliteValue.flagAddr).run Tryd.prog w=.ok (.agg #[.pointer (some ⟨9,90,none⟩),.pointer (some p),.int .u64 406]) w:=by kernel_rfl
theorem eR(a p:Addr)(W:World)(ha:W.cell? a=some (.pointer (some p))):(dL #[.agg #[.pointer (some ⟨9,92,none⟩),.pointer (some a),.int .u64 150]]).run Tryd.prog W=.ok (.agg #[.pointer (some ⟨9,90,none⟩),.pointer (some p),.int .u64 406]) W:=by
 unfold dL;rw [rlm];simp only [Sem.run_bind,eO,Result.andThen]
 simp [ReflectliteValue.elem,loadVar,isAgg,underlying,Tryd.underlying92,ha,Result.andThen,fU,mkP]
theorem rls(v x:Value):ReflectliteValue.set #[v,x]=(do
 let (some (dst,a,fl),some (src,b,_)):=(<-ReflectliteValue.parts v,<-ReflectliteValue.parts x)
  |unsupported (.noEntry "extern/(internal/reflectlite.Value).Set.zeroValue")
 if fl / ReflectliteValue.flagAddr % 2 == 0 then unsupported (.noEntry "extern/(internal/reflectlite.Value).Set.unaddressable")
 let val <-loadVar src b
 if <-Rtype.directlyAssignable dst src then storeVar dst a val
 else if <-Rtype.implements dst src then
  if (<-Rtype.kind src) == 20 then
   match val with
   | .nilIface => unsupported (.noEntry "extern/reflectlite: a nil value of one interface type handed on as a value of another")
   | _=>storeVar dst a val
  else storeVar dst a (.iface src val)
 else panicString ("reflectlite.Set: value of type " ++ (← Rtype.spelt src) ++ " is not assignable to type " ++ (← Rtype.spelt dst))
 pure (.tuple #[])):=rfl
theorem f8(a:Addr)(w:World):(ReflectliteValue.parts (.agg #[.pointer (some ⟨9,90,none⟩),.pointer (some a),.int .u64 406])).run Tryd.prog w=.ok (some (90,a,406)) w:=by kernel_rfl
theorem gt(a:Addr)(w:World):(ReflectliteValue.parts (.agg #[.pointer (some ⟨9,90,none⟩),.pointer (some a),.int .u64 150])).run Tryd.prog w=.ok (some (90,a,150)) w:=by kernel_rfl
theorem f9(w:World):(Rtype.directlyAssignable 90 90).run Tryd.prog w=.ok true w:=by kernel_rfl
theorem gA(ta b e:Addr)(old:Value)(W:World)(hb:W.cell? b=some (.pointer (some e)))(ht:W.cell? ta=some old)(hf:W.frozen? ta=false) :
  (eN #[.agg #[.pointer (some ⟨9,90,none⟩),.pointer (some ta),.int .u64 406],.agg #[.pointer (some ⟨9,90,none⟩),.pointer (some b),.int .u64 150]]).run Tryd.prog W
   = .ok (.tuple #[]) (W.setCell ta (.pointer (some e))):=by
 unfold eN;rw [rls];simp only [Sem.run_bind,f8,gt,Result.andThen]
 simp [ReflectliteValue.flagAddr,loadVar,isAgg,underlying,Tryd.underlying90,hb,Result.andThen,f9,storeVar,Value.cells,storeCells,Addr.add]
 rw [run_store Tryd.prog W ta _ _ (by rfl)]
 simp [ht,hf]
theorem gy(v:Value)(xT:TypeId)(w:World):(Instr.typeAssert (.iface 163 v) xT 152 true).run Tryd.prog w=.ok (.tuple #[.nilIface,.bool false]) w:=run_typeAssert_lacksB Tryd.underlying152 (by kernel_rfl) (by kernel_rfl) v xT w
def Handle(w:World):Prop:=w.cell? ⟨8,0,none⟩=some (.iface 148 (.agg #[.pointer (some ⟨9,36,none⟩)]))
theorem gu(e t:Addr)(old:Value)(w:World)(hg:Handle w)(iR:w.cell? t=some old)(hf0:w.frozen? t=false) :
  Calls Tryd.prog 52 #[.iface 90 (.pointer (some e)),.iface 92 (.pointer (some t))] w fun ev w'=>ev=.returned (.bool true)/\((((w.alloc (.cells #[.pointer (some t)] 92)).alloc (.cells #[.pointer (some ⟨9,92,none⟩),.pointer (some ⟨w.heap.size,0,none⟩),.int .u64 150] 130)).alloc (.cells #[.pointer (some ⟨9,92,none⟩),.pointer (some ⟨w.heap.size,0,none⟩),.int .u64 150] 130)).alloc (.cells #[.pointer (some e)] 90)).setCell t (.pointer (some e))=w':=by
 unfold Handle at hg;have h6:=@run_callFunc_extern Tryd.prog 84 _ cc Tryd.func84 (by kernel_rfl) (by kernel_rfl) (by kernel_rfl) (by kernel_rfl);have h7:=@run_callFunc_extern Tryd.prog 85 _ fP Tryd.func85 (by kernel_rfl) (by kernel_rfl) (by kernel_rfl) (by kernel_rfl);have h8:=@run_callFunc_extern Tryd.prog 86 _ dK Tryd.func86 (by kernel_rfl) (by kernel_rfl) (by kernel_rfl) (by kernel_rfl);have h27:=@run_callFunc_extern Tryd.prog 120 _ eM Tryd.func120 (by kernel_rfl) (by kernel_rfl) (by kernel_rfl) (by kernel_rfl);have h37:=@run_callFunc_extern Tryd.prog 131 _ fQ Tryd.func131 (by kernel_rfl) (by kernel_rfl) (by kernel_rfl) (by kernel_rfl);have h38:=@run_callFunc_extern Tryd.prog 132 _ bD Tryd.func132 (by kernel_rfl) (by kernel_rfl) (by kernel_rfl) (by kernel_rfl);have h10:=@run_callFunc_extern Tryd.prog 88 _ ReflectliteType.typeOf Tryd.func88 (by kernel_rfl) (by kernel_rfl) (by kernel_rfl) (by kernel_rfl);have h35:=@run_callFunc_extern Tryd.prog 129 _ be Tryd.func129 (by kernel_rfl) (by kernel_rfl) (by kernel_rfl) (by kernel_rfl);have h11:=@run_callFunc_extern Tryd.prog 99 _ dL Tryd.func99 (by kernel_rfl) (by kernel_rfl) (by kernel_rfl) (by kernel_rfl);have ik:=@run_callFunc_extern Tryd.prog 100 _ eN Tryd.func100 (by kernel_rfl) (by kernel_rfl) (by kernel_rfl) (by kernel_rfl);have tO:=eQ;have tE:=isTypeOf;have mA:=a9;have aP:=cD;have aE:=cE;have vP:=ec;have f6:=dv;have f7:=fR;have mK:=c8;have mE:=c9;have mI:=bj;have kPP:=fS;have kP:=gk;have ePP:=fT;have iP:=cC;have n8:=eP ⟨w.heap.size,0,none⟩ t ((w.alloc (.cells #[.pointer (some t)] 92)).alloc (.cells #[.pointer (some ⟨9,92,none⟩),.pointer (some ⟨w.heap.size,0,none⟩),.int .u64 150] 130)) (by simp);have hlt:8<w.heap.size:=World.block_lt_of_cell? w ⟨8,0,none⟩ hg;have hg2:((w.alloc (.cells #[.pointer (some t)] 92)).alloc (.cells #[.pointer (some ⟨9,92,none⟩),.pointer (some ⟨w.heap.size,0,none⟩),.int .u64 150] 130)).cell? ⟨8,0,none⟩=some (.iface 148 (.agg #[.pointer (some ⟨9,36,none⟩)])):=by
  rw [World.cell?_alloc_lt _ _ ⟨8,0,none⟩ (by simp;omega),World.cell?_alloc_lt _ _ ⟨8,0,none⟩ hlt];exact hg
 have g8:t.block<w.heap.size:=World.block_lt_of_cell? w t iR;have el:=eR ⟨w.heap.size,0,none⟩ t (((w.alloc (.cells #[.pointer (some t)] 92)).alloc (.cells #[.pointer (some ⟨9,92,none⟩),.pointer (some ⟨w.heap.size,0,none⟩),.int .u64 150] 130)).alloc (.cells #[.pointer (some ⟨9,92,none⟩),.pointer (some ⟨w.heap.size,0,none⟩),.int .u64 150] 130)) (by rw [World.cell?_alloc_lt _ _ ⟨w.heap.size,0,none⟩ (by simp;omega)];simp);have st:=gA t ⟨w.heap.size+1+1+1,0,none⟩ e old ((((w.alloc (.cells #[.pointer (some t)] 92)).alloc (.cells #[.pointer (some ⟨9,92,none⟩),.pointer (some ⟨w.heap.size,0,none⟩),.int .u64 150] 130)).alloc (.cells #[.pointer (some ⟨9,92,none⟩),.pointer (some ⟨w.heap.size,0,none⟩),.int .u64 150] 130)).alloc (.cells #[.pointer (some e)] 90))
  (by rw [World.cell?_alloc_at _ _ _ _ (by simp)];rfl)
  (by rw [World.cell?_alloc_lt _ _ t (by simp;omega),World.cell?_alloc_lt _ _ t (by simp;omega),World.cell?_alloc_lt _ _ t (by simp;omega),World.cell?_alloc_lt _ _ t g8];exact iR)
  (by rw [World.frozen?_alloc_old _ _ t (by simp;omega),World.frozen?_alloc_old _ _ t (by simp;omega),World.frozen?_alloc_old _ _ t (by simp;omega),World.frozen?_alloc_old _ _ t (Nat.ne_of_lt g8)];exact hf0)
 go_enter Tryd.func52,Tryd.ntmps52
 go_wp2;refine wp_loop_rounds 1 ?_;rw [rounds_succ];go_wp2;go_ret;exact ⟨rfl,rfl⟩
theorem gb(a t:Addr)(w:World)(hg:Handle w) :
  Calls Tryd.prog 52 #[.iface 163 (.pointer (some a)),.iface 92 (.pointer (some t))] w fun ev w'=>ev=.returned (.bool false)/\(((w.alloc (.cells #[.pointer (some t)] 92)).alloc (.cells #[.pointer (some ⟨9,92,none⟩),.pointer (some ⟨w.heap.size,0,none⟩),.int .u64 150] 130)).alloc (.cells #[.pointer (some ⟨9,92,none⟩),.pointer (some ⟨w.heap.size,0,none⟩),.int .u64 150] 130))=w':=by
 unfold Handle at hg;have h6:=@run_callFunc_extern Tryd.prog 84 _ cc Tryd.func84 (by kernel_rfl) (by kernel_rfl) (by kernel_rfl) (by kernel_rfl);have h7:=@run_callFunc_extern Tryd.prog 85 _ fP Tryd.func85 (by kernel_rfl) (by kernel_rfl) (by kernel_rfl) (by kernel_rfl);have h8:=@run_callFunc_extern Tryd.prog 86 _ dK Tryd.func86 (by kernel_rfl) (by kernel_rfl) (by kernel_rfl) (by kernel_rfl);have h27:=@run_callFunc_extern Tryd.prog 120 _ eM Tryd.func120 (by kernel_rfl) (by kernel_rfl) (by kernel_rfl) (by kernel_rfl);have h37:=@run_callFunc_extern Tryd.prog 131 _ fQ Tryd.func131 (by kernel_rfl) (by kernel_rfl) (by kernel_rfl) (by kernel_rfl);have h38:=@run_callFunc_extern Tryd.prog 132 _ bD Tryd.func132 (by kernel_rfl) (by kernel_rfl) (by kernel_rfl) (by kernel_rfl);have h10:=@run_callFunc_extern Tryd.prog 88 _ ReflectliteType.typeOf Tryd.func88 (by kernel_rfl) (by kernel_rfl) (by kernel_rfl) (by kernel_rfl);have h35:=@run_callFunc_extern Tryd.prog 129 _ be Tryd.func129 (by kernel_rfl) (by kernel_rfl) (by kernel_rfl) (by kernel_rfl);have h11:=@run_callFunc_extern Tryd.prog 99 _ dL Tryd.func99 (by kernel_rfl) (by kernel_rfl) (by kernel_rfl) (by kernel_rfl);have ik:=@run_callFunc_extern Tryd.prog 100 _ eN Tryd.func100 (by kernel_rfl) (by kernel_rfl) (by kernel_rfl) (by kernel_rfl);have tO:=eQ;have tE:=isTypeOf;have mA:=a9;have aP:=cD;have aE:=cE;have vP:=ec;have f6:=dv;have f7:=fR;have mK:=c8;have mE:=c9;have mI:=bj;have kPP:=fS;have kP:=gk;have ePP:=fT;have iP:=cC;have n8:=eP ⟨w.heap.size,0,none⟩ t ((w.alloc (.cells #[.pointer (some t)] 92)).alloc (.cells #[.pointer (some ⟨9,92,none⟩),.pointer (some ⟨w.heap.size,0,none⟩),.int .u64 150] 130)) (by simp);have hlt:8<w.heap.size:=World.block_lt_of_cell? w ⟨8,0,none⟩ hg;have hg2:((w.alloc (.cells #[.pointer (some t)] 92)).alloc (.cells #[.pointer (some ⟨9,92,none⟩),.pointer (some ⟨w.heap.size,0,none⟩),.int .u64 150] 130)).cell? ⟨8,0,none⟩=some (.iface 148 (.agg #[.pointer (some ⟨9,36,none⟩)])):=by
  rw [World.cell?_alloc_lt _ _ ⟨8,0,none⟩ (by simp;omega),World.cell?_alloc_lt _ _ ⟨8,0,none⟩ hlt];exact hg
 have el:=eR ⟨w.heap.size,0,none⟩ t (((w.alloc (.cells #[.pointer (some t)] 92)).alloc (.cells #[.pointer (some ⟨9,92,none⟩),.pointer (some ⟨w.heap.size,0,none⟩),.int .u64 150] 130)).alloc (.cells #[.pointer (some ⟨9,92,none⟩),.pointer (some ⟨w.heap.size,0,none⟩),.int .u64 150] 130)) (by rw [World.cell?_alloc_lt _ _ ⟨w.heap.size,0,none⟩ (by simp;omega)];simp);have nA:=gy;have uE:=noUnwrapE;have vE:=noUnwrapsE
 go_enter Tryd.func52,Tryd.ntmps52
 go_wp2;refine wp_loop_rounds 1 ?_;rw [rounds_succ];go_wp2;go_ret;exact ⟨rfl,rfl⟩
end Go.Proofs.YthdphijabffpiaaDoor.F
