import Derived.Test.YtechjomepdahiaaDoorZ0
import Derived.Test.YtechjomepdahiaaDoorProg
import Derived.Test.YtechjomepdahiaaDoorMg1
import Derived.Test.YtechjomepdahiaaDoorRows
import Derived.Handy
import Derived.LaidEql
import Derived.LaidHandle
import Derived.LaidMore
import Derived.Stop.Asserts
import Derived.Stop.LaidErr
import Derived.RowKitTokens
import Derived.Deep.LoopGhost
import Derived.Deep.RegionWith
set_option maxRecDepth 100000
set_option linter.unusedVariables false
set_option linter.unusedSimpArgs false
set_option maxHeartbeats 400000
namespace Go.Proofs.YtechjomepdahiaaDoor
open Go.RowKit Go.ChangeShapes Go.WideShapes
open Go.Extern.Stop Go.Stop Go.Extern
def glob:Nat->Nat
 | 0=>1 | 1=>2 | 2=>3 | 3=>4
 | 4=>0 | 5=>5 | 6=>6 | _=>7
structure Sents (w:World) (sa:Nat->Addr):Prop where
 cell:∀ k,k<8->w.cell? ⟨glob k,0,none⟩=some (.iface 186 (.pointer (some (sa k))))
 row:∀ k,k<8->∃ c t,w.heap[(sa k).block]? = some (.cells c t (0,0))
 ne:∀ i j,i<8->j<8->i≠j->sa i≠sa j
theorem Sents.below{w w':World}{sa:Nat->Addr}(h:Sents w sa)(hb:Below w.heap.size w w'):Sents w' sa where
 cell k hk:=by
  have:=h.cell k hk;exact (hb.cell (p:=⟨glob k,0,none⟩) (World.block_lt_of_cell? _ _ this)).trans this
 row k hk:=by
  obtain ⟨c,t,hr⟩:=h.row k hk;exact ⟨c,t,(hb.block _ (Array.getElem?_eq_some_iff.1 hr).1).trans hr⟩
 ne:=h.ne
theorem isTypeOf(v:Value)(w:World):(Extern.ReflectliteType.typeOf #[.iface 186 v]).run Tryd.prog w=.ok (.iface 156 (.agg #[.pointer (some ⟨8,186,none⟩)])) w:=by kernel_rfl
def comparableEntry : Array Value → Sem Value := Extern.ReflectliteType.method fun t => do Extern.Rtype.noPackHeld "Comparable" t; pure (.bool (← typeInfo t).comparable)
theorem isComparable(w:World):(comparableEntry #[.agg #[.pointer (some ⟨8,186,none⟩)]]).run Tryd.prog w=.ok (.bool true) w:=by kernel_rfl
theorem isMethodComparable (v : Value) (w : World) : (Go.method 323 156 v "Comparable").run Tryd.prog w = .ok (148, v) w := by kernel_rfl
theorem isComp:(Tryd.prog.info? 186).map (·.comparable)=some true:=by kernel_rfl
theorem isSize:(Tryd.prog.info? 211).map (·.size)=some 1:=by kernel_rfl
theorem noIsE(v:Value)(xT:TypeId)(w:World):(Instr.typeAssert (.iface 186 v) xT 158 true).run Tryd.prog w=.ok (.tuple #[.nilIface,.bool false]) w:=run_typeAssert_lacksB Tryd.underlying158 (by kernel_rfl) (by kernel_rfl) v xT w
theorem noUnwrapE(v:Value)(xT:TypeId)(w:World):(Instr.typeAssert (.iface 186 v) xT 160 true).run Tryd.prog w=.ok (.tuple #[.nilIface,.bool false]) w:=run_typeAssert_lacksB Tryd.underlying160 (by kernel_rfl) (by kernel_rfl) v xT w
theorem noUnwrapsE(v:Value)(xT:TypeId)(w:World):(Instr.typeAssert (.iface 186 v) xT 162 true).run Tryd.prog w=.ok (.tuple #[.nilIface,.bool false]) w:=run_typeAssert_lacksB Tryd.underlying162 (by kernel_rfl) (by kernel_rfl) v xT w
theorem jF(sa:Nat->Addr)(w:World)(hs:Sents w sa)(k:Nat)(hk:k<8)(m:Nat)(hm:m<8) :
  Calls Tryd.prog 88 #[.iface 186 (.pointer (some (sa m))),.iface 186 (.pointer (some (sa k))),.bool true] w fun r w'=>r=.returned (.bool (m == k))/\w=w':=by
 obtain ⟨i,hi,hcmp⟩:=Option.map_eq_some_iff.1 isComp;obtain ⟨j,hj,wG⟩:=Option.map_eq_some_iff.1 isSize;have nE:=noIsE;have uE:=noUnwrapE;have vE:=noUnwrapsE;have HS:=aa hs;clear hs
 go_enter Tryd.func88,Tryd.ntmps88
 go_wp2
 go_loopg [0] 1 (fun n v wr=>v=.iface 186 (.pointer (some (sa m)))/\0<n/\w=wr)
 case atStart=>exact ⟨rfl,Nat.lt_succ_self _,rfl⟩
 case round =>
  obtain ⟨rfl,hlen,rfl⟩:=hrel
  by_cases hmk:m=k
  ·subst hmk;have tz:=run_eql_iface_ptr_same (P:=Tryd.prog) w (sa m) Tryd.underlying31 Tryd.underlying186 hi hcmp hj;go_wp2;go_ret;exact ⟨aq (by simp),rfl⟩
  ·obtain ⟨c1,t1,hr1⟩:=HS.out.row m hm;obtain ⟨c2,t2,hr2⟩:=HS.out.row k hk;have tz:=run_eql_iface_ptr_other (P:=Tryd.prog) w Tryd.underlying31 Tryd.underlying186 hi hcmp hj (by rw [wG];decide) (HS.out.ne m k hm hk hmk) hr1 hr2;have hf:=aa (show (m == k)=false by simp;exact hmk);clear hr1 hr2 hmk;go_wp2;go_ret;exact ⟨aq (by rw [hf.out];rfl),rfl⟩
theorem cp(sa:Nat->Addr)(w:World)(hs:Sents w sa)(k:Nat)(hk:k<8)(m:Nat)(hm:m<8) :
  Calls Tryd.prog 54 #[.iface 186 (.pointer (some (sa m))),.iface 186 (.pointer (some (sa k)))] w fun r w'=>r=.returned (.bool (m == k))/\w=w':=by
 have h24:=@run_callFunc_extern Tryd.prog 87 _ Extern.ReflectliteType.typeOf Tryd.func87 (by kernel_rfl) (by kernel_rfl) (by kernel_rfl) (by kernel_rfl);have h56:=@run_callFunc_extern Tryd.prog 148 _ comparableEntry Tryd.func148 (by kernel_rfl) (by kernel_rfl) (by kernel_rfl) (by kernel_rfl);have tT:=isTypeOf;have cT:=isComparable;have mR:=isMethodComparable;have HC:=aa (jF sa w hs k hk m hm);clear hs
 go_enter Tryd.func54,Tryd.ntmps54
 go_wp2_with (go_at_call 88;refine HC.out.mono ?_;rintro e w' ⟨rfl,rfl⟩)
 go_ret;exact ⟨rfl,rfl⟩
theorem jG(sa:Nat->Addr)(w:World)(hs:Sents w sa)(m:Nat)(hm:m<8) :
  Calls Tryd.prog 20 #[.iface 186 (.pointer (some (sa m)))] w fun r w'=>r=.returned (.int .i64 (m+1))/\w=w':=by
 have h0:=hs.cell 0 (by decide);have h1:=hs.cell 1 (by decide);have h2:=hs.cell 2 (by decide);have h3:=hs.cell 3 (by decide);have h4:=hs.cell 4 (by decide);have h5:=hs.cell 5 (by decide);have h6:=hs.cell 6 (by decide);have h7:=hs.cell 7 (by decide);simp only [glob] at h0 h1 h2 h3 h4 h5 h6 h7;have i0:=aa (fun m hm=>cp sa w hs 0 (by decide) m hm);have i1:=aa (fun m hm=>cp sa w hs 1 (by decide) m hm);have i2:=aa (fun m hm=>cp sa w hs 2 (by decide) m hm);have i3:=aa (fun m hm=>cp sa w hs 3 (by decide) m hm);have i4:=aa (fun m hm=>cp sa w hs 4 (by decide) m hm);have i5:=aa (fun m hm=>cp sa w hs 5 (by decide) m hm);have i6:=aa (fun m hm=>cp sa w hs 6 (by decide) m hm);have i7:=aa (fun m hm=>cp sa w hs 7 (by decide) m hm);clear hs;have hcc:m=0\/m=1\/m=2\/m=3\/m=4\/m=5\/m=6\/m=7:=by omega
 clear hm
 rcases hcc with rfl | rfl | rfl | rfl | rfl | rfl | rfl | rfl
 all_goals
  go_enter Tryd.func20,Tryd.ntmps20
  go_wp2_with (first
   |(go_at_call_of 54 (Value.iface 186 (.pointer (some (sa 0))));refine (i0.out _ (by decide)).mono ?_;rintro e w' ⟨rfl,rfl⟩)
   |(go_at_call_of 54 (Value.iface 186 (.pointer (some (sa 1))));refine (i1.out _ (by decide)).mono ?_;rintro e w' ⟨rfl,rfl⟩)
   |(go_at_call_of 54 (Value.iface 186 (.pointer (some (sa 2))));refine (i2.out _ (by decide)).mono ?_;rintro e w' ⟨rfl,rfl⟩)
   |(go_at_call_of 54 (Value.iface 186 (.pointer (some (sa 3))));refine (i3.out _ (by decide)).mono ?_;rintro e w' ⟨rfl,rfl⟩)
   |(go_at_call_of 54 (Value.iface 186 (.pointer (some (sa 4))));refine (i4.out _ (by decide)).mono ?_;rintro e w' ⟨rfl,rfl⟩)
   |(go_at_call_of 54 (Value.iface 186 (.pointer (some (sa 5))));refine (i5.out _ (by decide)).mono ?_;rintro e w' ⟨rfl,rfl⟩)
   |(go_at_call_of 54 (Value.iface 186 (.pointer (some (sa 6))));refine (i6.out _ (by decide)).mono ?_;rintro e w' ⟨rfl,rfl⟩)
   |(go_at_call_of 54 (Value.iface 186 (.pointer (some (sa 7))));refine (i7.out _ (by decide)).mono ?_;rintro e w' ⟨rfl,rfl⟩))
  go_ret;exact ⟨rfl,rfl⟩
def sentD (t : List UInt8) : DataW Unit := .iface "*errors.errorString" (.ptr (.agg [.lit (.string t)]))
theorem laidVars_sents{P:Program}{W:World}{ti tp te ts:TypeId}{ms:Array (String × TypeId)}{f:Field}
  (hi : P.underlying ti = some (.interface ms)) (hrow : ∀ u, P.typeName? 3 u = some "*errors.errorString" → u = tp)
  (hp:P.underlying tp=some (.pointer te)) (he:P.underlying te=some (.struct #[f])) (yq:f.type=ts) (wT:f.offset=0) (hs:P.underlying ts=some .string) (hc:P.cellsOf te=1) (hcs:P.cellsOf ts=1) :
  ∀ (l:List (String × List UInt8 × Nat)) (ps:List MemPlace),(∀ x ∈ l,P.globalNamed x.1=some x.2.2/\(P.globals[x.2.2]?).map (·.type)=some ti) ->
   DataW.LaidVars P W (l.map fun x=>(x.1,sentD x.2.1)) ps ->
   (∀ b off,MemPlace.cell b off ∈ ps->(∃ c t,W.heap[b]? = some (.cells c t (0,0)))/\∀ u v,W.cell? ⟨b,off,none⟩=some (.iface u v)->Value.okWide P W .any 0 u v)->ps.Nodup ->
   ∃ ads : List Addr, ads.length = l.length ∧ (∀ k, k < l.length → W.cell? ⟨(l.getD k ("", [], 0)).2.2, 0, none⟩ = some (.iface tp (.pointer (some (ads.getD k default))))) ∧
    (∀ a ∈ ads,MemPlace.cell a.block a.off ∈ ps/\∃ c t,W.heap[a.block]? = some (.cells c t (0,0)))/\ads.Nodup:=by
 intro l
 induction l with
 |nil=>intro ps _ _ _ _;exact ⟨[],rfl,fun k hk=>by simp at hk,fun a ha=>by simp at ha,List.nodup_nil⟩
 |cons x l ih =>
  intro ps vx h my oZ;obtain ⟨n,tx,g⟩:=x;obtain ⟨g',t',cs,fuel,p,q,sP,xK,hv,hd,hq,rfl⟩:=h;obtain ⟨hg,ht⟩:=vx (n,tx,g) (by simp);obtain rfl:=Option.some.inj (hg.symm.trans sP);obtain rfl:=Option.some.inj (ht.symm.trans xK);obtain ⟨l0⟩:=cs;have ok0:∀ u v,l0=[.iface u v]->Value.okWide P W .any 0 u v:=fun u v e=>by
   subst e;exact (my g 0 (by simp [MemPlace.row])).2 u v (by simpa using World.var?_cell sP hv 0)
  obtain ⟨a0,s0,rfl,hc0,hs0,hz0,rfl⟩:=errorString_of_trod hi hrow hp he yq wT hs hc hcs hd ok0;have mS:MemPlace.cell a0.block a0.off ∈ MemPlace.row a0 1:=by simp [MemPlace.row]
  obtain ⟨c0,t0,hb0⟩:=(my a0.block a0.off (List.mem_append_left _ (List.mem_append_right _ mS))).1;obtain ⟨ads,h1,h2,h3,h4⟩:=ih q (fun y hy=>vx y (by simp [hy])) hq (fun b off hm=>my b off (List.mem_append_right _ hm)) (List.Nodup.sublist (List.sublist_append_right _ _) oZ);refine ⟨a0 :: ads,by simp [h1],?_,?_,?_⟩
  ·intro k hk
   cases k with
   |zero=>simpa using World.var?_cell sP hv 0
   |succ k=>simpa using h2 k (by simpa using hk)
  ·intro a ha
   rcases List.mem_cons.1 ha with rfl | ha
   ·exact ⟨List.mem_append_left _ (List.mem_append_right _ mS),c0,t0,hb0⟩
   ·exact ⟨List.mem_append_right _ (h3 a ha).1,(h3 a ha).2⟩
  ·refine List.nodup_cons.2 ⟨fun ha=>?_,h4⟩;have hm:=(h3 a0 ha).1;have vF:=(List.nodup_append.1 oZ).2.2;exact vF _ (List.mem_append_right _ mS) _ hm rfl
def sentList : List (String × List UInt8 × Nat) := [("linotype/api.ErrScalar", [115, 99, 97, 108, 97, 114], 1), ("linotype/api.ErrForm", [102, 111, 114, 109], 2), ("linotype/api.ErrRange", [114, 97, 110, 103, 101], 3),
 ("linotype/api.ErrLong", [108, 111, 110, 103], 4), ("linotype/api.ErrKind", [107, 105, 110, 100], 0), ("linotype/api.ErrWord", [119, 111, 114, 100], 5), ("linotype/api.ErrFull", [102, 117, 108, 108], 6), ("linotype/api.ErrNone", [110, 111, 110, 101], 7)]
theorem esRow : ∀ u, Tryd.prog.typeName? 3 u = some "*errors.errorString" → u = 186 := typeName_ptr_named (nm := "errors.errorString") (by kernel_rfl) (by kernel_rfl) (by decide)
theorem sents_of_laid{W:World}(h:laidMet Tryd.prog (sentList.map fun x=>(x.1,sentD x.2.1)) W):∃ sa,Sents W sa:=by
 obtain ⟨ps,hv,oZ,my⟩:=h;obtain ⟨ads,h1,h2,h3,h4⟩:=laidVars_sents Tryd.underlying31 esRow Tryd.underlying186 Tryd.underlying211 rfl rfl Tryd.underlying9 (by kernel_rfl) (by kernel_rfl) sentList ps
  (by intro x hx;simp only [sentList,List.mem_cons,List.not_mem_nil,or_false] at hx;rcases hx with rfl | rfl | rfl | rfl | rfl | rfl | rfl | rfl <;> exact ⟨by kernel_rfl,by kernel_rfl⟩) hv my oZ
 have hl:ads.length=8:=h1;refine ⟨fun k=>ads.getD k default,⟨?_,?_,?_⟩⟩
 ·intro k hk;have:=h2 k hk;rw [show glob k = (sentList.getD k ("", [], 0)).2.2 from by
   match k,hk with
   | 0,_ | 1,_ | 2,_ | 3,_ | 4,_ | 5,_ | 6,_ | 7,_=>rfl]
  exact this
 ·intro k hk;exact (h3 _ (by simp [List.getD,List.getElem?_eq_getElem (show k<ads.length by omega)])).2
 ·intro i j hi hj hne he;refine hne ?_;have e1:ads.getD i default=ads[i]'(by omega):=by simp [List.getD,List.getElem?_eq_getElem (show i<ads.length by omega)]
  have e2:ads.getD j default=ads[j]'(by omega):=by simp [List.getD,List.getElem?_eq_getElem (show j<ads.length by omega)]
  rw [e1,e2] at he;exact (List.getElem_inj h4).1 he
theorem gm{W:World}(h:laidMetH Tryd.prog (sentList.map fun x=>(x.1,sentD x.2.1)) W):∃ sa,Sents W sa:=sents_of_laid h
end Go.Proofs.YtechjomepdahiaaDoor
