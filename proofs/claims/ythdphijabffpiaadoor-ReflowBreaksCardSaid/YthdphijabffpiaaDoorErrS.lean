import Derived.Test.YthdphijabffpiaaDoorZ0
import Derived.Test.YthdphijabffpiaaDoorProg
import Derived.Test.YthdphijabffpiaaDoorMg1
import Derived.Test.YthdphijabffpiaaDoorRows
import Derived.Handy
import Derived.LaidEql
import Derived.LaidHandle
import Derived.LaidMore
import Derived.Stop.Asserts
import Derived.Stop.LaidErr
import Derived.RowKitTokens
import Derived.Deep.LoopGhost
import Derived.Deep.RegionWith
set_option maxRecDepth 100000
set_option linter.unusedVariables false
set_option linter.unusedSimpArgs false
set_option maxHeartbeats 400000
namespace Go.Proofs.YthdphijabffpiaaDoor
open Go.RowKit Go.ChangeShapes Go.WideShapes
open Go.Extern.Stop Go.Stop Go.Extern
def glob:Nat->Nat
 | 0=>0 | 1=>1 | 2=>2 | 3=>3
 | 4=>4 | 5=>5 | 6=>6 | _=>7
structure Sents (w:World) (sa:Nat->Addr):Prop where
 cell:∀ k,k<8->w.cell? ⟨glob k,0,none⟩=some (.iface 163 (.pointer (some (sa k))))
 row:∀ k,k<8->∃ c t,w.heap[(sa k).block]? = some (.cells c t (0,0))
 ne:∀ i j,i<8->j<8->i≠j->sa i≠sa j
theorem Sents.below{w w':World}{sa:Nat->Addr}(h:Sents w sa)(hb:Below w.heap.size w w'):Sents w' sa where
 cell k hk:=by
  have:=h.cell k hk;exact (hb.cell (p:=⟨glob k,0,none⟩) (World.block_lt_of_cell? _ _ this)).trans this
 row k hk:=by
  obtain ⟨c,t,hr⟩:=h.row k hk;exact ⟨c,t,(hb.block _ (Array.getElem?_eq_some_iff.1 hr).1).trans hr⟩
 ne:=h.ne
theorem isTypeOf(v:Value)(w:World):(Extern.ReflectliteType.typeOf #[.iface 163 v]).run Tryd.prog w=.ok (.iface 148 (.agg #[.pointer (some ⟨9,163,none⟩)])) w:=by kernel_rfl
def comparableEntry : Array Value → Sem Value := Extern.ReflectliteType.method fun t => do Extern.Rtype.noPackHeld "Comparable" t; pure (.bool (← typeInfo t).comparable)
theorem isComparable(w:World):(comparableEntry #[.agg #[.pointer (some ⟨9,163,none⟩)]]).run Tryd.prog w=.ok (.bool true) w:=by kernel_rfl
theorem isMethodComparable (v : Value) (w : World) : (Go.method 297 148 v "Comparable").run Tryd.prog w = .ok (130, v) w := by kernel_rfl
theorem isComp:(Tryd.prog.info? 163).map (·.comparable)=some true:=by kernel_rfl
theorem isSize:(Tryd.prog.info? 185).map (·.size)=some 1:=by kernel_rfl
theorem noIsE(v:Value)(xT:TypeId)(w:World):(Instr.typeAssert (.iface 163 v) xT 159 true).run Tryd.prog w=.ok (.tuple #[.nilIface,.bool false]) w:=run_typeAssert_lacksB Tryd.underlying159 (by kernel_rfl) (by kernel_rfl) v xT w
theorem noUnwrapE(v:Value)(xT:TypeId)(w:World):(Instr.typeAssert (.iface 163 v) xT 155 true).run Tryd.prog w=.ok (.tuple #[.nilIface,.bool false]) w:=run_typeAssert_lacksB Tryd.underlying155 (by kernel_rfl) (by kernel_rfl) v xT w
theorem noUnwrapsE(v:Value)(xT:TypeId)(w:World):(Instr.typeAssert (.iface 163 v) xT 157 true).run Tryd.prog w=.ok (.tuple #[.nilIface,.bool false]) w:=run_typeAssert_lacksB Tryd.underlying157 (by kernel_rfl) (by kernel_rfl) v xT w
def sentD (t : List UInt8) : DataW Unit := .iface "*errors.errorString" (.ptr (.agg [.lit (.string t)]))
theorem laidVars_sents{P:Program}{W:World}{ti tp te ts:TypeId}{ms:Array (String × TypeId)}{f:Field}
  (hi : P.underlying ti = some (.interface ms)) (hrow : ∀ u, P.typeName? 3 u = some "*errors.errorString" → u = tp)
  (hp:P.underlying tp=some (.pointer te)) (he:P.underlying te=some (.struct #[f])) (nb:f.type=ts) (km:f.offset=0) (hs:P.underlying ts=some .string) (hc:P.cellsOf te=1) (hcs:P.cellsOf ts=1) :
  ∀ (l:List (String × List UInt8 × Nat)) (ps:List MemPlace),(∀ x ∈ l,P.globalNamed x.1=some x.2.2/\(P.globals[x.2.2]?).map (·.type)=some ti) ->
   DataW.LaidVars P W (l.map fun x=>(x.1,sentD x.2.1)) ps ->
   (∀ b off,MemPlace.cell b off ∈ ps->(∃ c t,W.heap[b]? = some (.cells c t (0,0)))/\∀ u v,W.cell? ⟨b,off,none⟩=some (.iface u v)->Value.okWide P W .any 0 u v)->ps.Nodup ->
   ∃ ads : List Addr, ads.length = l.length ∧ (∀ k, k < l.length → W.cell? ⟨(l.getD k ("", [], 0)).2.2, 0, none⟩ = some (.iface tp (.pointer (some (ads.getD k default))))) ∧
    (∀ a ∈ ads,MemPlace.cell a.block a.off ∈ ps/\∃ c t,W.heap[a.block]? = some (.cells c t (0,0)))/\ads.Nodup:=by
 intro l
 induction l with
 |nil=>intro ps _ _ _ _;exact ⟨[],rfl,fun k hk=>by simp at hk,fun a ha=>by simp at ha,List.nodup_nil⟩
 |cons x l ih =>
  intro ps lB h hN jz;obtain ⟨n,tx,g⟩:=x;obtain ⟨g',t',cs,fuel,p,q,ka,lY,hv,hd,hq,rfl⟩:=h;obtain ⟨hg,ht⟩:=lB (n,tx,g) (by simp);obtain rfl:=Option.some.inj (hg.symm.trans ka);obtain rfl:=Option.some.inj (ht.symm.trans lY);obtain ⟨l0⟩:=cs;have ok0:∀ u v,l0=[.iface u v]->Value.okWide P W .any 0 u v:=fun u v e=>by
   subst e;exact (hN g 0 (by simp [MemPlace.row])).2 u v (by simpa using World.var?_cell ka hv 0)
  obtain ⟨a0,s0,rfl,hc0,hs0,hz0,rfl⟩:=errorString_of_trod hi hrow hp he nb km hs hc hcs hd ok0;have iQ:MemPlace.cell a0.block a0.off ∈ MemPlace.row a0 1:=by simp [MemPlace.row]
  obtain ⟨c0,t0,hb0⟩:=(hN a0.block a0.off (List.mem_append_left _ (List.mem_append_right _ iQ))).1;obtain ⟨ads,h1,h2,h3,h4⟩:=ih q (fun y hy=>lB y (by simp [hy])) hq (fun b off hm=>hN b off (List.mem_append_right _ hm)) (List.Nodup.sublist (List.sublist_append_right _ _) jz);refine ⟨a0 :: ads,by simp [h1],?_,?_,?_⟩
  ·intro k hk
   cases k with
   |zero=>simpa using World.var?_cell ka hv 0
   |succ k=>simpa using h2 k (by simpa using hk)
  ·intro a ha
   rcases List.mem_cons.1 ha with rfl | ha
   ·exact ⟨List.mem_append_left _ (List.mem_append_right _ iQ),c0,t0,hb0⟩
   ·exact ⟨List.mem_append_right _ (h3 a ha).1,(h3 a ha).2⟩
  ·refine List.nodup_cons.2 ⟨fun ha=>?_,h4⟩;have hm:=(h3 a0 ha).1;have lw:=(List.nodup_append.1 jz).2.2;exact lw _ (List.mem_append_right _ iQ) _ hm rfl
def sentList : List (String × List UInt8 × Nat) := [("linotype/api.ErrScalar", [115, 99, 97, 108, 97, 114], 0), ("linotype/api.ErrForm", [102, 111, 114, 109], 1), ("linotype/api.ErrRange", [114, 97, 110, 103, 101], 2),
 ("linotype/api.ErrLong", [108, 111, 110, 103], 3), ("linotype/api.ErrKind", [107, 105, 110, 100], 4), ("linotype/api.ErrWord", [119, 111, 114, 100], 5), ("linotype/api.ErrFull", [102, 117, 108, 108], 6), ("linotype/api.ErrNone", [110, 111, 110, 101], 7)]
theorem esRow : ∀ u, Tryd.prog.typeName? 3 u = some "*errors.errorString" → u = 163 := typeName_ptr_named (nm := "errors.errorString") (by kernel_rfl) (by kernel_rfl) (by decide)
theorem sents_of_laid{W:World}(h:laidMet Tryd.prog (sentList.map fun x=>(x.1,sentD x.2.1)) W):∃ sa,Sents W sa:=by
 obtain ⟨ps,hv,jz,hN⟩:=h;obtain ⟨ads,h1,h2,h3,h4⟩:=laidVars_sents Tryd.underlying36 esRow Tryd.underlying163 Tryd.underlying185 rfl rfl Tryd.underlying9 (by kernel_rfl) (by kernel_rfl) sentList ps
  (by intro x hx;simp only [sentList,List.mem_cons,List.not_mem_nil,or_false] at hx;rcases hx with rfl | rfl | rfl | rfl | rfl | rfl | rfl | rfl <;> exact ⟨by kernel_rfl,by kernel_rfl⟩) hv hN jz
 have hl:ads.length=8:=h1;refine ⟨fun k=>ads.getD k default,⟨?_,?_,?_⟩⟩
 ·intro k hk;have:=h2 k hk;rw [show glob k = (sentList.getD k ("", [], 0)).2.2 from by
   match k,hk with
   | 0,_ | 1,_ | 2,_ | 3,_ | 4,_ | 5,_ | 6,_ | 7,_=>rfl]
  exact this
 ·intro k hk;exact (h3 _ (by simp [List.getD,List.getElem?_eq_getElem (show k<ads.length by omega)])).2
 ·intro i j hi hj hne he;refine hne ?_;have e1:ads.getD i default=ads[i]'(by omega):=by simp [List.getD,List.getElem?_eq_getElem (show i<ads.length by omega)]
  have e2:ads.getD j default=ads[j]'(by omega):=by simp [List.getD,List.getElem?_eq_getElem (show j<ads.length by omega)]
  rw [e1,e2] at he;exact (List.getElem_inj h4).1 he
end Go.Proofs.YthdphijabffpiaaDoor
