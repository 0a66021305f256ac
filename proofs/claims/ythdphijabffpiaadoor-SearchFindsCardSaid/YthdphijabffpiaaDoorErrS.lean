import Derived.Test.YthdphijabffpiaaDoorZ0
import Derived.Test.YthdphijabffpiaaDoorProg
import Derived.Test.YthdphijabffpiaaDoorMg1
import Derived.Test.YthdphijabffpiaaDoorRows
import Derived.Handy
import Derived.LaidEql
import Derived.LaidHandle
import Derived.LaidMore
import Derived.Stop.Asserts
import Derived.Stop.LaidErr
import Derived.RowKitTokens
import Derived.Deep.LoopGhost
import Derived.Deep.RegionWith
set_option maxRecDepth 100000
set_option linter.unusedVariables false
set_option linter.unusedSimpArgs false
set_option maxHeartbeats 400000
namespace Go.Proofs.YthdphijabffpiaaDoor
open Go.RowKit Go.ChangeShapes Go.WideShapes
open Go.Extern.Stop Go.Stop Go.Extern
def glob:Nat->Nat
 | 0=>0 | 1=>1 | 2=>2 | 3=>3
 | 4=>4 | 5=>5 | 6=>6 | _=>7
structure Sents (w:World) (sa:Nat->Addr):Prop where
 cell:∀ k,k<8->w.cell? ⟨glob k,0,none⟩=some (.iface 163 (.pointer (some (sa k))))
 row:∀ k,k<8->∃ c t,w.heap[(sa k).block]? = some (.cells c t (0,0))
 ne:∀ i j,i<8->j<8->i≠j->sa i≠sa j
theorem Sents.below{w w':World}{sa:Nat->Addr}(h:Sents w sa)(hb:Below w.heap.size w w'):Sents w' sa where
 cell k hk:=by
  have:=h.cell k hk;exact (hb.cell (p:=⟨glob k,0,none⟩) (World.block_lt_of_cell? _ _ this)).trans this
 row k hk:=by
  obtain ⟨c,t,hr⟩:=h.row k hk;exact ⟨c,t,(hb.block _ (Array.getElem?_eq_some_iff.1 hr).1).trans hr⟩
 ne:=h.ne
def sentD (t : List UInt8) : DataW Unit := .iface "*errors.errorString" (.ptr (.agg [.lit (.string t)]))
theorem laidVars_sents{P:Program}{W:World}{ti tp te ts:TypeId}{ms:Array (String × TypeId)}{f:Field}
  (hi : P.underlying ti = some (.interface ms)) (hrow : ∀ u, P.typeName? 3 u = some "*errors.errorString" → u = tp)
  (hp:P.underlying tp=some (.pointer te)) (he:P.underlying te=some (.struct #[f])) (nP:f.type=ts) (nX:f.offset=0) (hs:P.underlying ts=some .string) (hc:P.cellsOf te=1) (hcs:P.cellsOf ts=1) :
  ∀ (l:List (String × List UInt8 × Nat)) (ps:List MemPlace),(∀ x ∈ l,P.globalNamed x.1=some x.2.2/\(P.globals[x.2.2]?).map (·.type)=some ti) ->
   DataW.LaidVars P W (l.map fun x=>(x.1,sentD x.2.1)) ps ->
   (∀ b off,MemPlace.cell b off ∈ ps->(∃ c t,W.heap[b]? = some (.cells c t (0,0)))/\∀ u v,W.cell? ⟨b,off,none⟩=some (.iface u v)->Value.okWide P W .any 0 u v)->ps.Nodup ->
   ∃ ads : List Addr, ads.length = l.length ∧ (∀ k, k < l.length → W.cell? ⟨(l.getD k ("", [], 0)).2.2, 0, none⟩ = some (.iface tp (.pointer (some (ads.getD k default))))) ∧
    (∀ a ∈ ads,MemPlace.cell a.block a.off ∈ ps/\∃ c t,W.heap[a.block]? = some (.cells c t (0,0)))/\ads.Nodup:=by
 intro l
 induction l with
 |nil=>intro ps _ _ _ _;exact ⟨[],rfl,fun k hk=>by simp at hk,fun a ha=>by simp at ha,List.nodup_nil⟩
 |cons x l ih =>
  intro ps mi h gZ jN;obtain ⟨n,tx,g⟩:=x;obtain ⟨g',t',cs,fuel,p,q,jd,n8,hv,hd,hq,rfl⟩:=h;obtain ⟨hg,ht⟩:=mi (n,tx,g) (by simp);obtain rfl:=Option.some.inj (hg.symm.trans jd);obtain rfl:=Option.some.inj (ht.symm.trans n8);obtain ⟨l0⟩:=cs;have ok0:∀ u v,l0=[.iface u v]->Value.okWide P W .any 0 u v:=fun u v e=>by
   subst e;exact (gZ g 0 (by simp [MemPlace.row])).2 u v (by simpa using World.var?_cell jd hv 0)
  obtain ⟨a0,s0,rfl,hc0,hs0,hz0,rfl⟩:=errorString_of_trod hi hrow hp he nP nX hs hc hcs hd ok0;have hO:MemPlace.cell a0.block a0.off ∈ MemPlace.row a0 1:=by simp [MemPlace.row]
  obtain ⟨c0,t0,hb0⟩:=(gZ a0.block a0.off (List.mem_append_left _ (List.mem_append_right _ hO))).1;obtain ⟨ads,h1,h2,h3,h4⟩:=ih q (fun y hy=>mi y (by simp [hy])) hq (fun b off hm=>gZ b off (List.mem_append_right _ hm)) (List.Nodup.sublist (List.sublist_append_right _ _) jN);refine ⟨a0 :: ads,by simp [h1],?_,?_,?_⟩
  ·intro k hk
   cases k with
   |zero=>simpa using World.var?_cell jd hv 0
   |succ k=>simpa using h2 k (by simpa using hk)
  ·intro a ha
   rcases List.mem_cons.1 ha with rfl | ha
   ·exact ⟨List.mem_append_left _ (List.mem_append_right _ hO),c0,t0,hb0⟩
   ·exact ⟨List.mem_append_right _ (h3 a ha).1,(h3 a ha).2⟩
  ·refine List.nodup_cons.2 ⟨fun ha=>?_,h4⟩;have hm:=(h3 a0 ha).1;have ny:=(List.nodup_append.1 jN).2.2;exact ny _ (List.mem_append_right _ hO) _ hm rfl
theorem esRow : ∀ u, Tryd.prog.typeName? 3 u = some "*errors.errorString" → u = 163 := typeName_ptr_named (nm := "errors.errorString") (by kernel_rfl) (by kernel_rfl) (by decide)
end Go.Proofs.YthdphijabffpiaaDoor
