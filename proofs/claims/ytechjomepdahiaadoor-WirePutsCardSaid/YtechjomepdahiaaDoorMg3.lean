import Derived.Test.YtechjomepdahiaaDoorZ0
import Derived.Test.YtechjomepdahiaaDoorMg2
import Derived.Test.YtechjomepdahiaaDoorScalarR
import Derived.Lib.MinMax
import Derived.Test.YtechjomepdahiaaDoorCellC
import Derived.Test.YtechjomepdahiaaDoorMg1
import Derived.Test.YtechjomepdahiaaDoorErrS
set_option maxRecDepth 100000
set_option linter.unusedVariables false
set_option linter.unusedSimpArgs false
set_option maxHeartbeats 400000
namespace Go.Proofs.YtechjomepdahiaaDoor
open Go.RowKit Go.ChangeShapes Go.WideShapes
theorem jz(C:List Value)(h0:0<C.length)(n:Nat):(madeCells C.toArray (n * C.length)).toList=(List.replicate n C).flatten:=by
 apply List.ext_getElem?
 intro i;have na:∀ D ∈ List.replicate n C,D.length=C.length:=fun D hD=>by rw [(List.mem_replicate.1 hD).2]
 by_cases hi:i<n * C.length
 ·have hd:i / C.length<n:=(Nat.div_lt_iff_lt_mul h0).2 hi;have hm:i % C.length<C.length:=Nat.mod_lt _ h0;have:=cP na (i / C.length) (i % C.length) (by simpa using hd) hm;rw [show i / C.length * C.length+i % C.length=i by rw [Nat.mul_comm];exact Nat.div_add_mod i C.length] at this;rw [this]
  simp [madeCells,hi,List.getD,hd,List.getElem?_replicate,List.getElem?_eq_getElem hm]
 ·rw [List.getElem?_eq_none (by simp [madeCells];omega),List.getElem?_eq_none (by rw [bw na];simp;omega)]
theorem kt(Z:an)(w:World):cellE.rep Z w [.int .i64 0,.slice none 0 0] zc:=cell_rep.2 ⟨_,rfl,HeldE.nil _ _ _⟩
theorem fp{P:Program}(w:World)(t tx ty e:TypeId)(k:IntKind)(i:TypeInfo)(z:Value)(ht:P.underlying t=some (.slice e))(sn:P.underlying tx=some (.int k))(hi:P.info? e=some i)(hz:i.zero=some z)(hzs:z.cells.size=i.size)(h0:0<i.size)
  (g sLen sCap:Nat) (cur:Array Value) (hg:w.heap[g]? = some (.cells cur e (0,0))) (m:Nat) (hm:1<=m) (hmx:m<=9223372036854775807) (wW:m * i.bytes<=281474976710656)
  (h1:∀ u ∈ (Builtin.zeroCells z.cells m).toList,u.oneCell'=true) (hroom:sLen+m<=sCap) (hfit:sLen * i.size+(Builtin.zeroCells z.cells m).toList.length<=cur.size) :
  (Builtin.append_ #[t,tx] ty #[.slice (some ⟨g,0,none⟩) sLen sCap,.int .i64 (m:Int)]).run P w =
   .ok (.slice (some ⟨g,0,none⟩) (sLen+m) sCap) (w.setRow g (cur.toList.take (sLen * i.size)++(Builtin.zeroCells z.cells m).toList++cur.toList.drop (sLen * i.size+(Builtin.zeroCells z.cells m).toList.length)).toArray):=by
 have hst:=run_storeCells_at P g (sLen * i.size) e (Builtin.zeroCells z.cells m).toList 0 cur w hg (by simpa using hfit) h1;simp only [Nat.add_zero] at hst;have hw:IntKind.i64.wrap (m:Int)=(m:Int):=by rw [IntKind.wrap_i64];omega
 have qZ:¬ ((m:Int)<0):=by omega
 have hb2:¬ ((281474976710656:Int)<(m:Int) * (i.bytes:Int)):=by rw [<-Int.natCast_mul];omega
 have hne:¬ (m * i.size=0):=by have:=Nat.mul_pos (show 0<m by omega) h0;omega
 simp [Builtin.append_,run_underlying ht,run_underlying sn,sizeOf,typeInfo,zeroValue,hi,hz,asInt,asIntOf,hw,qZ,hb2,hne,hroom,Addr.add_lit,hst]
theorem dy{P:Program}(w:World)(t tx ty e:TypeId)(k:IntKind)(i:TypeInfo)(z:Value)(ht:P.underlying t=some (.slice e))(sn:P.underlying tx=some (.int k))(hi:P.info? e=some i)(hz:i.zero=some z)(h0:0<i.size)
  (base:Option Addr) (sLen sCap:Nat) (olds:List Value) (hold:(Builtin.firstCells i.size sLen (.slice base sLen sCap)).run P w.drew=.ok olds.toArray w.drew) (m:Nat) (hm:1<=m) (hmx:m<=9223372036854775807) (wW:m * i.bytes<=281474976710656)
  (hg:sCap<sLen+m) (h63:((sLen+m:Nat):Int)<=9223372036854775807) (hfit:Builtin.nextslicecap (sLen+m) sCap * i.bytes<=281474976710656) :
  (Builtin.append_ #[t,tx] ty #[.slice base sLen sCap,.int .i64 (m:Int)]).run P w =
   .ok (.slice (some ⟨w.heap.size,0,none⟩) (sLen+m) (grownCap w (sLen+m) sCap e))
    (w.drew.alloc (.cells (olds.toArray++(Builtin.zeroCells z.cells m).toList.toArray++Builtin.zeroCells z.cells (grownCap w (sLen+m) sCap e - (sLen+m))) e)):=by
 have hw:IntKind.i64.wrap (m:Int)=(m:Int):=by rw [IntKind.wrap_i64];omega
 have qZ:¬ ((m:Int)<0):=by omega
 have hb2:¬ ((281474976710656:Int)<(m:Int) * (i.bytes:Int)):=by rw [<-Int.natCast_mul];omega
 have hne:¬ (m * i.size=0):=by have:=Nat.mul_pos (show 0<m by omega) h0;omega
 have hn:¬ (sLen+m<=sCap):=by omega
 have h63':¬ (9223372036854775807<((sLen:Int)+(m:Int))):=by omega
 have h48':¬ (281474976710656<Builtin.nextslicecap (sLen+m) sCap * i.bytes):=by omega
 simp [Builtin.append_,run_underlying ht,run_underlying sn,sizeOf,typeInfo,zeroValue,hi,hz,asInt,asIntOf,hw,qZ,hb2,hne,hn,h63',h48',Question.forced,hold,newRow,grownCap]
theorem iY(C:List Value)(h0:0<C.length)(n:Nat):(Builtin.zeroCells C.toArray n).toList=(List.replicate n C).flatten:=by
 have h:=jz C h0 n;unfold madeCells at h;unfold Builtin.zeroCells;rw [List.size_toArray];exact h
theorem fe{Z:an}{w:World}{B:Nat}{v:Value}{L:List Cl}(t tx tt:TypeId)(k:IntKind)(ht:Tryd.prog.underlying t=some (.slice 85))(sn:Tryd.prog.underlying tx=some (.int k))(hv:OwnE cellE Z w B 85 v L)(m:Nat)(hm:1<=m)(hn:L.length+m<=1000000)(hB:B<=w.heap.size) :
  ∃ v' w',(Builtin.append_ #[t,tx] tt #[v,.int .i64 (m:Int)]).run Tryd.prog w=.ok v' w'/\OwnE cellE Z w' B 85 v' (L++List.replicate m zc)/\Below B w w'/\KeepZ (fun b=>v.ownBlock≠some b) w w'/\∀ b,b<w.heap.size->v.ownBlock≠some b->v'.ownBlock≠some b:=by
 obtain ⟨i0,hi,hz0,hz1,hz2⟩:=info_parts ee;obtain ⟨CS,h1,h2,h3⟩:=id hv;have hzs:(Value.agg #[.int .i64 0,.slice none 0 0]).cells.size=i0.size:=by rw [hz1];rfl
 have pp:i0.size=2:=hz1;have mD:(Builtin.zeroCells (Value.agg #[.int .i64 0,.slice none 0 0]).cells m).toList=(List.replicate m [Value.int .i64 0,.slice none 0 0]).flatten:=iY [Value.int .i64 0,.slice none 0 0] (by decide) m;have rD:(List.replicate m [Value.int .i64 0,.slice none 0 0]).flatten.length=m * 2:=by
  have:=bw (s:=2) (CS:=List.replicate m [Value.int .i64 0,.slice none 0 0]) (fun C hC=>by rw [(List.mem_replicate.1 hC).2];rfl);rw [this,List.length_replicate]
 have h1c:∀ u ∈ (List.replicate m [Value.int .i64 0,.slice none 0 0]).flatten,u.oneCell'=true:=fun u hu=>by
  obtain ⟨C,hC,hu⟩:=List.mem_flatten.1 hu;rw [(List.mem_replicate.1 hC).2] at hu
  simp at hu
  rcases hu with rfl | rfl <;> rfl
 have hlen:(CS.flatten++(List.replicate m [Value.int .i64 0,.slice none 0 0]).flatten).length=(L.length+m) * 2:=by
  rw [List.length_append,h1.1,rD,Nat.add_mul];rfl
 -- what comes of the cells
 have fin:∀ v' w',w'.ownsRow B 85 2 v' (L.length+m) (CS.flatten++(List.replicate m [Value.int .i64 0,.slice none 0 0]).flatten)->w.grownBy w' v.ownBlock->(∀ b,b<w.heap.size->v.ownBlock≠some b->v'.ownBlock≠some b) ->
   OwnE cellE Z w' B 85 v' (L++List.replicate m zc)/\Below B w w'/\KeepZ (fun b=>v.ownBlock≠some b) w w'/\∀ b,b<w.heap.size->v.ownBlock≠some b->v'.ownBlock≠some b:=by
  intro v' w' k1 k2 k3;have kz:KeepZ (fun b=>v.ownBlock≠some b) w w':=.grown k2;refine ⟨⟨CS++List.replicate m [Value.int .i64 0,.slice none 0 0],?_,by simp [h2],fun i hi=>?_⟩,(Below.refl B w).grown k2 hB fun k hk=>(hv.lt k hk).1,kz,k3⟩
  ·rw [List.flatten_append,List.length_append,List.length_replicate];exact k1
  ·rw [cD,cD,h2];simp only [List.length_append,List.length_replicate] at hi
   split
   ·rename_i hlt
    exact cellE.keep (kz.mono fun b _ hz=>hz.2) (fun b hb hz=>⟨hz.1,k3 b hb hz.2⟩) (h3 i hlt)
   ·rename_i xA
    rw [show (List.replicate m [Value.int .i64 0,.slice none 0 0]).getD (i - L.length) []=[Value.int .i64 0,.slice none 0 0] from by simp [List.getD,List.getElem?_replicate,show i - L.length<m by omega],show (List.replicate m zc).getD (i - L.length) cellE.zero=zc from by simp [List.getD,List.getElem?_replicate,show i - L.length<m by omega]];exact kt _ _
 have hby:i0.bytes=32:=hz2
 -- a new row
 have grown:∀ (old:Nat),old<L.length+m->∀ (row:Option Nat),
   (w.drew.alloc (.cells (CS.flatten.toArray++(Builtin.zeroCells (Value.agg #[.int .i64 0,.slice none 0 0]).cells m).toList.toArray++Builtin.zeroCells (Value.agg #[.int .i64 0,.slice none 0 0]).cells (grownCap w (L.length+m) old 85 - (L.length+m))) 85)).ownsRow B 85 2
    (.slice (some ⟨w.heap.size,0,none⟩) (L.length+m) (grownCap w (L.length+m) old 85)) (L.length+m) (CS.flatten++(List.replicate m [Value.int .i64 0,.slice none 0 0]).flatten) /\
   w.grownBy (w.drew.alloc (.cells (CS.flatten.toArray++(Builtin.zeroCells (Value.agg #[.int .i64 0,.slice none 0 0]).cells m).toList.toArray++Builtin.zeroCells (Value.agg #[.int .i64 0,.slice none 0 0]).cells (grownCap w (L.length+m) old 85 - (L.length+m))) 85)) row:=by
  intro old ho row;have xA:=grownCap_ge w (L.length+m) old 85;have hcm:grownCap w (L.length+m) old 85<=maxLen:=grownCap_le_maxLen w (L.length+m) old 85 (by unfold maxLen;omega);rw [mD];refine ⟨⟨hlen,.inr ⟨w.heap.size,_,_,rfl,hB,heap_alloc_new w.drew _,xA,hcm,?_,?_⟩⟩,⟨rfl,rfl,rfl,by simp,fun k hk _=>heap_alloc_old w.drew _ hk⟩⟩
  ·simp only [Array.size_append,List.size_toArray,size_zeroCells,h1.1,rD,show (Value.agg #[.int .i64 0,.slice none 0 0]).cells.size=2 from rfl,show cellE.size=2 from rfl];omega
  ·simp only [Array.toList_append,List.append_assoc];rw [<-List.append_assoc,<-hlen];exact List.take_left
 rcases id h1.2 with ⟨e1,e2⟩ | ⟨g,cap,cur,e1,hbg,hg,vc,hcm,hcs,rA⟩
 ·subst e1;have hl0:L.length=0:=e2;have hcs0:CS.flatten=[]:=List.eq_nil_of_length_eq_zero (by rw [h1.1,hl0];rfl);have hr:=dy (P:=Tryd.prog) w t tx tt 85 k i0 _ ht sn hi hz0 (by omega) none 0 0 [] (by simp [Builtin.firstCells]) m hm (by omega) (by rw [hby];omega) (by omega) (by omega) (by rw [Nat.zero_add,nextslicecap_zero (by omega),hby];omega);have hgr:=grown 0 (by omega) (Value.ownBlock (.slice none 0 0));rw [hcs0,hl0,Nat.zero_add,List.nil_append] at hgr;rw [Nat.zero_add] at hr;refine ⟨_,_,hr,fin _ _ (by rw [hcs0,hl0,Nat.zero_add,List.nil_append];exact hgr.1) hgr.2 (fun b hb _ e=>?_)⟩
  simp [Value.ownBlock] at e
  omega
 ·subst e1
  by_cases hroom:L.length+m<=cap
  ·have hcs2:cur.size=cap * 2:=hcs;have hr:=fp (P:=Tryd.prog) w t tx tt 85 k i0 _ ht sn hi hz0 hzs (by omega) g L.length cap cur hg m hm (by omega) (by rw [hby];omega) (by rw [mD];exact h1c) hroom (by rw [mD,rD,pp,hcs2,<-Nat.add_mul];exact Nat.mul_le_mul_right _ hroom);rw [mD] at hr;refine ⟨_,_,hr,fin _ _ ⟨hlen,.inr ⟨g,cap,_,rfl,hbg,setRow_heap w g cur _ 85 _ hg,hroom,hcm,?_,?_⟩⟩ ⟨rfl,rfl,rfl,by simp,fun k _ hk=>setRow_other w g k _ (fun e=>hk (by simp [Value.ownBlock,e]))⟩ (fun b _ hn=>hn)⟩
   ·simp only [List.size_toArray,List.length_append,List.length_take,List.length_drop,Array.length_toList,rD,pp,hcs2];have:(L.length+m) * 2<=cap * 2:=Nat.mul_le_mul_right _ hroom;rw [Nat.add_mul] at this;omega
   ·rw [pp,show L.length * 2=L.length * cellE.size from rfl,rA,<-hlen];exact List.take_left
  ·have hold:(Builtin.firstCells i0.size L.length (.slice (some ⟨g,0,none⟩) L.length cap)).run Tryd.prog w.drew=.ok CS.flatten.toArray w.drew :=
    run_firstCells_some (P:=Tryd.prog) w.drew i0.size L.length ⟨g,0,none⟩ L.length cap CS.flatten (by rw [h1.1,hz1]) (by simpa using h1.cells (g:=g) rfl)
   have hr:=dy (P:=Tryd.prog) w t tx tt 85 k i0 _ ht sn hi hz0 (by omega) (some ⟨g,0,none⟩) L.length cap CS.flatten hold m hm (by omega) (by rw [hby];omega) (by omega) (by omega) (growslice_fits (by omega) (by rw [hby];omega));have hgr:=grown cap (by omega) (Value.ownBlock (.slice (some ⟨g,0,none⟩) L.length cap));refine ⟨_,_,hr,fin _ _ hgr.1 hgr.2 (fun b hb _ e=>?_)⟩
   simp [Value.ownBlock] at e
   omega
theorem OwnE.some{α:Type}{E:Elem α}{Z:an}{w:World}{B:Nat}{ty:TypeId}{v:Value}{L:List α}(h:OwnE E Z w B ty v L)(hl:0<L.length):∃ g cap,v=.slice (some ⟨g,0,none⟩) L.length cap/\B<=g/\g<w.heap.size:=by
 obtain ⟨CS,h1,_⟩:=h
 rcases h1.2 with ⟨rfl,h0⟩ | ⟨g,cap,cur,rfl,hB,hg,_⟩
 ·omega
 ·exact ⟨g,cap,rfl,hB,(Array.getElem?_eq_some_iff.1 hg).1⟩
theorem OwnE.zone{α:Type}{E:Elem α}{Z Y:an}{w:World}{B:Nat}{ty:TypeId}{v:Value}{L:List α}(h:OwnE E Z w B ty v L)(hy:∀ b,b<w.heap.size->Z b->Y b):OwnE E Y w B ty v L:=h.keep (.refl _ _) hy
section
def RowAt(Z:an)(w:World)(B g gc:Nat)(L:List Cl)(wrap:Bool):Prop :=
 ∃ cap,Has w g [.slice (some ⟨gc,0,none⟩) L.length cap,.bool wrap] 149/\B<=g/\gc≠g/\OwnE cellE (fun b=>Z b/\b≠g) w B 85 (.slice (some ⟨gc,0,none⟩) L.length cap) L/\0<L.length/\L.length<=1024/\aI L=true
section
variable {Z Y S : an} {w w' : World} {B g gc : Nat} {L : List Cl} {wrap : Bool}
theorem RowAt.lt(h:RowAt Z w B g gc L wrap):g<w.heap.size/\gc<w.heap.size/\B<=gc/\B<=g:=by
 obtain ⟨cap,h1,h2,h3,h4,h5,_⟩:=h;exact ⟨h1.lt,(h4.lt gc rfl).2,(h4.lt gc rfl).1,h2⟩
theorem RowAt.keep(h:RowAt Z w B g gc L wrap)(hk:KeepZ (fun b=>Z b\/b=g\/b=gc) w w')(hy:∀ b,b<w.heap.size->Z b->Y b):RowAt Y w' B g gc L wrap:=by
 obtain ⟨cap,h1,h2,h3,h4,h5⟩:=h;refine ⟨cap,hk.has h1 (.inr (.inl rfl)),h2,h3,h4.keep (hk.mono fun b _ hz=>?_) (fun b hb hz=>⟨hy b hb hz.1,hz.2⟩),h5⟩
 rcases hz with hz | hz
 ·exact .inl hz.1
 ·exact .inr (.inr (by simpa [Value.ownBlock] using hz.symm))
theorem RowAt.below(h:RowAt Z w B g gc L wrap)(hb:Below w.heap.size w w'):RowAt Z w' B g gc L wrap:=h.keep (.all hb _) fun _ _ h=>h
theorem RowAt.upd(h:RowAt Z w B g gc L wrap)(hu:Upd S w w')(hz:∀ b,Z b->¬ S b)(hg:¬ S g)(hgc:¬ S gc):RowAt Z w' B g gc L wrap :=
 h.keep (hu.keep.mono fun b _ hb=>by rcases hb with hb | rfl | rfl;exact hz b hb;exact hg;exact hgc) fun _ _ h=>h
theorem RowAt.base(h:RowAt Z w B g gc L wrap){B':Nat}(hb:B'<=B):RowAt Z w B' g gc L wrap:=by
 obtain ⟨cap,h1,h2,h3,h4,h5⟩:=h;exact ⟨cap,h1,by omega,h3,h4.base hb,h5⟩
theorem RowAt.len(h:RowAt Z w B g gc L wrap):0<L.length/\L.length<=1024/\aI L=true:=by
 obtain ⟨cap,_,_,_,_,h5⟩:=h;exact h5
theorem RowAt.held(h:RowAt Z w B g gc L wrap):∃ cap,Has w g [.slice (some ⟨gc,0,none⟩) L.length cap,.bool wrap] 149/\HeldE cellE (fun b=>True) w (.slice (some ⟨gc,0,none⟩) L.length cap) L:=by
 obtain ⟨cap,h1,h2,h3,h4,h5⟩:=h;exact ⟨cap,h1,(h4.zone (Y:=fun _=>True) (fun _ _ _=>trivial)).held fun _ _ _=>trivial⟩
end
end
section
section
variable (sa : Nat → Addr) (Y : an) (L : List Cl) (v : Value) (w : World)
end
end
end Go.Proofs.YtechjomepdahiaaDoor
