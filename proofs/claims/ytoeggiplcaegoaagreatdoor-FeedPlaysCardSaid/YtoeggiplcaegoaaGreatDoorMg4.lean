import Derived.Test.YtoeggiplcaegoaaGreatDoorZ0
import Derived.Test.YtoeggiplcaegoaaGreatDoorErfA
import Derived.Test.YtoeggiplcaegoaaGreatDoorRows
import Derived.LaidMore
import Derived.Test.YtoeggiplcaegoaaGreatDoorErrS
import Derived.Test.YtoeggiplcaegoaaGreatDoorMg3
import Derived.Test.YtoeggiplcaegoaaGreatDoorMg1
import Derived.Test.YtoeggiplcaegoaaGreatDoorMg2
import Derived.Test.YtoeggiplcaegoaaGreatDoorRowQ
import Derived.Lib.MinMax
import Derived.Deep.Cut
import Derived.Test.YtoeggiplcaegoaaGreatDoorRowR
import Derived.Test.YtoeggiplcaegoaaGreatDoorCellP
import Derived.Lib.AppendZeros
import Derived.Test.YtoeggiplcaegoaaGreatDoorSegR
import Derived.Test.YtoeggiplcaegoaaGreatDoorHgR
import Derived.Test.YtoeggiplcaegoaaGreatDoorUallP
import Derived.Laws.StructEq
import Derived.Sort.CutIn
set_option maxRecDepth 100000
set_option linter.unusedVariables false
set_option linter.unusedSimpArgs false
set_option maxHeartbeats 6000000
namespace Go.Proofs.YtoeggiplcaegoaaGreatDoor.F
open Go.RowKit
theorem Handle.keep{w w':World}(h:Handle w)(hb:Below w.heap.size w w'):Handle w':=(hb.cell (p:=⟨8,0,none⟩) (World.block_lt_of_cell? _ _ h)).trans h
end Go.Proofs.YtoeggiplcaegoaaGreatDoor.F
namespace Go.Proofs.YtoeggiplcaegoaaGreatDoor.F
open Go.RowKit Go.ChangeShapes
end Go.Proofs.YtoeggiplcaegoaaGreatDoor.F
namespace Go.Proofs.YtoeggiplcaegoaaGreatDoor
open Go.RowKit Go.ChangeShapes Go.WideShapes
section
variable {Yo : an}
abbrev Ln:=List Cl × Bool
abbrev zl:Ln:=([],false)
def lineE:Elem Ln:=prE yT zn
theorem line_rep{Z:an}{w:World}{C:List Value}{x:Ln}:lineE.rep Z w C x↔∃ v,C=[v,.bool x.2]/\HeldE cellE Z w v x.1:=by
 constructor
 ·rintro ⟨C1,C2,rfl,⟨v,rfl,h⟩,rfl⟩;exact ⟨v,rfl,h⟩
 ·rintro ⟨v,rfl,h⟩;exact ⟨[v],[_],rfl,⟨v,rfl,h⟩,rfl⟩
theorem fj{Z:an}{w:World}{ao:Option Addr}{n cap:Nat}{L:List Ln}(h:HeldE lineE Z w (.slice ao n cap) L):n=L.length/\n<=cap/\∀ i,i<L.length->∃ b off v,ao=some ⟨b,off,none⟩/\b<w.heap.size/\Z b /\
  w.cell? ⟨b,off+i * 2,none⟩=some v/\w.cell? ⟨b,off+i * 2+1,none⟩=some (.bool (L.getD i zl).2)/\HeldE cellE Z w v (L.getD i zl).1:=by
 obtain ⟨h1,h2,h3⟩:=h.spots;refine ⟨h1,h2,fun i hi=>?_⟩;obtain ⟨b,off,rfl,hb,hz,C,hC,hr⟩:=h3 i hi;obtain ⟨v,rfl,ht⟩:=line_rep.1 hr;exact ⟨b,off,v,rfl,hb,hz,hC 0 (by decide),hC 1 (by decide),ht⟩
theorem bS:(Tryz.prog.info? 104).map (fun i=>(i.zero,i.size,i.bytes))=some (some (.agg #[.slice none 0 0,.bool false]),lineE.size,32):=by kernel_rfl
def cL(x:Option Nat):Value:=.pointer (x.map fun g=>⟨g,0,none⟩)
def ptrE:Elem (Option Nat) where
 size:=1
 zero:=none
 rep:=fun _ _ C x=>C=[cL x]
 len:=by rintro _ _ _ _ rfl;rfl
 one:=by
  rintro _ _ _ _ rfl u hu
  simp at hu
  subst hu;rfl
 keep:=fun _ _ h=>h
theorem fQ:(Tryz.prog.info? 113).map (fun i=>(i.zero,i.size,i.bytes))=some (some (.pointer none),ptrE.size,8):=by kernel_rfl
theorem lH:∀ xs:List (Option Nat),(xs.map fun x=>[cL x]).flatten=xs.map cL
 | []=>rfl
 | x :: xs=>by rw [List.map_cons,List.flatten_cons,lH xs];rfl
theorem di{Z:an}{w:World}{B n:Nat}{ty:TypeId}{v:Value}{xs:List (Option Nat)}(h:w.ownsRow B ty 1 v n (xs.map cL)):OwnE ptrE Z w B ty v xs:=by
 have hn:xs.length=n:=by have:=h.1;simpa using this
 subst hn;refine ⟨xs.map fun x=>[cL x],?_,by simp,fun i hi=>?_⟩
 ·rw [lH];exact h
 ·show _=_
  simp [List.getD,List.getElem?_eq_getElem hi]
theorem OwnE.ptrs{Z:an}{w:World}{B:Nat}{ty:TypeId}{v:Value}{xs:List (Option Nat)}(h:OwnE ptrE Z w B ty v xs):w.ownsRow B ty 1 v xs.length (xs.map cL):=by
 obtain ⟨CS,h1,h2,h3⟩:=h;have e:CS.flatten=xs.map cL:=by
  apply List.ext_getElem?
  intro i;have EQ:∀ C ∈ CS,C.length=1:=fI h2 h3
  by_cases hi:i<xs.length
  ·have:=fX EQ i 0 (by omega) (by omega);rw [Nat.mul_one,Nat.add_zero] at this;rw [this,show CS.getD i []=[cL (xs.getD i none)] from h3 i hi]
   simp [List.getD,List.getElem?_eq_getElem hi]
  ·rw [List.getElem?_eq_none (by rw [eq EQ];omega),List.getElem?_eq_none (by simp;omega)]
 rw [<-e];exact h1
theorem OwnE.zoneP{Z Y:an}{w:World}{B:Nat}{ty:TypeId}{v:Value}{xs:List (Option Nat)}(h:OwnE ptrE Z w B ty v xs):OwnE ptrE Y w B ty v xs:=di h.ptrs
theorem rT{Z:an}{w:World}{B g n cap:Nat}{ty:TypeId}{xs:List (Option Nat)}(h:OwnE ptrE Z w B ty (.slice (some ⟨g,0,none⟩) n cap) xs):n=xs.length:=by
 rcases h.ptrs.2 with ⟨e,_⟩ | ⟨g',cap',cur,e,_⟩
 ·cases e
 ·simp only [Value.slice.injEq] at e;exact e.2.1
theorem jq{Z:an}{w:World}{B g n cap:Nat}{ty:TypeId}{xs:List (Option Nat)}(h:OwnE ptrE Z w B ty (.slice (some ⟨g,0,none⟩) n cap) xs)(i:Nat)(hi:i<xs.length):w.cell? ⟨g,i,none⟩=some (cL (xs.getD i none))/\w.frozen? ⟨g,i,none⟩=false:=by
 have hr:=h.ptrs;obtain rfl:=rT h;refine ⟨?_,hr.frozenAt i⟩;rw [hr.cellAt i (by omega)]
 simp [List.getD,List.getElem?_eq_getElem hi]
theorem om{Z:an}{w:World}{B g n cap:Nat}{ty:TypeId}{xs:List (Option Nat)}(h:OwnE ptrE Z w B ty (.slice (some ⟨g,0,none⟩) n cap) xs)(i:Nat)(_:i<xs.length)(x:Option Nat):OwnE ptrE Z (w.setCell ⟨g,i,none⟩ (cL x)) B ty (.slice (some ⟨g,0,none⟩) n cap) (xs.set i x):=by
 have hr:=h.ptrs;obtain rfl:=rT h;have hst:=(hr.stored i (cL x)).1;rw [<-List.map_set] at hst;exact di hst
structure Rw where
 g:Nat
 gc:Nat
 L:List Cl
 wrap:Bool
def r0:Rw:=⟨0,0,[],false⟩
def aQ(r:Rw):Ln:=(r.L,r.wrap)
def ptrs(Rs:List Rw):List (Option Nat):=Rs.map fun r=>some r.g
theorem bn(Rs:List Rw):(ptrs Rs).length=Rs.length:=by simp [ptrs]
theorem gm(Rs:List Rw)(i:Nat)(h:i<Rs.length):(ptrs Rs).getD i none=some (Rs.getD i r0).g:=by simp [ptrs,List.getD,List.getElem?_eq_getElem h]
theorem RowAt.tight{Z:an}{w:World}{B g gc:Nat}{L:List Cl}{wrap:Bool}(h:RowAt Z w B g gc L wrap):RowAt (fun b=>Z b/\b<w.heap.size/\b≠g/\b≠gc) w B g gc L wrap:=by
 obtain ⟨cap,h1,h2,h3,⟨CS,k1,k2,k3⟩,h5⟩:=h;exact ⟨cap,h1,h2,h3,⟨CS,k1,k2,fun i hi=>cellE.keep (.refl _ _) (fun b hb hz=>⟨⟨⟨hz.1.1,hb,hz.1.2,fun e=>hz.2 (by subst e;rfl)⟩,hz.1.2⟩,hz.2⟩) (k3 i hi)⟩,h5⟩
theorem RowAt.types{Z:an}{w:World}{B g gc:Nat}{L:List Cl}{wrap:Bool}(h:RowAt Z w B g gc L wrap):(∃ C,w.heap[g]? = some (.cells C 187 (0,0)))/\∃ C,w.heap[gc]? = some (.cells C 147 (0,0)):=by
 obtain ⟨cap,h1,h2,h3,⟨CS,⟨_,k1⟩,k2,k3⟩,h5,_⟩:=h;refine ⟨⟨_,h1⟩,?_⟩
 rcases k1 with ⟨e,_⟩ | ⟨g',cap',cur,e,_,hg,_⟩
 ·cases e
 ·simp only [Value.slice.injEq,Option.some.injEq,Addr.mk.injEq] at e;obtain ⟨⟨rfl,_⟩,_⟩:=e;exact ⟨cur,hg⟩
structure RowsAt (Z:an) (w:World) (B:Nat) (Rs:List Rw):Prop where
 row:∀ i,i<Rs.length->RowAt Z w B (Rs.getD i r0).g (Rs.getD i r0).gc (Rs.getD i r0).L (Rs.getD i r0).wrap
 out:∀ i,i<Rs.length->¬ Z (Rs.getD i r0).g/\¬ Z (Rs.getD i r0).gc
 apart:∀ i j,i<Rs.length->j<Rs.length->i≠j->(Rs.getD i r0).g≠(Rs.getD j r0).g/\(Rs.getD i r0).gc≠(Rs.getD j r0).gc
section
variable {Z Y S : an} {w w' : World} {B : Nat} {Rs : List Rw}
theorem RowsAt.nil(Z:an)(w:World)(B:Nat):RowsAt Z w B []:=⟨fun i hi=>absurd hi (Nat.not_lt_zero _),fun i hi=>absurd hi (Nat.not_lt_zero _),fun i j hi=>absurd hi (Nat.not_lt_zero _)⟩
theorem RowsAt.cross(h:RowsAt Z w B Rs)(i j:Nat)(hi:i<Rs.length)(hj:j<Rs.length):(Rs.getD i r0).g≠(Rs.getD j r0).gc:=by
 intro e;obtain ⟨⟨C,h1⟩,_⟩:=(h.row i hi).types;obtain ⟨_,D,h2⟩:=(h.row j hj).types;rw [e,h2] at h1;simp only [Option.some.injEq,Obj.cells.injEq] at h1;exact absurd h1.2.1 (by decide)
theorem RowsAt.upd(h:RowsAt Z w B Rs)(hu:Upd S w w')(hz:∀ b,Z b->¬ S b)(hs:∀ i,i<Rs.length->¬ S (Rs.getD i r0).g/\¬ S (Rs.getD i r0).gc):RowsAt Z w' B Rs :=
 ⟨fun i hi=>(h.row i hi).upd hu hz (hs i hi).1 (hs i hi).2,h.out,h.apart⟩
theorem RowsAt.below(h:RowsAt Z w B Rs)(hb:Below w.heap.size w w'):RowsAt Z w' B Rs:=⟨fun i hi=>(h.row i hi).below hb,h.out,h.apart⟩
theorem RowsAt.lt(h:RowsAt Z w B Rs):∀ i,i<Rs.length->(Rs.getD i r0).g<w.heap.size/\(Rs.getD i r0).gc<w.heap.size/\B<=(Rs.getD i r0).gc/\B<=(Rs.getD i r0).g:=fun i hi=>(h.row i hi).lt
theorem RowsAt.snoc(h:RowsAt Z w B Rs)(hz:∀ b,Z b->b<w.heap.size){g gc B':Nat}{L:List Cl}{wrap:Bool}(hB:B<=B')(hB':w.heap.size<=B')(hr:RowAt (fun b=>w.heap.size<=b) w' B' g gc L wrap)(hb:Below w.heap.size w w') :
  RowsAt (fun b=>Z b\/(w.heap.size<=b/\b<w'.heap.size/\b≠g/\b≠gc)) w' B (Rs++[⟨g,gc,L,wrap⟩]):=by
 have hlt:=hr.lt;have hat:∀ i,i<(Rs++[(⟨g,gc,L,wrap⟩ : Rw)]).length->(i<Rs.length/\(Rs++[(⟨g,gc,L,wrap⟩ : Rw)]).getD i r0=Rs.getD i r0)\/(i=Rs.length/\(Rs++[(⟨g,gc,L,wrap⟩ : Rw)]).getD i r0=⟨g,gc,L,wrap⟩):=fun i hi=>by
  rw [bU];rw [List.length_append,List.length_singleton] at hi
  by_cases e:i<Rs.length
  ·exact .inl ⟨e,if_pos e⟩
  ·have:i=Rs.length:=by omega
   subst this;exact .inr ⟨rfl,by rw [if_neg e,Nat.sub_self];rfl⟩
 refine ⟨fun i hi=>?_,fun i hi=>?_,fun i j hi hj Mq=>?_⟩
 ·rcases hat i hi with ⟨hl,e⟩ | ⟨_,e⟩
  ·rw [e];exact ((h.row i hl).below hb).keep (.refl _ _) fun b _ hz=>.inl hz
  ·rw [e];exact (hr.tight.base hB).keep (.refl _ _) fun b _ hz=>.inr hz
 ·rcases hat i hi with ⟨hl,e⟩ | ⟨_,e⟩
  ·rw [e];have:=h.lt i hl;have:=h.out i hl;exact ⟨fun hz=>by rcases hz with hz | hz;exact this.1 hz;omega,fun hz=>by rcases hz with hz | hz;exact this.2 hz;omega⟩
  ·rw [e];exact ⟨fun hzz=>by rcases hzz with hzz | hzz;have:=hz _ hzz;simp only at this;omega;exact hzz.2.2.1 rfl,fun hzz=>by rcases hzz with hzz | hzz;have:=hz _ hzz;simp only at this;omega;exact hzz.2.2.2 rfl⟩
 ·rcases hat i hi with ⟨hl,e⟩ | ⟨hl,e⟩ <;> rcases hat j hj with ⟨hl',e'⟩ | ⟨hl',e'⟩ <;> rw [e,e']
  ·exact h.apart i j hl hl' Mq
  ·have:=h.lt i hl;exact ⟨by simp only;omega,by simp only;omega⟩
  ·have:=h.lt j hl';exact ⟨by simp only;omega,by simp only;omega⟩
  ·omega
end
def GridY(Yo:an)(w:World)(B gg gr wd:Nat)(Rs:List Rw):Prop :=
 ∃ (Z:an) (cap:Nat),(∀ b,Z b->B<=b/\b<w.heap.size)/\Has w gg [.int .i64 wd,.slice (some ⟨gr,0,none⟩) Rs.length cap] 119/\B<=gg/\OwnE ptrE (fun _=>True) w B 113 (.slice (some ⟨gr,0,none⟩) Rs.length cap) (ptrs Rs)/\¬ Z gg/\¬ Z gr/\RowsAt Z w B Rs/\(∀ i,i<Rs.length->(Rs.getD i r0).L.length=wd)/\0<Rs.length/\Rs.length<=1024/\∀ b,(Z b\/w.heap.size<=b)->Yo b
abbrev lI(w:World)(B gg gr wd:Nat)(Rs:List Rw):Prop:=GridY (fun _=>True) w B gg gr wd Rs
section
variable {S : an} {w w' : World} {B gg gr wd : Nat} {Rs : List Rw}
theorem GridY.lt(h:GridY Yo w B gg gr wd Rs):B<=gg/\gg<w.heap.size/\B<=gr/\gr<w.heap.size/\gg≠gr/\∀ i,i<Rs.length->(Rs.getD i r0).g<w.heap.size/\(Rs.getD i r0).gc<w.heap.size/\B<=(Rs.getD i r0).gc/\B<=(Rs.getD i r0).g:=by
 obtain ⟨Z,cap,h1,h2,h3,h4,h5,h6,h7,h8⟩:=h;refine ⟨h3,h2.lt,(h4.lt gr rfl).1,(h4.lt gr rfl).2,fun e=>?_,h7.lt⟩;obtain ⟨_,k⟩:=h4.ptrs
 rcases k with ⟨e',_⟩ | ⟨g',cap',cur,e',_,hg,_⟩
 ·cases e'
 ·simp only [Value.slice.injEq,Option.some.injEq,Addr.mk.injEq] at e';obtain ⟨⟨rfl,_⟩,_⟩:=e';rw [<-e] at hg;unfold Has at h2;rw [h2] at hg;simp only [Option.some.injEq,Obj.cells.injEq] at hg;exact absurd hg.2.1 (by decide)
theorem GridY.keep(h:GridY Yo w B gg gr wd Rs)(hu:Upd S w w')(hs:∀ b,B<=b->b<w.heap.size->¬ S b):GridY Yo w' B gg gr wd Rs:=by
 have hlt:=h.lt;obtain ⟨Z,cap,h1,h2,h3,h4,h5,h6,h7,h8,h9,h10,hY⟩:=h;have hk:=hu.keep;refine ⟨Z,cap,fun b hb=>⟨(h1 b hb).1,Nat.lt_of_lt_of_le (h1 b hb).2 hu.size⟩,hk.has h2 (hs _ hlt.1 hlt.2.1),h3,?_,h5,h6,h7.upd hu (fun b hz=>hs b (h1 b hz).1 (h1 b hz).2) (fun i hi=>⟨hs _ (hlt.2.2.2.2.2 i hi).2.2.2 (hlt.2.2.2.2.2 i hi).1,hs _ (hlt.2.2.2.2.2 i hi).2.2.1 (hlt.2.2.2.2.2 i hi).2.1⟩),h8,h9,h10,fun b hb=>hY b (hb.imp id (Nat.le_trans hu.size))⟩;exact di (hk.own h4.ptrs fun b hb=>by
  have:gr=b:=by simpa [Value.ownBlock] using hb
  subst this;exact hs _ hlt.2.2.1 hlt.2.2.2.1)
theorem GridY.below(h:GridY Yo w B gg gr wd Rs)(hb:Below w.heap.size w w'):GridY Yo w' B gg gr wd Rs:=h.keep (S:=fun b=>w.heap.size<=b) (.ofBelow hb) fun b _ h1 h2=>by omega
theorem GridY.row(h:GridY Yo w B gg gr wd Rs){i:Nat}(hi:i<Rs.length):RowAt (fun _=>True) w B (Rs.getD i r0).g (Rs.getD i r0).gc (Rs.getD i r0).L (Rs.getD i r0).wrap:=by
 obtain ⟨Z,cap,h1,h2,h3,h4,h5,h6,h7,h8⟩:=h;exact (h7.row i hi).keep (.refl _ _) fun _ _ _=>trivial
theorem GridY.sizes(h:GridY Yo w B gg gr wd Rs):0<Rs.length/\Rs.length<=1024/\0<wd/\wd<=1024/\∀ i,i<Rs.length->(Rs.getD i r0).L.length=wd:=by
 obtain ⟨Z,cap,h1,h2,h3,h4,h5,h6,h7,h8,h9,h10⟩:=h;obtain ⟨k1,k2,_⟩:=(h7.row 0 h9).len;rw [h8 0 h9] at k1 k2;exact ⟨h9,h10.1,k1,k2,h8⟩
theorem GridY.any(h:GridY Yo w B gg gr wd Rs):lI w B gg gr wd Rs:=by
 obtain ⟨Z,cap,h1,h2,h3,h4,h5,h6,h7,h8,h9,h10,hY⟩:=h;exact ⟨Z,cap,h1,h2,h3,h4,h5,h6,h7,h8,h9,h10,fun _ _=>trivial⟩
theorem GridY.new(h:GridY Yo w B gg gr wd Rs)(o:Obj):GridY (fun b=>b≠w.heap.size) (w.alloc o) B gg gr wd Rs:=by
 have hb:=zI w o;have hlt:=h.lt;obtain ⟨Z,cap,h1,h2,h3,h4,h5,h6,h7,h8,h9,h10,hY⟩:=h.below hb;obtain ⟨Z',cap',k1,k2,k3,k4,k5,k6,k7,k8,k9,k10,kY⟩:=h;have hs:(w.alloc o).heap.size=w.heap.size+1:=by simp
 refine ⟨Z',cap',fun b hz=>⟨(k1 b hz).1,by have:=(k1 b hz).2;omega⟩,k2.below hb k2.lt,k3,k4.below hb,k5,k6,k7.below hb,k8,k9,k10,fun b hz=>?_⟩
 rcases hz with hz | hz
 ·have:=(k1 b hz).2;omega
 ·omega
theorem GridY.cells(h:GridY Yo w B gg gr wd Rs):∃ cap,w.cell? ⟨gg,0,none⟩=some (.int .i64 wd)/\w.cell? ⟨gg,1,none⟩=some (.slice (some ⟨gr,0,none⟩) Rs.length cap)/\Rs.length<=cap/\∀ i,i<Rs.length->w.cell? ⟨gr,i,none⟩=some (.pointer (some ⟨(Rs.getD i r0).g,0,none⟩)):=by
 obtain ⟨Z,cap,h1,h2,h3,h4,h5,h6,h7,h8,h9,h10⟩:=h;refine ⟨cap,h2.cell 0 _ rfl,h2.cell 1 _ rfl,?_,fun i hi=>?_⟩
 ·obtain ⟨_,k⟩:=h4.ptrs
  rcases k with ⟨e,_⟩ | ⟨g',cap',cur,e,_,_,hn,_⟩
  ·cases e
  ·simp only [Value.slice.injEq] at e;obtain ⟨_,_,rfl⟩:=e;rw [bn] at hn;exact hn
 ·have:=(jq h4 i (by rw [bn];exact hi)).1;rw [gm Rs i hi] at this;exact this
end
theorem mR(n:Int)(w:World):Calls Tryz.prog 154 #[.int .i64 n] w fun e w'=>e=.returned (.int .i64 (da n))/\w=w':=by
 have HE:=ab (show min (max n 1) 1024=(da n:Int) by unfold da;omega)
 go_enter Tryz.func154,Tryz.ntmps154
 go_wp2;go_ret;exact ⟨al (by rw [<-HE.out];try rfl),rfl⟩
theorem eX(B gg gr wd:Nat)(Rs:List Rw)(w:World)(h:GridY Yo w B gg gr wd Rs):Calls Tryz.prog 106 #[.pointer (some ⟨gg,0,none⟩)] w fun e w'=>e=.returned (.int .i64 wd)/\w=w':=by
 obtain ⟨cap,c0,c1,_⟩:=h.cells;clear h
 go_enter Tryz.func106,Tryz.ntmps106
 go_wp2;go_ret;exact ⟨af,rfl⟩
theorem de(B gg gr wd:Nat)(Rs:List Rw)(w:World)(h:GridY Yo w B gg gr wd Rs):Calls Tryz.prog 95 #[.pointer (some ⟨gg,0,none⟩)] w fun e w'=>e=.returned (.int .i64 Rs.length)/\w=w':=by
 obtain ⟨cap,c0,c1,_⟩:=h.cells;clear h
 go_enter Tryz.func95,Tryz.ntmps95
 go_wp2;go_ret;exact ⟨af,rfl⟩
theorem ie(B gg gr wd:Nat)(Rs:List Rw)(i:Nat)(w:World)(h:GridY Yo w B gg gr wd Rs)(hi:i<Rs.length):Calls Tryz.prog 62 #[.pointer (some ⟨gg,0,none⟩),.int .i64 i] w fun e w'=>e=.returned (.pointer (some ⟨(Rs.getD i r0).g,0,none⟩))/\w=w':=by
 obtain ⟨cap,c0,c1,Bi,hc⟩:=h.cells;have cr:=hc i hi;obtain ⟨p,hp⟩:=ae ((Rs.getD i r0).g);rw [<-hp] at cr ⊢;have HH:=ab (de B gg gr wd Rs w h);have hsz:=h.sizes;obtain ⟨n,hn⟩:=ae (Rs.length);rw [<-hn] at c1 HH Bi hi hsz;have EK:decide ((i:Int)<0)=false:=ai (by omega);have Iw:decide ((n:Int)<=i)=false:=ai (by omega);have I0:decide (n<=i)=false:=ai (by omega);have G0:n<=1024:=hsz.2.1;clear h hc hn hp hsz
 go_enter Tryz.func62,Tryz.ntmps62
 go_wp2_with fail
 refine HH.out.mono ?_;rintro e w1 ⟨rfl,rfl⟩;go_wp2;go_ret;exact ⟨af,rfl⟩
theorem vO(B gg gr wd:Nat)(Rs:List Rw)(i:Int)(w:World)(h:GridY Yo w B gg gr wd Rs)(hi:i<0\/(Rs.length:Int)<=i):Calls Tryz.prog 62 #[.pointer (some ⟨gg,0,none⟩),.int .i64 i] w fun e w'=>e=.returned (.pointer none)/\w=w':=by
 have HH:=ab (de B gg gr wd Rs w h);obtain ⟨n,hn⟩:=ae (Rs.length);rw [<-hn] at HH hi;clear h hn
 by_cases h0:i<0
 ·have EK:decide (i<0)=true:=by rw [decide_eq_true_eq];exact h0
  clear h0 hi
  go_enter Tryz.func62,Tryz.ntmps62
  go_wp2;go_ret;exact ⟨af,rfl⟩
 ·have EK:decide (i<0)=false:=by rw [decide_eq_false_iff_not];exact h0
  have Iw:decide ((n:Int)<=i)=true:=ah (by omega);clear h0 hi
  go_enter Tryz.func62,Tryz.ntmps62
  go_wp2_with fail
  refine HH.out.mono ?_;rintro e w1 ⟨rfl,rfl⟩;go_wp2;go_ret;exact ⟨af,rfl⟩
end
def fy{α:Type}(f:Nat->α)(z:α)(n k:Nat):List α:=(List.range n).map fun i=>if i<k then f i else z
theorem fP{α:Type}(f:Nat->α)(z:α)(n k:Nat):(fy f z n k).length=n:=by simp [fy]
theorem tr{α:Type}(f:Nat->α)(z:α)(n:Nat):fy f z n 0=List.replicate n z:=by
 apply List.ext_getElem?
 intro i
 by_cases h:i<n
 ·simp [fy,List.getElem?_replicate,h]
 ·rw [List.getElem?_eq_none (by rw [fP];omega),List.getElem?_eq_none (by simp;omega)]
theorem vM{α:Type}(f:Nat->α)(z:α)(n k:Nat)(h:k<n):(fy f z n k).set k (f k)=fy f z n (k+1):=by
 apply List.ext_getElem?
 intro i
 by_cases hi:i<n
 ·by_cases e:i=k
  ·subst e;rw [List.getElem?_set_self (by rw [fP];exact hi)]
   simp [fy,hi]
  ·rw [List.getElem?_set_ne (Ne.symm e)]
   simp [fy,hi]
   by_cases h2:i<k
   ·rw [if_pos h2,if_pos (by omega)]
   ·rw [if_neg h2,if_neg (by omega)]
 ·rw [List.getElem?_eq_none (by rw [List.length_set,fP];omega),List.getElem?_eq_none (by rw [fP];omega)]
theorem vN{α β:Type}(g:α->β)(d:α)(z:β)(l:List α):fy (fun i=>g (l.getD i d)) z l.length l.length=l.map g:=by
 apply List.ext_getElem?
 intro i
 by_cases hi:i<l.length
 ·simp [fy,hi,List.getD,List.getElem?_eq_getElem hi]
 ·rw [List.getElem?_eq_none (by rw [fP];omega),List.getElem?_eq_none (by simp;omega)]
theorem tw(Z:an)(w:World):lineE.rep Z w [.slice none 0 0,.bool false] zl:=line_rep.2 ⟨_,rfl,HeldE.nil _ _ _⟩
theorem tx{Z:an}{w:World}{B n:Nat}{v:Value}(h:w.ownsRow B 104 2 v n (madeCells (Value.agg #[.slice none 0 0,.bool false]).cells (n * 2)).toList):OwnE lineE Z w B 104 v (List.replicate n zl):=by
 have hc:(Value.agg #[.slice none 0 0,.bool false]).cells=[Value.slice none 0 0,.bool false].toArray:=by kernel_rfl
 have he:=j5 [Value.slice none 0 0,.bool false] (by decide) n;rw [hc,show n * 2=n * [Value.slice none 0 0,.bool false].length from rfl,he] at h;refine ⟨List.replicate n [.slice none 0 0,.bool false],by rw [List.length_replicate];exact h,by simp,fun i hi=>?_⟩;rw [List.length_replicate] at hi;have e1:(List.replicate n [Value.slice none 0 0,.bool false]).getD i []=[.slice none 0 0,.bool false]:=by simp [List.getD,List.getElem?_replicate,hi]
 have e2:(List.replicate n zl).getD i lineE.zero=zl:=by simp [List.getD,List.getElem?_replicate,hi]
 rw [e1,e2];exact tw _ _
theorem qY{Yo:an}(B gg gr wd:Nat)(Rs:List Rw)(w:World)(h:GridY Yo w B gg gr wd Rs):Calls Tryz.prog 41 #[.pointer (some ⟨gg,0,none⟩)] w (fk lineE (fun b=>w.heap.size<=b) 104 w (Rs.map aQ)):=by
 have HG:=ab h;have HH:=ab (de B gg gr wd Rs w h);have Fm:=ab h.sizes;have LX:=ab h.lt;have OE:=vN aQ r0 zl Rs;obtain ⟨i0,hi,hz0,hz1,hz2⟩:=info_parts bS;obtain ⟨n,hn⟩:=ae (Rs.length);have HN:=ab hn;rw [<-hn] at HH OE;have HFA:=ab OE;have G0:n<=1024:=by rw [hn];exact h.sizes.2.1
 clear h hn OE
 go_enter Tryz.func41,Tryz.ntmps41
 go_wp2_with fail
 refine HH.out.mono ?_;rintro e w1 ⟨rfl,rfl⟩
 go_wp2_with (at_make;refine wpList_make_full w rfl (.tmp 6) (.tmp 6) 22 rfl w.heap.size 104 i0 (.agg #[.slice none 0 0,.bool false]) 2 Tryz.underlying22 hi hz0 hz1 .i64 .i64 _ _ n rfl rfl rfl rfl (by rw [hz2];omega) (by unfold maxLen;omega) (Nat.le_refl _) ?_)
 intro w1 hown1 hg1;have hb1:Below w.heap.size w w1:=(Below.refl _ _).grown hg1 (Nat.le_refl _) (by intro k hk;cases hk);have AA:OwnE lineE (fun b=>w.heap.size<=b) w1 w.heap.size 104 (.slice (some ⟨w.heap.size,0,none⟩) n n) (fy (fun i=>aQ (Rs.getD i r0)) zl n 0):=by rw [tr];exact tx hown1
 have A4:=ab AA;have Ag:=ab hb1;generalize K8:w.heap.size=g at A4;have Pk:=ab K8;clear hown1 hg1 hb1 AA hi hz0 hz1 hz2 K8 HH;go_wp2
 go_loopw [10] (fun i wr=>∃ k:Nat,k<=n/\i=.int .i64 k/\OwnE lineE (fun b=>g<=b) wr g 104 (.slice (some ⟨g,0,none⟩) n n) (fy (fun i=>aQ (Rs.getD i r0)) zl n k)/\Below w.heap.size w wr) (fun i _=>n - (intOf i).toNat)
 case atStart=>exact ⟨0,Nat.zero_le _,rfl,A4.out,Ag.out⟩
 case round =>
  obtain ⟨k,hk,rfl,hown,zN⟩:=hrel;have z5:=ab zN;have HO:=ab hown;clear zN hown
  by_cases hlt:k<n
  ·have hg:=HG.out.below z5.out;obtain ⟨cap,c0,c1,Bi,hc⟩:=hg.cells;have cr:=hc k (by rw [<-HN.out];exact hlt);have hr:=hg.row (i:=k) (by rw [<-HN.out];exact hlt);rw [<-HN.out] at c1 Bi;have GD:=vM (fun i=>aQ (Rs.getD i r0)) zl n k hlt;obtain ⟨r,C7⟩:=ae (Rs.getD k r0);rw [<-C7] at cr hr
   try simp only at GD
   rw [<-C7] at GD;obtain ⟨p,pc,L,wrap⟩:=r;simp only at cr hr;have NV:=ab GD;have HR:=ab hr;have ME:gg<wr.heap.size/\gr<wr.heap.size:=⟨hg.lt.2.1,hg.lt.2.2.2.1⟩;have Jx:g<wr.heap.size/\g<=wr.heap.size:=⟨(HO.out.lt g rfl).2,Nat.le_of_lt (HO.out.lt g rfl).2⟩;have KT:=ab (show ∀ w2,Below wr.heap.size wr w2->w2.cell? ⟨gg,1,none⟩=some (.slice (some ⟨gr,0,none⟩) n cap) from fun w2 b=>(b.cell (p:=⟨gg,1,none⟩) ME.1).trans c1);have HCR:=ab (show ∀ w2,Below wr.heap.size wr w2->w2.cell? ⟨gr,k,none⟩=some (.pointer (some ⟨p,0,none⟩)) from fun w2 b=>(b.cell (p:=⟨gr,k,none⟩) ME.2).trans cr);have IK:=ab (fP (fun i=>aQ (Rs.getD i r0)) zl n k);obtain ⟨F,hF⟩:=ae (fy (fun i=>aQ (Rs.getD i r0)) zl n k);rw [<-hF] at HO NV IK;clear hc hg cr c0 c1 hr C7 GD hF;go_wp2;obtain ⟨zM,zU⟩ : ∃ CC:Array Bool->World->Prop,CC=fun L8 w'=>(Mix.one L8 20=0->Below wr.heap.size wr w')/\(Mix.one L8 20≠0->OwnE lineE (fun b=>g<=b) w' g 104 (.slice (some ⟨g,0,none⟩) n n) (fy (fun i=>aQ (Rs.getD i r0)) zl n (k+1))/\Below w.heap.size w w'):=⟨_,rfl⟩
   obtain ⟨Ar,z6⟩ : ∃ XX:World->World->Prop,XX=fun x y=>Upd (fun b=>b=g) x y:=⟨_,rfl⟩
   obtain ⟨An,Ad,zR,zQ,zS,zT,zY,zX,zV,zP,zW,z4,zO,z7,Aa,z9,Af,Ae,Ai,Bo,Bn,Bq,DC,_,_,_⟩:=Reg.e24 Ar
    (fun xx _=>xx=.slice (some ⟨g,0,none⟩) n n)
    (fun xx _=>xx=.int .i64 k)
    (fun xx _=>xx=.pointer (some ⟨gg,0,none⟩))
    (fun xx _=>xx=.pointer (some ⟨gg,0,none⟩))
    (fun xx _=>xx=.pointer (some ⟨gg,1,none⟩))
    (fun xx _=>xx=.slice (some ⟨gr,0,none⟩) n cap)
    (fun xx _=>xx=.int .i64 k)
    (fun xx _=>xx=.pointer (some ⟨gr,k,none⟩))
    (fun xx _=>xx=.pointer (some ⟨p,0,none⟩))
    (fun x w'=>HeldE cellE (fun b=>wr.heap.size<=b) w' x L)
    (fun xx _=>xx=.pointer (some ⟨gg,0,none⟩))
    (fun xx _=>xx=.pointer (some ⟨gg,0,none⟩))
    (fun xx _=>xx=.pointer (some ⟨gg,1,none⟩))
    (fun xx _=>xx=.slice (some ⟨gr,0,none⟩) n cap)
    (fun xx _=>xx=.int .i64 k)
    (fun xx _=>xx=.pointer (some ⟨gr,k,none⟩))
    (fun xx _=>xx=.pointer (some ⟨p,0,none⟩))
    (fun xx _=>xx=.bool wrap)
    (fun x w'=>∃ v9,x=.agg #[v9,.bool wrap]/\HeldE cellE (fun b=>wr.heap.size<=b) w' v9 L)
    (fun xx _=>xx=.pointer (some ⟨g,k * 2,none⟩))
    (fun xx _=>xx=undef)
    (fun _ _=>True) (fun _ _=>True) (fun _ _=>True)
    (s9:=fun x w w1 hx h=>by rw [z6] at hx;first | exact HeldE.upd h hx (fun b hb e=>by omega) | (obtain ⟨v9,e9,h9⟩:=h;exact ⟨v9,e9,HeldE.upd h9 hx (fun b hb e=>by omega)⟩))
    (s18:=fun x w w1 hx h=>by rw [z6] at hx;first | exact HeldE.upd h hx (fun b hb e=>by omega) | (obtain ⟨v9,e9,h9⟩:=h;exact ⟨v9,e9,HeldE.upd h9 hx (fun b hb e=>by omega)⟩))
   have zZ:Hid (∀ i L w,(i == 20)=false ->  zM L w->zM (L.setIfInBounds i true) w):=ab (by
    intro i L w q h;simp only [Bool.or_eq_false_iff,beq_eq_false_iff_ne] at q;rw [zU] at h ⊢;simp only [Mix.one_ne q];exact h)
   have Al:Hid (∀ L w w1,zM L w->Below w.heap.size w w1->zM L w1):=ab (by
    intro L w w1 h hb;rw [zU] at h ⊢;exact ⟨fun e=>(h.1 e).trans (hb.mono (h.1 e).size),fun e=>⟨(h.2 e).1.below hb,(h.2 e).2.trans (hb.mono (h.2 e).2.size)⟩⟩)
   have Ac:=ab (show ∀ w,Ar w w from fun w=>by rw [z6];exact Upd.refl _ _);have Ab:=ab (show ∀ w w1,Below w.heap.size w w1->Ar w w1 from fun w w1 hb=>by rw [z6];exact .ofBelow hb);have Ao:=ab (show zM (Array.replicate 21 false) wr.drew from by rw [zU];exact ⟨fun _=>(Below.refl _ _).drew,fun e=>absurd (Mix.one_none _ _) e⟩);have zL:=ab (fun (i:Nat) L w v q (h:zM L w) (e:An i v w)=>Reg.hk (zZ.out i L w q h) e (Ac.out w));have zK:=ab zU;have z8:=ab z6;clear zU z6
   go_wp2_with fail
   refine Reg.regionF An zM Ar Ad.out (by kernel_rfl) (by kernel_rfl) (by kernel_rfl) Ao.out (fun Gk zJ=>?_);simp only [Reg.frame,Reg.dsts,List.map_cons,List.map_nil,Mix.put_lit,Reg.put_none,List.set_cons_succ,List.set_cons_zero,Nat.zero_add,Nat.reduceAdd] at zJ;refine ⟨⟨?_,?_,?_,?_,?_,?_,?_,?_,?_,?_,?_,?_,?_,?_,?_,?_,?_,?_,?_,?_,?_,trivial⟩,?_⟩
   ·intro Lq wq xq hh;simp only [zJ];refine Reg.go rfl ?_;have HK:=zL.out 0 _ _ _ rfl hh.cls ((zR.out _ _).mpr rfl);go_simp;exact HK.out
   ·intro Lq wq xq hh;simp only [zJ];refine Reg.go rfl ?_;have HK:=zL.out 1 _ _ _ rfl hh.cls ((zQ.out _ _).mpr rfl);go_simp;exact HK.out
   ·intro Lq wq xq hh;simp only [zJ];refine Reg.go rfl ?_;have HK:=zL.out 2 _ _ _ rfl hh.cls ((zS.out _ _).mpr rfl);go_simp;exact HK.out
   ·intro Lq wq xq hh;simp only [zJ,(zS.out _ _).mp (hh.v 2)];refine Reg.go rfl ?_;have HK:=zL.out 3 _ _ _ rfl hh.cls ((zT.out _ _).mpr rfl);go_simp;exact HK.out
   ·intro Lq wq xq hh;simp only [zJ,(zT.out _ _).mp (hh.v 3)];refine Reg.go rfl ?_;have HK:=zL.out 4 _ _ _ rfl hh.cls ((zY.out _ _).mpr rfl);go_simp;exact HK.out
   ·intro Lq wq xq hh;simp only [zJ,(zY.out _ _).mp (hh.v 4)];refine Reg.go rfl ?_;have hc:zM Lq wq:=hh.cls;rw [zK.out] at hc;have q5:=KT.out wq (hc.1 (Mix.one_un (hh.notYet 20 (by kernel_rfl))));clear hc;have HK:=zL.out 5 _ _ _ rfl hh.cls ((zX.out _ _).mpr rfl);go_simp;exact HK.out
   ·intro Lq wq xq hh;simp only [zJ];refine Reg.go rfl ?_;have HK:=zL.out 6 _ _ _ rfl hh.cls ((zV.out _ _).mpr rfl);go_simp;exact HK.out
   ·intro Lq wq xq hh;simp only [zJ,(zX.out _ _).mp (hh.v 5),(zV.out _ _).mp (hh.v 6)];refine Reg.go rfl ?_;have HK:=zL.out 7 _ _ _ rfl hh.cls ((zP.out _ _).mpr rfl);go_simp;exact HK.out
   ·intro Lq wq xq hh;simp only [zJ,(zP.out _ _).mp (hh.v 7)];refine Reg.go rfl ?_;have hc:zM Lq wq:=hh.cls;rw [zK.out] at hc;have q8:=HCR.out wq (hc.1 (Mix.one_un (hh.notYet 20 (by kernel_rfl))));clear hc;have HK:=zL.out 8 _ _ _ rfl hh.cls ((zW.out _ _).mpr rfl);go_simp;exact HK.out
   ·intro Lq wq xq hh;simp only [zJ,(zW.out _ _).mp (hh.v 8)];refine Reg.go rfl ?_;unfold Reg.upon;have hc:zM Lq wq:=hh.cls;rw [zK.out] at hc;have KQ:=hc.1 (Mix.one_un (hh.notYet 20 (by kernel_rfl)));go_simp;refine (ra _ B p pc L wrap wq (HR.out.below KQ)).mono ?_;rintro e w2 ⟨v2,rfl,ho,hb⟩;refine ⟨_,rfl,zZ.out 9 Lq w2 (by decide) (Al.out Lq wq w2 hh.cls hb),?_,Ab.out wq w2 hb⟩;rw [z4.out];exact (ho.held (fun b h _=>h)).zone (fun b _ h=>Nat.le_trans KQ.size h)
   ·intro Lq wq xq hh;simp only [zJ];refine Reg.go rfl ?_;have HK:=zL.out 10 _ _ _ rfl hh.cls ((zO.out _ _).mpr rfl);go_simp;exact HK.out
   ·intro Lq wq xq hh;simp only [zJ,(zO.out _ _).mp (hh.v 10)];refine Reg.go rfl ?_;have HK:=zL.out 11 _ _ _ rfl hh.cls ((z7.out _ _).mpr rfl);go_simp;exact HK.out
   ·intro Lq wq xq hh;simp only [zJ,(z7.out _ _).mp (hh.v 11)];refine Reg.go rfl ?_;have HK:=zL.out 12 _ _ _ rfl hh.cls ((Aa.out _ _).mpr rfl);go_simp;exact HK.out
   ·intro Lq wq xq hh;simp only [zJ,(Aa.out _ _).mp (hh.v 12)];refine Reg.go rfl ?_;have hc:zM Lq wq:=hh.cls;rw [zK.out] at hc;have q5:=KT.out wq (hc.1 (Mix.one_un (hh.notYet 20 (by kernel_rfl))));clear hc;have HK:=zL.out 13 _ _ _ rfl hh.cls ((z9.out _ _).mpr rfl);go_simp;exact HK.out
   ·intro Lq wq xq hh;simp only [zJ];refine Reg.go rfl ?_;have HK:=zL.out 14 _ _ _ rfl hh.cls ((Af.out _ _).mpr rfl);go_simp;exact HK.out
   ·intro Lq wq xq hh;simp only [zJ,(z9.out _ _).mp (hh.v 13),(Af.out _ _).mp (hh.v 14)];refine Reg.go rfl ?_;have HK:=zL.out 15 _ _ _ rfl hh.cls ((Ae.out _ _).mpr rfl);go_simp;exact HK.out
   ·intro Lq wq xq hh;simp only [zJ,(Ae.out _ _).mp (hh.v 15)];refine Reg.go rfl ?_;have hc:zM Lq wq:=hh.cls;rw [zK.out] at hc;have q8:=HCR.out wq (hc.1 (Mix.one_un (hh.notYet 20 (by kernel_rfl))));clear hc;have HK:=zL.out 16 _ _ _ rfl hh.cls ((Ai.out _ _).mpr rfl);go_simp;exact HK.out
   ·intro Lq wq xq hh;simp only [zJ,(Ai.out _ _).mp (hh.v 16)];refine Reg.go rfl ?_;unfold Reg.upon;have hc:zM Lq wq:=hh.cls;rw [zK.out] at hc;have hc17:=hc.1 (Mix.one_un (hh.notYet 20 (by kernel_rfl)));go_simp;refine (tz _ B p pc L wrap wq (HR.out.below hc17)).mono ?_;rintro e w2 ⟨rfl,rfl⟩;exact ⟨_,rfl,zZ.out 17 Lq wq (by decide) hh.cls,(by rw [Bo.out]),Ac.out _⟩
   ·intro Lq wq xq hh;have d9:=(z4.out _ _).mp (hh.v 9);simp only [zJ,(Bo.out _ _).mp (hh.v 17)];refine Reg.go rfl ?_;unfold Reg.upon;obtain ⟨a9,c9,e9⟩:=d9.len;rw [e9] at d9 ⊢;go_simp;exact ⟨zZ.out 18 Lq wq (by decide) hh.cls,(by rw [Bn.out];exact ⟨_,rfl,d9⟩),Ac.out _⟩
   ·intro Lq wq xq hh;simp only [zJ,(zR.out _ _).mp (hh.v 0),(zQ.out _ _).mp (hh.v 1)];refine Reg.go rfl ?_;have HK:=zL.out 19 _ _ _ rfl hh.cls ((Bq.out _ _).mpr rfl);go_simp;exact HK.out
   ·intro Lq wq xq hh;have d18:=(Bn.out _ _).mp (hh.v 18);simp only [zJ,(Bq.out _ _).mp (hh.v 19)];refine Reg.go rfl ?_;unfold Reg.upon;obtain ⟨v9,e9,h9⟩:=d18;obtain ⟨a9,c9,e8⟩:=h9.len;rw [e9];subst e8;have hc20:zM Lq wq:=hh.cls;rw [zK.out] at hc20;have hcb:=hc20.1 hh.un;have hown:=HO.out.below hcb;have JO:k<F.length:=by rw [IK.out];exact hlt
    have Ml:lineE.rep (fun b=>g<=b/\b≠g) wq [.slice a9 L.length c9,.bool wrap] (L,wrap):=line_rep.2 ⟨_,rfl,h9.zone (fun b _ hz=>⟨by omega,by omega⟩)⟩;have OJ:=hown.each.there JO;obtain ⟨A7,NB⟩:=hown.each.put (Y:=fun b=>g<=b) JO _ (L,wrap) Ml;rw [gT (b:=g) (off:=k * 2) rfl rfl [.slice a9 L.length c9,.bool wrap] rfl OJ (by kernel_rfl) (lineE.one Ml)];refine ⟨?_,(by rw [DC.out]),(by rw [z8.out];exact NB)⟩;rw [zK.out];refine ⟨fun e=>(by rw [Mix.one_set (by rw [hh.size];decide)] at e;cases e),fun _=>⟨?_,?_⟩⟩;rw [<-NV.out];exact OwnI.all A7 (fun j b _ _ q=>by split at q <;> exact q);exact (z5.out.trans (hcb.mono z5.out.size)).upd NB (z5.out.trans (hcb.mono z5.out.size)).size (fun x e=>by have:=Pk.out;omega)
   intro xq Dh Ah Av;rw [zK.out] at Ah;simp only [zJ];clear Av zJ zL zZ Ac Ad Ao zK z8 Al Ab zR zQ zS zT zY zX zV zP zW z4 zO z7 Aa z9 Af Ae Ai Bo Bn Bq DC;have Mx:=ab (Ah.2 (by rw [Mix.one_all (by decide)];decide));clear Ah;go_wp2
   go_roundw
   case rel=>exact ⟨k+1,by omega,by go_num,Mx.out.1,Mx.out.2⟩
   case measure=>simp [intOf] <;> omega
  ·obtain rfl:k=n:=by omega
   rw [HFA.out] at HO;go_wp2;go_ret;exact ⟨_,rfl,by rw [Pk.out];exact HO.out,z5.out⟩
section
theorem lG{P:Program}{ρ:Operand->Value}{o:Oper}{w:World}{ty:TypeId}{x y:Operand}{b off:Nat}(ho:o.op=.store ty x y)(hx:ρ x=.pointer (some ⟨b,off,none⟩))(p:Option Nat)(hy:ρ y=cL p)(u:Value)(hc:w.cell? ⟨b,off,none⟩=some u)(hf:w.frozen? ⟨b,off,none⟩=false)(hi:(P.info? ty).map (·.size)=some 1):(execOp ρ o).run P w=.ok .skip (w.setCell ⟨b,off,none⟩ (cL p)):=by
 obtain ⟨i,hi1,hi2⟩:=Option.map_eq_some_iff.1 hi;have hce:1=P.cellsOf ty:=by unfold Program.cellsOf;rw [hi1];exact hi2.symm
 unfold execOp;unfold cL at hy ⊢
 simp [ho,hx,hy,go_sem,hc,hf,run_sizeOf,hi1,hi2]
 exact hce
def PartAt(w:World)(B gg wd:Nat)(v:Value)(Xs:List (Option Nat))(Rs:List Rw):Prop :=
 ∃ Z:an,(∀ b,Z b->B<=b/\b<w.heap.size)/\Has w gg [.int .i64 wd,v] 119/\B<=gg/\OwnE ptrE (fun _=>True) w B 113 v Xs/\¬ Z gg/\(∀ b,v.ownBlock=some b->¬ Z b)/\RowsAt Z w B Rs/\∀ i,i<Rs.length->(Rs.getD i r0).L.length=wd
section
variable {w w' : World} {B gg wd : Nat} {v : Value} {Xs : List (Option Nat)} {Rs : List Rw}
theorem gR{Z:an}{ty:TypeId}(h:OwnE ptrE Z w B ty v Xs){b:Nat}(hb:v.ownBlock=some b):∃ C,w.heap[b]? = some (.cells C ty (0,0)):=by
 rcases h.ptrs.2 with ⟨rfl,_⟩ | ⟨g',cap',cur,rfl,_,hg,_⟩
 ·cases hb
 ·have:g'=b:=by simpa [Value.ownBlock] using hb
  subst this;exact ⟨cur,hg⟩
theorem aH{b:Nat}{C D:Array Value}{t u:TypeId}(h:w.heap[b]? = some (.cells C t (0,0)))(k:w.heap[b]? = some (.cells D u (0,0)))(hn:t≠u):False:=by
 rw [h] at k;simp only [Option.some.injEq,Obj.cells.injEq] at k;exact hn k.2.1
theorem PartAt.apart(h:PartAt w B gg wd v Xs Rs){b:Nat}(hb:v.ownBlock=some b):gg≠b/\∀ i,i<Rs.length->(Rs.getD i r0).g≠b/\(Rs.getD i r0).gc≠b:=by
 obtain ⟨Z,h1,h2,h3,h4,h5,h6,h7,h8⟩:=h;obtain ⟨C,hC⟩:=gR h4 hb;refine ⟨fun e=>by subst e;exact aH h2 hC (by decide),fun i hi=>?_⟩;obtain ⟨⟨D,hD⟩,D',Ka⟩:=(h7.row i hi).types;exact ⟨fun e=>by rw [<-e] at hC;exact aH hD hC (by decide),fun e=>by rw [<-e] at hC;exact aH Ka hC (by decide)⟩
theorem PartAt.gapart(h:PartAt w B gg wd v Xs Rs):∀ i,i<Rs.length->(Rs.getD i r0).g≠gg/\(Rs.getD i r0).gc≠gg:=by
 obtain ⟨Z,h1,h2,h3,h4,h5,h6,h7,h8⟩:=h;intro i hi;obtain ⟨⟨D,hD⟩,D',Ka⟩:=(h7.row i hi).types;exact ⟨fun e=>by rw [e] at hD;exact aH hD h2 (by decide),fun e=>by rw [e] at Ka;exact aH Ka h2 (by decide)⟩
theorem PartAt.below(h:PartAt w B gg wd v Xs Rs)(hb:Below w.heap.size w w'):PartAt w' B gg wd v Xs Rs:=by
 obtain ⟨Z,h1,h2,h3,h4,h5,h6,h7,h8⟩:=h;exact ⟨Z,fun b hz=>⟨(h1 b hz).1,Nat.lt_of_lt_of_le (h1 b hz).2 hb.size⟩,h2.below hb h2.lt,h3,h4.below hb,h5,h6,h7.below hb,h8⟩
theorem PartAt.lt(h:PartAt w B gg wd v Xs Rs):B<=gg/\gg<w.heap.size/\∀ b,v.ownBlock=some b->B<=b/\b<w.heap.size:=by
 obtain ⟨Z,h1,h2,h3,h4,h5,h6,h7,h8⟩:=h;exact ⟨h3,h2.lt,h4.lt⟩
theorem PartAt.next(h:PartAt w B gg wd v Xs Rs){g gc:Nat}{L:List Cl}{wrap:Bool}(hr:RowAt (fun b=>w.heap.size<=b) w' w.heap.size g gc L wrap)(hl:L.length=wd)(hb:Below w.heap.size w w'):PartAt w' B gg wd v Xs (Rs++[⟨g,gc,L,wrap⟩]):=by
 obtain ⟨Z,h1,h2,h3,h4,h5,h6,h7,h8⟩:=h;have hlt:=h2.lt;refine ⟨_,fun b hz=>?_,h2.below hb h2.lt,h3,h4.below hb,?_,fun b BY=>?_,h7.snoc (fun b hz=>(h1 b hz).2) (by omega) (Nat.le_refl _) hr hb,fun i hi=>?_⟩
 ·rcases hz with hz | hz
  ·have:=h1 b hz;have:=hb.size;omega
  ·omega
 ·rintro (hz | hz)
  ·exact h5 hz
  ·omega
 ·have:=h4.lt b BY;rintro (hz | hz)
  ·exact h6 b BY hz
  ·omega
 ·rw [bU];rw [List.length_append,List.length_singleton] at hi
  by_cases e:i<Rs.length
  ·rw [if_pos e];exact h8 i e
  ·rw [if_neg e,show i - Rs.length=0 by omega];exact hl
theorem PartAt.put{gr n cap:Nat}(h:PartAt w B gg wd (.slice (some ⟨gr,0,none⟩) n cap) Xs Rs)(k:Nat)(hk:k<Xs.length)(x:Option Nat):PartAt (w.setCell ⟨gr,k,none⟩ (cL x)) B gg wd (.slice (some ⟨gr,0,none⟩) n cap) (Xs.set k x) Rs/\Upd (fun b=>b=gr) w (w.setCell ⟨gr,k,none⟩ (cL x)):=by
 have hu:=(Upd.refl (fun b=>b=gr) w).setCell (p:=⟨gr,k,none⟩) (.inl rfl) (cL x);have ha:=h.apart (b:=gr) rfl;obtain ⟨Z,h1,h2,h3,h4,h5,h6,h7,h8⟩:=h;refine ⟨⟨Z,fun b hz=>⟨(h1 b hz).1,Nat.lt_of_lt_of_le (h1 b hz).2 hu.size⟩,hu.keep.has h2 ha.1,h3,om h4 k hk x,h5,h6,h7.upd hu (fun b hz e=>h6 gr rfl (e ▸ hz)) ha.2,h8⟩,hu⟩
theorem PartAt.full(h:PartAt w B gg wd v (ptrs Rs) Rs)(h0:0<Rs.length)(h1:Rs.length<=1024):∃ gr,lI w B gg gr wd Rs:=by
 obtain ⟨Z,k1,k2,k3,k4,k5,k6,k7,k8⟩:=h;obtain ⟨gr,cap,rfl,hg1,hg2⟩:=k4.some (by rw [bn];exact h0);rw [bn] at k2 k4 k6;exact ⟨gr,Z,cap,k1,k2,k3,k4,k5,k6 gr rfl,k7,k8,h0,h1,fun _ _=>trivial⟩
end
def vK(w:World)(wd:Nat)(Ls:List Ln)(e:Ending)(w':World):Prop:=∃ gg gr Rs,e=.returned (.pointer (some ⟨gg,0,none⟩))/\lI w' w.heap.size gg gr wd Rs/\Rs.map aQ=Ls/\Below w.heap.size w w'
def NewInv(w:World)(B gg gr W N:Nat)(Ls:List Ln)(k:Nat)(wr:World):Prop:=∃ Rs:List Rw,Rs.length=k/\PartAt wr B gg W (.slice (some ⟨gr,0,none⟩) N N) (ptrs Rs++List.replicate (N - k) none) Rs/\Rs.map aQ=Ls.take k/\Below B w wr
theorem NewInv.step{w wr ws:World}{B gg gr W N:Nat}{Ls:List Ln}{k:Nat}(h:NewInv w B gg gr W N Ls k wr)(hk:k<N)(EQ:Ls.length=N){g gc:Nat}{L:List Cl}{wrap:Bool}(hl:L.length=W)(Cc:Ls.getD k zl=(L,wrap))(hr:RowAt (fun b=>wr.heap.size<=b) ws wr.heap.size g gc L wrap)(hb:Below wr.heap.size wr ws):NewInv w B gg gr W N Ls (k+1) (ws.setCell ⟨gr,k,none⟩ (cL (some g)))/\Upd (fun b=>b=gr) ws (ws.setCell ⟨gr,k,none⟩ (cL (some g)))/\(∃ u,ws.cell? ⟨gr,k,none⟩=some u)/\ws.frozen? ⟨gr,k,none⟩=false:=by
 obtain ⟨Rs,hn,hp,hm,zN⟩:=h;have OQ:=hp.lt;have Kv:=hp.next hr hl hb;have hxl:k<(ptrs Rs++List.replicate (N - k) none).length:=by rw [List.length_append,bn,List.length_replicate];omega
 obtain ⟨h3,hu⟩:=Kv.put k hxl (some g);have hpc:OwnE ptrE (fun _=>True) ws B 113 (.slice (some ⟨gr,0,none⟩) N N) (ptrs Rs++List.replicate (N - k) none):=by
  obtain ⟨Z,k1,k2,k3,k4,_⟩:=Kv;exact k4
 have hcc:=jq hpc k hxl;refine ⟨⟨Rs++[⟨g,gc,L,wrap⟩],by simp [hn],?_,?_,?_⟩,hu,⟨_,hcc.1⟩,hcc.2⟩
 ·have e:(ptrs Rs++List.replicate (N - k) none).set k (some g)=ptrs (Rs++[⟨g,gc,L,wrap⟩])++List.replicate (N - (k+1)) none:=by
   rw [List.set_append_right _ _ (by rw [bn];omega),bn,hn,Nat.sub_self,show N - k=(N - (k+1))+1 by omega,List.replicate_succ]
   simp [ptrs]
  rw [<-e];exact h3
 ·rw [List.map_append,hm,List.take_succ_eq_append_getElem (by omega)];have:Ls[k]'(by omega)=(L,wrap):=by rw [<-Cc];simp [List.getD,List.getElem?_eq_getElem (show k<Ls.length by omega)]
  rw [this]
  rfl
 ·have Jx:=OQ.2.2 gr rfl;have BY:=zN.trans (hb.mono (show B<=wr.heap.size by omega));exact BY.upd hu (by have:=hb.size;omega) (fun x e=>by omega)
theorem vL(a b:Int)(w:World):Calls Tryz.prog 86 #[.int .i64 a,.int .i64 b] w (vK w (da a) (List.replicate (da b) (List.replicate (da a) zc,false))):=by
 have HA:=ab (mR a w);have Ks:=ab (mR b w);have hN:0<da b/\da b<=1024:=by unfold da;omega
 have hW:0<da a/\da a<=1024:=by unfold da;omega
 have PI:da (da a:Int)=da a:=by unfold da;omega
 obtain ⟨i0,hi,hz0,hz1,hz2⟩:=info_parts fQ;obtain ⟨N,hNe⟩:=ae (da b);obtain ⟨W,hWe⟩:=ae (da a);rw [<-hNe] at Ks hN ⊢;rw [<-hWe] at HA hW PI ⊢;have Ko:=ab PI;clear hNe hWe PI;obtain ⟨Ls,NM⟩:=ae (List.replicate N (List.replicate W zc,false));rw [<-NM];have Ew:=ab (show Ls.length=N by rw [NM];simp);have OH:=ab (show ∀ k,k<N->Ls.getD k zl=(List.replicate W zc,false) from fun k hk=>by rw [NM];simp [List.getD,List.getElem?_replicate,hk]);clear NM
 go_enter Tryz.func86,Tryz.ntmps86
 go_wp2_with fail
 refine HA.out.mono ?_;rintro e w1 ⟨rfl,rfl⟩
 go_wp2_with fail
 refine Ks.out.mono ?_;rintro e w1 ⟨rfl,rfl⟩
 go_wp2_with (at_make;refine wpList_make_full w rfl (.tmp 10) (.tmp 10) 117 rfl w.heap.size 113 i0 (.pointer none) 1 Tryz.underlying117 hi hz0 hz1 .i64 .i64 _ _ N rfl rfl rfl rfl (by rw [hz2];omega) (by unfold maxLen;omega) (Nat.le_refl _) ?_)
 intro w1 hown1 hg1;have hb1:Below w.heap.size w w1:=(Below.refl _ _).grown hg1 (Nat.le_refl _) (by intro k hk;cases hk);have AA:OwnE ptrE (fun _=>True) w1 w.heap.size 113 (.slice (some ⟨w.heap.size,0,none⟩) N N) (List.replicate N none):=di (by
  have e:=j5 [Value.pointer none] (by decide) N;have e2:(List.replicate N [Value.pointer none]).flatten=(List.replicate N (none:Option Nat)).map cL:=by rw [<-lH,List.map_replicate];rfl
  rw [<-e2,<-e]
  simpa using hown1)
 have hb2:Below w1.heap.size w1 (w1.alloc (.cells #[.int .i64 W,.slice (some ⟨w.heap.size,0,none⟩) N N] 119)):=zI _ _;have FU:=Has.new w1 [.int .i64 W,.slice (some ⟨w.heap.size,0,none⟩) N N] 119;have Kz:NewInv w w.heap.size w1.heap.size w.heap.size W N Ls 0 (w1.alloc (.cells #[.int .i64 W,.slice (some ⟨w.heap.size,0,none⟩) N N] 119)):=⟨[],rfl,⟨fun _=>False,fun b h=>h.elim,FU,hb1.size,AA.below hb2,fun h=>h,fun b _ h=>h,RowsAt.nil _ _ _,fun i hi=>absurd hi (Nat.not_lt_zero _)⟩,rfl,hb1.trans (hb2.mono hb1.size)⟩;have Mr:w.heap.size<w1.heap.size:=(AA.lt _ rfl).2;obtain ⟨gr,hgr⟩:=ae (w.heap.size);obtain ⟨gg,KD⟩:=ae (w1.heap.size);have Nn:=ab Kz;have d1:=FU.cell 1 _ rfl;rw [<-KD] at d1 Mr;have EH:=ab KD;have HGR:=ab hgr;obtain ⟨w2,hw2⟩:=ae (w1.alloc (.cells #[.int .i64 W,.slice (some ⟨w.heap.size,0,none⟩) N N] 119));rw [<-hw2] at Nn d1;have Gz:=ab hw2;clear hown1 hg1 hb1 AA hb2 FU Kz hi hz0 hz1 hz2 HA Ks hgr KD hw2
 go_upto_region 2 with fail
 rw [<-EH.out,<-Gz.out];rw [<-EH.out] at Nn;go_wp2;clear d1
 go_loopw [19] (fun i wr=>∃ k:Nat,k<=N/\i=.int .i64 k/\NewInv w w.heap.size gg w.heap.size W N Ls k wr) (fun i _=>N - (intOf i).toNat)
 case atStart=>exact ⟨0,Nat.zero_le _,rfl,Nn.out⟩
 case round =>
  obtain ⟨k,hk,rfl,hinv⟩:=hrel;have HI:=ab hinv;have hp:=hinv;clear hinv;obtain ⟨Rs,hRl,hp,Ol,zN⟩:=hp
  by_cases hlt:k<N
  ·obtain ⟨Z,k1,k2,k3,k4,_⟩:=hp;have ME:gg<wr.heap.size/\w.heap.size<wr.heap.size:=⟨k2.lt,(k4.lt _ rfl).2⟩;have Ow:=ab (show ∀ w9,Below wr.heap.size wr w9->w9.cell? ⟨gg,0,none⟩=some (.int .i64 W)/\w9.cell? ⟨gg,1,none⟩=some (.slice (some ⟨w.heap.size,0,none⟩) N N) from fun w9 b=>⟨(b.cell (p:=⟨gg,0,none⟩) ME.1).trans (k2.cell 0 _ rfl),(b.cell (p:=⟨gg,1,none⟩) ME.1).trans (k2.cell 1 _ rfl)⟩);have Cc:=OH.out k hlt;have AL:=ab Cc;clear k1 k2 k3 k4 hRl Ol zN Cc;obtain ⟨gr',Md⟩:=ae (w.heap.size);rw [<-Md] at ME Ow HI ⊢;have II:=ab Md;clear Md;go_wp2;obtain ⟨zM,zU⟩ : ∃ CC:Array Bool->World->Prop,CC=fun L8 w'=>(Mix.one L8 11=0->Below wr.heap.size wr w')/\(Mix.one L8 11≠0->NewInv w gr' gg gr' W N Ls (k+1) w'):=⟨_,rfl⟩
   obtain ⟨Ar,z6⟩ : ∃ XX:World->World->Prop,XX=fun x y=>Upd (fun b=>b=gr') x y:=⟨_,rfl⟩
   obtain ⟨An,Ad,zR,zQ,zS,zT,zY,zX,zV,zP,zW,z4,zO,z7⟩:=Reg.e12 Ar
    (fun xx _=>xx=.pointer (some ⟨gg,0,none⟩))
    (fun xx _=>xx=.pointer (some ⟨gg,0,none⟩))
    (fun xx _=>xx=.pointer (some ⟨gg,1,none⟩))
    (fun xx _=>xx=.slice (some ⟨gr',0,none⟩) N N)
    (fun xx _=>xx=.int .i64 k)
    (fun xx _=>xx=.pointer (some ⟨gg,0,none⟩))
    (fun xx _=>xx=.pointer (some ⟨gg,0,none⟩))
    (fun xx _=>xx=.pointer (some ⟨gg,0,none⟩))
    (fun xx _=>xx=.int .i64 W)
    (fun x w'=>∃ g9 gc9,x=.pointer (some ⟨g9,0,none⟩)/\RowAt (fun b=>wr.heap.size<=b) w' wr.heap.size g9 gc9 (List.replicate W zc) false)
    (fun xx _=>xx=.pointer (some ⟨gr',k,none⟩))
    (fun xx _=>xx=undef)
    (s9:=fun x w w1 hx h=>by rw [z6] at hx;(obtain ⟨g9,gc9,e9,h9⟩:=h;have:=h9.lt;exact ⟨g9,gc9,e9,h9.upd hx (fun b hb e=>by omega) (fun e=>by omega) (fun e=>by omega)⟩))
   have zZ:Hid (∀ i L w,(i == 11)=false ->  zM L w->zM (L.setIfInBounds i true) w):=ab (by
    intro i L w q h;simp only [Bool.or_eq_false_iff,beq_eq_false_iff_ne] at q;rw [zU] at h ⊢;simp only [Mix.one_ne q];exact h)
   have Al:Hid (∀ L w w1,zM L w->Below w.heap.size w w1->zM L w1):=ab (by
    intro L w w1 h hb;rw [zU] at h ⊢;exact ⟨fun e=>(h.1 e).trans (hb.mono (h.1 e).size),fun e=>by obtain ⟨R9,q1,q2,q3,q4⟩:=h.2 e;exact ⟨R9,q1,q2.below hb,q3,q4.trans (hb.mono (by have:=q2.lt;omega))⟩⟩)
   have Ac:=ab (show ∀ w,Ar w w from fun w=>by rw [z6];exact Upd.refl _ _);have Ab:=ab (show ∀ w w1,Below w.heap.size w w1->Ar w w1 from fun w w1 hb=>by rw [z6];exact .ofBelow hb);have Ao:=ab (show zM (Array.replicate 12 false) wr.drew from by rw [zU];exact ⟨fun _=>(Below.refl _ _).drew,fun e=>absurd (Mix.one_none _ _) e⟩);have zL:=ab (fun (i:Nat) L w v q (h:zM L w) (e:An i v w)=>Reg.hk (zZ.out i L w q h) e (Ac.out w));have zK:=ab zU;have z8:=ab z6;clear zU z6
   go_wp2_with fail
   refine Reg.regionF An zM Ar Ad.out (by kernel_rfl) (by kernel_rfl) (by kernel_rfl) Ao.out (fun Gk zJ=>?_);simp only [Reg.frame,Reg.dsts,List.map_cons,List.map_nil,Mix.put_lit,Reg.put_none,List.set_cons_succ,List.set_cons_zero,Nat.zero_add,Nat.reduceAdd] at zJ;refine ⟨⟨?_,?_,?_,?_,?_,?_,?_,?_,?_,?_,?_,?_,trivial⟩,?_⟩
   ·intro Lq wq xq hh;simp only [zJ];refine Reg.go rfl ?_;have HK:=zL.out 0 _ _ _ rfl hh.cls ((zR.out _ _).mpr rfl);go_simp;exact HK.out
   ·intro Lq wq xq hh;simp only [zJ,(zR.out _ _).mp (hh.v 0)];refine Reg.go rfl ?_;have HK:=zL.out 1 _ _ _ rfl hh.cls ((zQ.out _ _).mpr rfl);go_simp;exact HK.out
   ·intro Lq wq xq hh;simp only [zJ,(zQ.out _ _).mp (hh.v 1)];refine Reg.go rfl ?_;have HK:=zL.out 2 _ _ _ rfl hh.cls ((zS.out _ _).mpr rfl);go_simp;exact HK.out
   ·intro Lq wq xq hh;simp only [zJ,(zS.out _ _).mp (hh.v 2)];refine Reg.go rfl ?_;have hc:zM Lq wq:=hh.cls;rw [zK.out] at hc;have q3:=(Ow.out wq (hc.1 (Mix.one_un (hh.notYet 11 (by kernel_rfl))))).2;clear hc;have HK:=zL.out 3 _ _ _ rfl hh.cls ((zT.out _ _).mpr rfl);go_simp;exact HK.out
   ·intro Lq wq xq hh;simp only [zJ];refine Reg.go rfl ?_;have HK:=zL.out 4 _ _ _ rfl hh.cls ((zY.out _ _).mpr rfl);go_simp;exact HK.out
   ·intro Lq wq xq hh;simp only [zJ];refine Reg.go rfl ?_;have HK:=zL.out 5 _ _ _ rfl hh.cls ((zX.out _ _).mpr rfl);go_simp;exact HK.out
   ·intro Lq wq xq hh;simp only [zJ,(zX.out _ _).mp (hh.v 5)];refine Reg.go rfl ?_;have HK:=zL.out 6 _ _ _ rfl hh.cls ((zV.out _ _).mpr rfl);go_simp;exact HK.out
   ·intro Lq wq xq hh;simp only [zJ,(zV.out _ _).mp (hh.v 6)];refine Reg.go rfl ?_;have HK:=zL.out 7 _ _ _ rfl hh.cls ((zP.out _ _).mpr rfl);go_simp;exact HK.out
   ·intro Lq wq xq hh;simp only [zJ,(zP.out _ _).mp (hh.v 7)];refine Reg.go rfl ?_;have hc:zM Lq wq:=hh.cls;rw [zK.out] at hc;have q8:=(Ow.out wq (hc.1 (Mix.one_un (hh.notYet 11 (by kernel_rfl))))).1;clear hc;have HK:=zL.out 8 _ _ _ rfl hh.cls ((zW.out _ _).mpr rfl);go_simp;exact HK.out
   ·intro Lq wq xq hh;simp only [zJ,(zW.out _ _).mp (hh.v 8)];refine Reg.go rfl ?_;unfold Reg.upon;have hc:zM Lq wq:=hh.cls;rw [zK.out] at hc;have KQ:=hc.1 (Mix.one_un (hh.notYet 11 (by kernel_rfl)));go_simp;refine (pJ (fun b=>wr.heap.size<=b) (W:Int) wq).mono ?_;rintro e w2 ⟨g9,gc9,rfl,h9,hb⟩;rw [Ko.out] at h9;refine ⟨_,rfl,zZ.out 9 Lq w2 (by decide) (Al.out Lq wq w2 hh.cls hb),?_,Ab.out wq w2 hb⟩;rw [z4.out];exact ⟨g9,gc9,rfl,h9.base KQ.size⟩
   ·intro Lq wq xq hh;simp only [zJ,(zT.out _ _).mp (hh.v 3),(zY.out _ _).mp (hh.v 4)];refine Reg.go rfl ?_;have HK:=zL.out 10 _ _ _ rfl hh.cls ((zO.out _ _).mpr rfl);go_simp;exact HK.out
   ·intro Lq wq xq hh;have d9:=(z4.out _ _).mp (hh.v 9);simp only [zJ,(zO.out _ _).mp (hh.v 10)];refine Reg.go rfl ?_;unfold Reg.upon;obtain ⟨g9,gc9,e9,h9⟩:=d9;have hc11:zM Lq wq:=hh.cls;rw [zK.out] at hc11;obtain ⟨hst,hus,⟨q,hq⟩,hfz⟩:=NewInv.step HI.out hlt Ew.out (by simp) AL.out h9 (hc11.1 hh.un);rw [lG (b:=gr') (off:=k) rfl rfl (some g9) e9 q hq hfz (by kernel_rfl)];refine ⟨?_,(by rw [z7.out]),(by rw [z8.out];exact hus)⟩;rw [zK.out];exact ⟨fun e=>(by rw [Mix.one_set (by rw [hh.size];decide)] at e;cases e),fun _=>hst⟩
   intro xq Dh Ah Av;rw [zK.out] at Ah;simp only [zJ];clear Av zJ zL zZ Ac Ad Ao zK z8 Al Ab zR zQ zS zT zY zX zV zP zW z4 zO z7;have Mx:=ab (Ah.2 (by rw [Mix.one_all (by decide)];decide));clear Ah;go_wp2
   go_roundw
   case rel=>exact ⟨k+1,by omega,by go_num,Mx.out⟩
   case measure=>simp [intOf] <;> omega
  ·obtain rfl:k=N:=by omega
   rw [Nat.sub_self,List.replicate_zero,List.append_nil] at hp;obtain ⟨gr2,hg2⟩:=hp.full (by omega) (by omega);rw [List.take_of_length_le (by rw [Ew.out];exact Nat.le_refl _)] at Ol;have HF:=ab (And.intro hg2 (And.intro Ol zN));clear hp hg2 Ol zN hRl;go_wp2;go_ret;exact ⟨gg,gr2,Rs,rfl,HF.out.1,HF.out.2.1,HF.out.2.2⟩
end
section
variable {Yo : an}
theorem cp{α:Type}(l:List α)(d x:α)(i j:Nat)(hi:i<l.length):(l.set i x).getD j d=if j=i then x else l.getD j d:=by
 by_cases e:j=i
 ·subst e;rw [if_pos rfl]
  simp [List.getD,List.getElem?_set_self hi]
 ·rw [if_neg e]
  simp [List.getD,List.getElem?_set_ne (Ne.symm e)]
theorem RowsAt.put{Z Y:an}{w w':World}{B i:Nat}{Rs:List Rw}(_:RowsAt Z w B Rs)(hi:i<Rs.length){g gc:Nat}{L:List Cl}{wrap:Bool}(hr:RowAt Y w' B g gc L wrap)(ho:¬ Y g/\¬ Y gc)
  (hk:∀ j,j<Rs.length->j≠i->RowAt Y w' B (Rs.getD j r0).g (Rs.getD j r0).gc (Rs.getD j r0).L (Rs.getD j r0).wrap) (Ap:∀ j,j<Rs.length->j≠i->¬ Y (Rs.getD j r0).g/\¬ Y (Rs.getD j r0).gc) (ha:∀ j,j<Rs.length->j≠i->g≠(Rs.getD j r0).g/\gc≠(Rs.getD j r0).gc)
  (hb:∀ j k,j<Rs.length->k<Rs.length->j≠k->(Rs.getD j r0).g≠(Rs.getD k r0).g/\(Rs.getD j r0).gc≠(Rs.getD k r0).gc):RowsAt Y w' B (Rs.set i ⟨g,gc,L,wrap⟩):=by
 refine ⟨fun j hj=>?_,fun j hj=>?_,fun j k hj Eu hjk=>?_⟩
 ·rw [List.length_set] at hj;rw [cp _ _ _ _ _ hi]
  by_cases e:j=i
  ·rw [if_pos e];exact hr
  ·rw [if_neg e];exact hk j hj e
 ·rw [List.length_set] at hj;rw [cp _ _ _ _ _ hi]
  by_cases e:j=i
  ·rw [if_pos e];exact ho
  ·rw [if_neg e];exact Ap j hj e
 ·rw [List.length_set] at hj Eu;rw [cp _ _ _ _ _ hi,cp _ _ _ _ _ hi]
  by_cases e:j=i
  ·have e2:k≠i:=fun e2=>hjk (e.trans e2.symm)
   rw [if_pos e,if_neg e2];exact ha k Eu e2
  ·rw [if_neg e]
   by_cases e2:k=i
   ·rw [if_pos e2];exact ⟨Ne.symm (ha j hj e).1,Ne.symm (ha j hj e).2⟩
   ·rw [if_neg e2];exact hb j k hj Eu hjk
theorem GridY.part{w:World}{B gg gr wd:Nat}{Rs:List Rw}(h:GridY Yo w B gg gr wd Rs):∃ cap,PartAt w B gg wd (.slice (some ⟨gr,0,none⟩) Rs.length cap) (ptrs Rs) Rs:=by
 obtain ⟨Z,cap,h1,h2,h3,h4,h5,h6,h7,h8,_⟩:=h;exact ⟨cap,Z,h1,h2,h3,h4,h5,(fun b e=>by
  have:gr=b:=by simpa [Value.ownBlock] using e
  subst this;exact h6),h7,h8⟩
theorem GridY.put{w w':World}{B gg gr wd i:Nat}{Rs:List Rw}(h:GridY Yo w B gg gr wd Rs)(hi:i<Rs.length)(hb:Below w.heap.size w w'){g gc:Nat}{L:List Cl}{wrap:Bool}(hr:RowAt (fun b=>w.heap.size<=b) w' w.heap.size g gc L wrap)(hl:L.length=wd):GridY Yo (w'.setCell ⟨gr,i,none⟩ (cL (some g))) B gg gr wd (Rs.set i ⟨g,gc,L,wrap⟩)/\(∃ u,w'.cell? ⟨gr,i,none⟩=some u)/\w'.frozen? ⟨gr,i,none⟩=false:=by
 obtain ⟨cap',hp⟩:=h.part;have hap:=hp.apart (b:=gr) rfl;have hlt:=h.lt;obtain ⟨Z,cap,h1,h2,h3,h4,h5,h6,h7,h8,h9,h10⟩:=h;have CM:=hr.lt;have hu:=(Upd.refl (fun b=>b=gr) w').setCell (p:=⟨gr,i,none⟩) (.inl rfl) (cL (some g));have h4':=h4.below hb;have hcc:=jq h4' i (by rw [bn];exact hi);refine ⟨?_,⟨_,hcc.1⟩,hcc.2⟩;have hpt:=om h4' i (by rw [bn];exact hi) (some g);have he:(ptrs Rs).set i (some g)=ptrs (Rs.set i ⟨g,gc,L,wrap⟩):=by unfold ptrs;rw [List.map_set]
 rw [he] at hpt;have FU:=hu.keep.has (h2.below hb h2.lt) (fun e=>hap.1 e);refine ⟨fun b=>Z b\/(w.heap.size<=b/\b<w'.heap.size/\b≠g/\b≠gc),cap,fun b hz=>?_,by rw [List.length_set];exact FU,h3,by rw [List.length_set];exact hpt,?_,?_,?_,fun j hj=>?_,by rw [List.length_set];exact h9,by rw [List.length_set];exact h10.1,fun x hx=>h10.2 x (by
  have:=hb.size;have:=hu.size
  rcases hx with (hz | hz) | hz
  ·exact .inl hz
  ·exact .inr hz.1
  ·exact .inr (by omega))⟩
 ·have:=hu.size
  rcases hz with hz | hz
  ·have:=h1 b hz;have:=hb.size;omega
  ·omega
 ·rintro (hz | hz)
  ·exact h5 hz
  ·omega
 ·rintro (hz | hz)
  ·exact h6 hz
  ·omega
 ·refine h7.put hi ((hr.tight.base (B':=B) (by omega)).keep (hu.keep.mono fun b _ hz=>?_) fun b _ hz=>.inr hz) ?_ (fun j hj hne=>?_) (fun j hj hne=>?_) (fun j hj hne=>?_) h7.apart
  ·rcases hz with hz | hz | hz <;> omega
  ·exact ⟨fun hz=>by rcases hz with hz | hz;have:=h1 _ hz;omega;exact hz.2.2.1 rfl,fun hz=>by rcases hz with hz | hz;have:=h1 _ hz;omega;exact hz.2.2.2 rfl⟩
  ·exact ((h7.row j hj).below hb).keep (hu.keep.mono fun b _ hz=>by
    rcases hz with hz | rfl | rfl
    ·exact fun e=>h6 (e ▸ hz)
    ·exact (hap.2 j hj).1
    ·exact (hap.2 j hj).2) fun b _ hz=>.inl hz
  ·have:=h7.lt j hj;exact ⟨fun hz=>by rcases hz with hz | hz;exact (h7.out j hj).1 hz;omega,fun hz=>by rcases hz with hz | hz;exact (h7.out j hj).2 hz;omega⟩
  ·have:=h7.lt j hj;exact ⟨by omega,by omega⟩
 ·rw [List.length_set] at hj;rw [cp _ _ _ _ _ hi]
  by_cases e:j=i
  ·rw [if_pos e];exact hl
  ·rw [if_neg e];exact h8 j hj
theorem mQ(B gg gr wd i:Nat)(Rs:List Rw)(b:Bool)(w:World)(h:GridY Yo w B gg gr wd Rs)(hi:i<Rs.length):Calls Tryz.prog 71 #[.pointer (some ⟨(Rs.getD i r0).g,0,none⟩),.bool b] w fun e w'=>e=.returned (.tuple #[])/\GridY Yo w' B gg gr wd (Rs.set i ⟨(Rs.getD i r0).g,(Rs.getD i r0).gc,(Rs.getD i r0).L,b⟩)/\Upd (fun x=>x=(Rs.getD i r0).g\/x=(Rs.getD i r0).gc) w w':=by
 obtain ⟨cap',hp⟩:=h.part;have hap:=hp.apart (b:=gr) rfl;have Ll:=hp.gapart;obtain ⟨Z,cap,h1,h2,h3,h4,h5,h6,h7,h8,h9,h10⟩:=h;refine (tB Z B _ _ _ _ b w (h7.row i hi)).mono ?_;rintro e w' ⟨rfl,hr,hu⟩;refine ⟨rfl,⟨Z,cap,fun b hz=>⟨(h1 b hz).1,Nat.lt_of_lt_of_le (h1 b hz).2 hu.size⟩,?_,h3,?_,h5,h6,?_,fun j hj=>?_,by rw [List.length_set];exact h9,by rw [List.length_set];exact h10.1,fun x hx=>h10.2 x (hx.imp id (Nat.le_trans hu.size))⟩,hu⟩
 ·rw [List.length_set];exact hu.keep.has h2 (fun e=>by rcases e with e | e;exact (Ll i hi).1 e.symm;exact (Ll i hi).2 e.symm)
 ·have he:ptrs (Rs.set i ⟨(Rs.getD i r0).g,(Rs.getD i r0).gc,(Rs.getD i r0).L,b⟩)=ptrs Rs:=by
   unfold ptrs;rw [List.map_set]
   apply List.ext_getElem?
   intro j
   by_cases e:j=i
   ·subst e;rw [List.getElem?_set_self (by rw [List.length_map];exact hi)]
    simp [List.getD,List.getElem?_eq_getElem hi]
   ·rw [List.getElem?_set_ne (Ne.symm e)]
  rw [he,List.length_set];exact di (hu.keep.own h4.ptrs fun b hb e=>by
   have:gr=b:=by simpa [Value.ownBlock] using hb
   subst this
   rcases e with e | e
   ·exact (hap.2 i hi).1 e.symm
   ·exact (hap.2 i hi).2 e.symm)
 ·refine h7.put hi hr (h7.out i hi) (fun j hj hne=>(h7.row j hj).upd hu (fun b hz e=>by rcases e with e | e;exact (h7.out i hi).1 (e ▸ hz);exact (h7.out i hi).2 (e ▸ hz)) (fun e=>by rcases e with e | e;exact (h7.apart j i hj hi hne).1 e;exact h7.cross j i hj hi e) (fun e=>by rcases e with e | e;exact h7.cross i j hi hj e.symm;exact (h7.apart j i hj hi hne).2 e)) (fun j hj _=>h7.out j hj) (fun j hj hne=>h7.apart i j hi hj (Ne.symm hne)) h7.apart
 ·rw [List.length_set] at hj;rw [cp _ _ _ _ _ hi]
  by_cases e:j=i
  ·rw [if_pos e];exact h8 i hi
  ·rw [if_neg e];exact h8 j hj
theorem tq(gg:Nat)(v:Option Addr)(n cap:Nat)(w:World)(c1:w.cell? ⟨gg,1,none⟩=some (.slice v n cap)):Calls Tryz.prog 95 #[.pointer (some ⟨gg,0,none⟩)] w fun e w'=>e=.returned (.int .i64 n)/\w=w':=by
 go_enter Tryz.func95,Tryz.ntmps95
 go_wp2;go_ret;exact ⟨af,rfl⟩
theorem vJ(gg gr wd n cap i:Nat)(Zr:an)(Br g gc:Nat)(L:List Cl)(wrap:Bool)(w:World)(c0:w.cell? ⟨gg,0,none⟩=some (.int .i64 wd))(c1:w.cell? ⟨gg,1,none⟩=some (.slice (some ⟨gr,0,none⟩) n cap))(Bi:n<=cap)(u:Value)(cr:w.cell? ⟨gr,i,none⟩=some u)(fr:w.frozen? ⟨gr,i,none⟩=false)(hi:i<n)(hn:n<=1024)(hr:RowAt Zr w Br g gc L wrap)(hl:L.length=wd) :
  Calls Tryz.prog 174 #[.pointer (some ⟨gg,0,none⟩),.int .i64 i,.pointer (some ⟨g,0,none⟩)] w fun e w'=>e=.returned (.bool true)/\∃ w1,Below w.heap.size w w1/\w'=w1.setCell ⟨gr,i,none⟩ (cL (some g)):=by
 have HH:=ab (fun u:Growth w=>tq gg _ n cap (ext w u) (aj c1 u));have HW:=ab (fun u:Growth w=>mS _ _ g gc L wrap (ext w u) (hr.below u.ok));rw [hl] at HW;have hgr:=World.block_lt_of_cell? w ⟨gr,i,none⟩ cr;have d0:=aj c0;have d1:=aj c1;have d2:=aj cr;have d3:=aD hgr fr;have EK:decide ((i:Int)<0)=false:=ai (by omega);have Iw:decide ((n:Int)<=i)=false:=ai (by omega);have I0:decide (n<=i)=false:=ai (by omega);have hne:((wd:Int) != (wd:Int))=false:=by simp
 clear hr hl c0 c1 cr fr hgr
 go_enter Tryz.func174,Tryz.ntmps174
 go_wp2;refine aI (by kernel_rfl) (by kernel_rfl) ?_
 repeat (go_big_quiet_step (((first | (go_at_call 95;exact aG (HH.out _)) | (go_at_call 70;exact aG (HW.out _))))))
 refine wpQuiet_nil ?_;intro _ hw';obtain ⟨u,hw''⟩:=hw';subst hw'';have hb:=u.ok;have e1:=d1 u;have e2:=d2 u;have e3:=d3 u;obtain ⟨w1,Ce⟩:=ae (ext w u);have HB:=ab (show Below w.heap.size w w1 by rw [Ce];exact u.ok);rw [<-Ce] at e1 e2 e3 ⊢;clear Ce hb d0 d1 d2 d3 Iw I0 hne;go_wp2;go_ret;exact ⟨af,w1,HB.out,rfl⟩
end
theorem dj{w:World}{B g n c:Nat}(h:w.ownsRow B 147 2 (.slice (some ⟨g,0,none⟩) n c) n (madeCells (Value.agg #[.int .i64 0,.slice none 0 0]).cells (n * 2)).toList):HeldE cellE (fun b=>b=g) w (.slice (some ⟨g,0,none⟩) n c) (List.replicate n zc):=by
 have h2:=(mV (Z:=fun _=>True) h).held (Z:=fun _=>True) (fun _ _ _=>trivial);obtain ⟨ao,cap,e,h3,h4,h5,h6⟩:=h2;refine ⟨ao,cap,e,h3,h4,h5,fun i hi=>?_⟩;obtain ⟨b,off,e1,hb,_,C,hC,hr⟩:=h6 i hi;subst e1;simp only [Value.slice.injEq,Option.some.injEq,Addr.mk.injEq] at e;obtain ⟨⟨rfl,rfl,_⟩,_⟩:=e;rw [List.length_replicate] at hi;rw [show (List.replicate n zc).getD i cellE.zero=zc from by simp [List.getD,List.getElem?_replicate,hi]] at hr ⊢;obtain ⟨tv,rfl,ht⟩:=cell_rep.1 hr;refine ⟨g,0,rfl,hb,rfl,_,hC,cell_rep.2 ⟨tv,rfl,?_⟩⟩;obtain ⟨a,c2,rfl,k1,k2,k3,_⟩:=ht;exact ⟨a,c2,rfl,k1,k2,k3,fun j hj=>absurd hj (Nat.not_lt_zero _)⟩
def jt(a b:List Ln):Bool:=decide (a=b)
theorem rf(a:List Ln):jt a a=true:=by simp [jt]
theorem vV{a b:List Ln}(hl:b.length=a.length)(h:∀ j,j<a.length->a.getD j zl=b.getD j zl):jt a b=true:=by
 unfold jt;rw [decide_eq_true_eq]
 apply List.ext_getElem hl.symm
 intro i h1 h2;have:=h i h1
 simpa [List.getD,List.getElem?_eq_getElem h1,List.getElem?_eq_getElem h2] using this
theorem tH{a b:List Ln}(j:Nat)(h:a.getD j zl≠b.getD j zl):jt a b=false:=by
 unfold jt;rw [decide_eq_false_iff_not];rintro rfl;exact h rfl
theorem tI{a b:List Ln}(h:¬ b.length=a.length):jt a b=false:=by
 unfold jt;rw [decide_eq_false_iff_not];rintro rfl;exact h rfl
def AlikeL(a b:List Ln)(k:Nat):Prop:=∀ j,j<k->a.getD j zl=b.getD j zl
theorem AlikeL.next{a b:List Ln}{k:Nat}(h:AlikeL a b k)(e:a.getD k zl=b.getD k zl):AlikeL a b (k+1):=by
 intro j hj
 by_cases e':j=k
 ·subst e';exact e
 ·exact h j (by omega)
theorem rg(Z Y:an)(v u:Value)(a b:List Ln)(w:World)(hx:HeldE lineE Z w v a)(hy:HeldE lineE Y w u b):Calls Tryz.prog 78 #[v,u] w (Gives w (.bool (jt a b))):=by
 have NF:=hx.max;obtain ⟨ao,ca,rfl⟩:=hx.len;obtain ⟨bo,cb,rfl⟩:=hy.len;obtain ⟨_,_,hc⟩:=fj hx;obtain ⟨_,_,hd⟩:=fj hy;have HC:=ab hc;have HD:=ab hd;clear hc hd hx hy
 by_cases hl:b.length=a.length
 ·have HL:=ab hl;rw [hl];clear hl
  go_enter Tryz.func78,Tryz.ntmps78
  go_wp2
  go_loopw [5] (fun i wr=>∃ k:Nat,k<=a.length/\i=.int .i64 k/\AlikeL a b k/\Below w.heap.size w wr) (fun i _=>a.length - (intOf i).toNat)
  case atStart=>exact ⟨0,Nat.zero_le _,rfl,(fun j hj=>by omega),Below.refl _ _⟩
  case round =>
   obtain ⟨k,hk,rfl,I1,zN⟩:=hrel;have HA:=ab I1;have z5:=ab zN;clear I1 zN
   by_cases hlt:k<a.length
   ·obtain ⟨b1,o1,tv,rfl,hb1,_,c0,c1,hh⟩:=HC.out k hlt;obtain ⟨b2,o2,tu,rfl,hb2,_,d0,d1,hi⟩:=HD.out k (by rw [HL.out];exact hlt);have c0:=(z5.out.cell (p:=⟨b1,o1+k * 2,none⟩) hb1).trans c0;have c1:=(z5.out.cell (p:=⟨b1,o1+k * 2+1,none⟩) hb1).trans c1;have d0:=(z5.out.cell (p:=⟨b2,o2+k * 2,none⟩) hb2).trans d0;have d1:=(z5.out.cell (p:=⟨b2,o2+k * 2+1,none⟩) hb2).trans d1;have Ji:=HA.out.next;have hno:=tH (a:=a) (b:=b) k;obtain ⟨⟨T,K⟩,Ep⟩ : ∃ y,y=a.getD k zl:=⟨_,rfl⟩;obtain ⟨⟨T',K'⟩,JZ⟩ : ∃ y,y=b.getD k zl:=⟨_,rfl⟩;rw [<-Ep] at c1 hh Ji hno;rw [<-JZ] at d1 hi Ji hno;simp only at c1 hh d1 hi;have HH:=ab (hh.below z5.out);have HI:=ab (hi.below z5.out);have Bf:=ab Ji;have Nb:=ab hno;clear Ep JZ hh hi Ji hno;obtain ⟨wk,Ki⟩:=ae (wr);subst Ki;have c0:=aj c0;have c1:=aj c1;have d0:=aj d0;have d1:=aj d1
    by_cases hk:K=K'
    ·subst hk;have Eu:(K != K)=false:=by simp
     have HQ:=ab (fun u:Growth wk=>re _ _ tv tu T T' (ext wk u) (HH.out.below u.ok) (HI.out.below u.ok))
     cases hs:kq T T' with
     |true =>
      have HS:=ab hs;rw [hs] at HQ;clear hs Eu
      cases K
      all_goals
       go_wp2;refine aI (by kernel_rfl) (by kernel_rfl) ?_
       repeat (go_big_quiet_step (((go_at_call 146;exact dY (HQ.out _)))))
       refine wpQuiet_nil ?_;intro _ hw';obtain ⟨u,hw''⟩:=hw';subst hw'';have HE:=ab (aW z5.out u);go_wp2
       go_roundw
       case rel=>exact ⟨k+1,by omega,by go_num,Bf.out (by have:=of_decide_eq_true HS.out;rw [this]),HE.out⟩
       case measure=>simp [intOf];omega
     |false =>
      have HS:=ab hs;rw [hs] at HQ;clear hs Eu
      cases K
      all_goals
       go_wp2;refine aI (by kernel_rfl) (by kernel_rfl) ?_
       repeat (go_big_quiet_step (((go_at_call 146;exact dY (HQ.out _)))))
       refine wpQuiet_nil ?_;intro _ hw';obtain ⟨u,hw''⟩:=hw';subst hw'';have HE:=ab (aW z5.out u);go_wp2;go_ret;exact ⟨al (by rw [Nb.out (fun e=>of_decide_eq_false HS.out (congrArg Prod.fst e))];try rfl),HE.out⟩
    ·have HK:=ab hk;clear hk
     cases K <;> cases K' <;> first | exact absurd rfl HK.out | skip
     all_goals
      go_wp2;refine aI (by kernel_rfl) (by kernel_rfl) ?_
      repeat (go_big_quiet_step ((fail)))
      refine wpQuiet_nil ?_;intro _ hw';obtain ⟨u,hw''⟩:=hw';subst hw'';have HE:=ab (aW z5.out u);go_wp2;go_ret;exact ⟨al (by rw [Nb.out (fun e=>HK.out (congrArg Prod.snd e))];try rfl),HE.out⟩
   ·obtain rfl:k=a.length:=by omega
    have E:=ab (vV HL.out HA.out);go_wp2;go_ret;exact ⟨al (by rw [E.out];try rfl),z5.out⟩
 ·have E:=ab (tI hl);have hl2:¬ a.length=b.length:=fun h=>hl h.symm
  go_enter Tryz.func78,Tryz.ntmps78
  go_wp2;go_ret;exact ⟨al (by rw [E.out];try rfl),Below.refl _ _⟩
def fG(n0:Nat)(l:Ln):Nat:=if l.1.length=0\/1024<l.1.length then 3 else if bz l.1=false then 5 else if l.1.length≠n0 then 3 else 0
def fm(Ls:List Ln):Nat:=(Ls.getD 0 zl).1.length
def rU(Ls:List Ln):Prop:=∀ k,k<Ls.length->fG (fm Ls) (Ls.getD k zl)=0
def lN(Ls:List Ln)(i c:Nat):Prop:=i<Ls.length/\(∀ j,j<i->fG (fm Ls) (Ls.getD j zl)=0)/\fG (fm Ls) (Ls.getD i zl)=c/\c≠0
theorem mZ{Ls:List Ln}{k i c:Nat}(hk:k<Ls.length)(h:∀ j,j<k->fG (fm Ls) (Ls.getD j zl)=0)(hn:fG (fm Ls) (Ls.getD k zl)≠0)(hb:lN Ls i c):i=k/\c=fG (fm Ls) (Ls.getD k zl):=by
 obtain ⟨h1,h2,h3,h4⟩:=hb
 rcases Nat.lt_trichotomy i k with hl | rfl | hl
 ·exact absurd (h3.symm.trans (h i hl)) h4
 ·exact ⟨rfl,h3.symm⟩
 ·exact absurd (h2 k hl) hn
def WrongTold(w:World)(Ls:List Ln)(e:Ending)(w':World):Prop:=(rU Ls->e=.returned (.tuple #[.int .i64 (-1),.int .i64 0]))/\(∀ i c:Nat,lN Ls i c->e=.returned (.tuple #[.int .i64 i,.int .i64 c]))/\Below w.heap.size w w'
theorem WrongTold.bad{w w':World}{Ls:List Ln}{k c:Nat}(hk:k<Ls.length)(h:∀ j,j<k->fG (fm Ls) (Ls.getD j zl)=0)(hc:fG (fm Ls) (Ls.getD k zl)=c)(hn:c≠0)(hb:Below w.heap.size w w'):WrongTold w Ls (.returned (.tuple #[.int .i64 k,.int .i64 c])) w':=by
 refine ⟨fun hg=>absurd (hc.symm.trans (hg k hk)) hn,fun i c' hf=>?_,hb⟩;obtain ⟨rfl,rfl⟩:=mZ hk h (by rw [hc];exact hn) hf;rw [hc]
theorem ym(W N:Nat)(hW:W<=1024)(hN:N<=1024)(w:World):Calls Tryz.prog 87 #[.int .i64 W,.int .i64 N] w (fk lineE (fun b=>w.heap.size<=b) 104 w (List.replicate N (List.replicate W zc,false))):=by
 obtain ⟨i0,hi,hz0,hz1,hz2⟩:=info_parts cD;have HI:=ab (And.intro hi (And.intro hz0 (And.intro hz1 hz2)));clear hi hz0 hz1 hz2
 go_enter Tryz.func87,Tryz.ntmps87
 go_wp2
 go_loopw [5,6] (fun t i wr=>∃ k:Nat,k<=N/\i=.int .i64 k/\OwnE lineE (fun b=>w.heap.size<=b) wr w.heap.size 104 t (List.replicate k (List.replicate W zc,false))/\Below w.heap.size w wr) (fun _ i _=>N - (intOf i).toNat)
 case atStart=>exact ⟨0,Nat.zero_le _,rfl,OwnE.nil _ _ _ _ _,Below.refl _ _⟩
 case round =>
  obtain ⟨k,hk,rfl,hown,zN⟩:=hrel;have z5:=ab zN;have HO:=ab hown;clear zN hown;obtain ⟨t,MV⟩:=ae (u5);rw [<-MV] at HO ⊢;clear MV
  by_cases hlt:k<N
  ·go_wp2_with (at_make;refine wpList_make_full wr rfl (.tmp 13) (.tmp 13) 102 rfl w.heap.size 147 i0 (.agg #[.int .i64 0,.slice none 0 0]) 2 Tryz.underlying102 HI.out.1 HI.out.2.1 HI.out.2.2.1 .i64 .i64 _ _ W rfl rfl rfl rfl (by rw [HI.out.2.2.2];omega) (by unfold maxLen;omega) z5.out.size ?_)
   intro w1 hown1 hg1;have b1:Below wr.heap.size wr w1:=(Below.refl _ _).grown hg1 (Nat.le_refl _) (by intro k hk;cases hk);have hw0:=z5.out.size;have hc1:HeldE cellE (fun b=>b=wr.heap.size) w1 (.slice (some ⟨wr.heap.size,0,none⟩) W W) (List.replicate W zc):=dj hown1;have AF:=HO.out.lt;have hs:List.replicate (k+1) ((List.replicate W zc,false):Ln)=List.replicate k (List.replicate W zc,false)++[(List.replicate W zc,false)]:=List.replicate_succ';obtain ⟨P0,hP⟩:=ae (List.replicate k ((List.replicate W zc,false):Ln));have hpl:P0.length<=1024:=by rw [hP,List.length_replicate];omega
   rw [<-hP] at HO hs;obtain ⟨Q,hQ⟩:=ae (List.replicate (k+1) ((List.replicate W zc,false):Ln));rw [<-hQ] at hs;have HS:=ab hs;have HQ:=ab hQ;have b2:=zI w1 (.cells [Value.slice (some ⟨wr.heap.size,0,none⟩) W W,.bool false].toArray 104);have HX:=ab (show HeldE lineE (fun b=>w.heap.size<=b/\t.ownBlock≠some b) (w1.alloc (.cells [Value.slice (some ⟨wr.heap.size,0,none⟩) W W,.bool false].toArray 104)) (.slice (some ⟨w1.heap.size,0,none⟩) 1 1) [(List.replicate W zc,false)] from aO (Y:=fun b=>b=wr.heap.size) [Value.slice (some ⟨wr.heap.size,0,none⟩) W W,.bool false] (List.replicate W zc,false) (line_rep.2 ⟨_,rfl,hc1⟩) (fun b _ e=>⟨by first | omega | (have h9:=b1.size;omega) | (have e9:b=wr.heap.size:=‹_›;omega) | (subst_vars;omega),fun e2=>by have:=(AF _ e2).2;omega⟩) ⟨by first | omega | (have h9:=b1.size;omega) | (have e9:b=wr.heap.size:=‹_›;omega) | (subst_vars;omega),fun e2=>by have:=(AF _ e2).2;have:=b1.size;omega⟩);have Fn:=ab ((HO.out.below b1).below b2);have AM:=ab ((z5.out.trans (b1.mono z5.out.size)).trans (b2.mono (Nat.le_trans z5.out.size b1.size)));clear hown1 hg1 b1 b2 hc1 AF hP hQ hs HO
   go_wp2_with (at_builtin;refine aw (E:=lineE) (Z:=fun b=>w.heap.size<=b) rfl (.tmp 12) (.tmp 16) 22 rfl (.agg #[.slice none 0 0,.bool false]) 32 Tryz.underlying22 bS rfl (by decide) rfl rfl Fn.out HX.out (by simp only [List.length_singleton];omega) (by simp only [List.length_singleton];omega) AM.out.size ?_)
   intro v3 w3 DF hb3 _ _;rw [<-HS.out,HQ.out] at DF;have H2:=ab DF;have H3:=ab (AM.out.trans hb3);clear DF hb3;go_wp2
   go_roundw
   case rel=>exact ⟨k+1,by omega,by go_num,H2.out,H3.out⟩
   case measure=>simp [intOf] <;> omega
  ·obtain rfl:k=N:=by omega
   go_wp2;go_ret;exact ⟨_,rfl,HO.out,z5.out⟩
def iP(n at_:Int)(p:List Cl):Int:=if at_<0\/n<at_\/n - at_<p.length then 3 else if bz p=true then 0 else 5
theorem kw(Z Y:an)(B g gc:Nat)(L p:List Cl)(wrap:Bool)(v:Value)(w:World)(h:RowAt Z w B g gc L wrap)(hv:HeldE cellE Y w v p)(hY:∀ b,Y b->b≠g/\b≠gc)(hZ:∀ b,w.heap.size<=b->Z b)(a:Nat)(hle:a+p.length<=L.length)(hp:bz p=true) :
  Calls Tryz.prog 188 #[.pointer (some ⟨g,0,none⟩),.int .i64 a,v] w (js Z B g gc w (aM L p a) (wrap && !bd L p a)):=by
 cases p with
 |nil =>
  rw [qK,nW,Bool.not_false,Bool.and_true];exact pM Z Y B g gc L wrap v w h hv a (by simpa using hle)
 |cons c p=>exact tG Z Y B g gc L (c :: p) wrap v w h hv hY hZ a hle hp (by simp)
theorem rj{n:Nat}{at_:Int}{p:List Cl}(h:iP n at_ p=0):∃ a:Nat,at_=a/\a+p.length<=n/\bz p=true:=by
 unfold iP at h
 split at h
 ·cases h
 ·rename_i h1
  split at h
  ·rename_i h2
   obtain ⟨a,rfl⟩:=Int.eq_ofNat_of_zero_le (show 0<=at_ by omega);exact ⟨a,rfl,by omega,h2⟩
  ·cases h
theorem yU(Z Y:an)(B g gc:Nat)(L:List Cl)(wrap:Bool)(col wide:Int)(v:Value)(xs:List Int)(w:World)(hZ:∀ b,w.heap.size<=b->Z b)(h:RowAt Z w B g gc L wrap)(hv:HeldE (aE .i32) Y w v xs)(hg:iP L.length col (ofC wide xs)=0) :
  Calls Tryz.prog 115 #[.pointer (some ⟨g,0,none⟩),.int .i64 col,.int .i64 wide,v] w (js Z B g gc w (aM L (ofC wide xs) col.toNat) (wrap && !bd L (ofC wide xs) col.toNat)):=by
 obtain ⟨a,rfl,NF,hsp⟩:=rj hg;rw [Int.toNat_natCast];have hlt:=h.lt;have Kb:=ab hlt;have HR:=ab h;have HO:=ab (yh (fun b=>b≠g/\b≠gc) Y wide v xs w (fun b hb=>by omega) hv);have OH:=ab NF;have HZ:=ab hZ;have Nw:=ab hsp;have hvm:=hv.max;obtain ⟨ao,ca,rfl⟩:=hv.len;clear h hg hlt NF hsp hv hZ
 go_enter Tryz.func115,Tryz.ntmps115
 go_wp2_with fail
 refine HO.out.mono ?_;rintro e w1 ⟨v1,rfl,AA,b1⟩;have HH:=ab (AA.held (fun b hb _=>by have:=Kb.out;exact ⟨by omega,by omega⟩));have HU:=ab (Upd.ofBelow (S:=fun b=>b=g\/b=gc) b1);have Lg:=ab (HR.out.below b1);have Gg:=ab b1.size;clear AA b1
 go_wp2_with fail
 refine (kw _ _ _ g gc L _ wrap _ w1 Lg.out HH.out (fun _ h=>h) (fun b hb=>HZ.out b (Nat.le_trans Gg.out hb)) a OH.out Nw.out).mono ?_;rintro e w2 ⟨rfl,hr2,u2⟩;have HE:=ab (And.intro hr2 (HU.out.trans u2));clear hr2 u2;go_wp2;go_ret;exact ⟨rfl,HE.out.1,HE.out.2⟩
theorem rh{n:Nat}{a:Nat}{p:List Cl}(h:a+p.length<=n)(hs:bz p=true):iP n (a:Int) p=0:=by
 unfold iP;rw [if_neg (by omega),if_pos hs]
def Turned3Z(Z:an)(w:World)(B g gc:Nat)(r:List Cl × Bool × Bool)(e:Ending)(w':World):Prop:=e=.returned (.bool r.2.2)/\RowAt Z w' B g gc r.1 r.2.1/\Upd (fun b=>b=g\/b=gc) w w'
def Turned3(w:World)(B g gc:Nat)(r:List Cl × Bool × Bool)(e:Ending)(w':World):Prop:=e=.returned (.bool r.2.2)/\RowAt (fun _=>True) w' B g gc r.1 r.2.1/\Upd (fun b=>b=g\/b=gc) w w'
theorem Turned3Z.same{Z:an}{w w':World}{B g gc:Nat}{L:List Cl}{wrap:Bool}(h:RowAt Z w B g gc L wrap)(b:Below w.heap.size w w'):Turned3Z Z w B g gc (L,wrap,false) (.returned (.bool false)) w':=⟨rfl,h.below b,.ofBelow b⟩
theorem Turned3.same{w w':World}{B g gc:Nat}{L:List Cl}{wrap:Bool}(h:RowAt (fun _=>True) w B g gc L wrap)(b:Below w.heap.size w w'):Turned3 w B g gc (L,wrap,false) (.returned (.bool false)) w':=⟨rfl,h.below b,.ofBelow b⟩
theorem RowAt.lower{Z:an}{w:World}{B g gc:Nat}{L:List Cl}{wrap:Bool}(h:RowAt Z w B g gc L wrap):RowAt (fun b=>b<w.heap.size) w B g gc L wrap:=h.keep (.refl _ _) fun b hb _=>hb
theorem RowAt.any{Z:an}{w:World}{B g gc:Nat}{L:List Cl}{wrap:Bool}(h:RowAt Z w B g gc L wrap):RowAt (fun _=>True) w B g gc L wrap:=h.keep (.refl _ _) fun b hb _=>trivial
section
section
variable {w w' : World} {B gg wd : Nat} {v v' : Value} {Xs Xs' : List (Option Nat)} {Rs : List Rw}
theorem PartAt.grow(h:PartAt w B gg wd v Xs Rs)(ho:OwnE ptrE (fun _=>True) w' B 113 v' Xs')(hb:Below B w w')(hk:KeepZ (fun b=>v.ownBlock≠some b) w w')(hd:∀ b,b<w.heap.size->v.ownBlock≠some b->v'.ownBlock≠some b):PartAt (w'.setCell ⟨gg,1,none⟩ v') B gg wd v' Xs' Rs/\w'.cell? ⟨gg,1,none⟩=some v/\w'.frozen? ⟨gg,1,none⟩=false:=by
 have hlt:=h.lt;have hga:v.ownBlock≠some gg:=fun e=>(h.apart e).1 rfl
 have hro:∀ i,i<Rs.length->v.ownBlock≠some (Rs.getD i r0).g/\v.ownBlock≠some (Rs.getD i r0).gc:=fun i hi=>⟨fun e=>((h.apart e).2 i hi).1 rfl,fun e=>((h.apart e).2 i hi).2 rfl⟩
 have Ll:=h.gapart;obtain ⟨Z,h1,h2,h3,h4,h5,h6,h7,h8⟩:=h;have Jr:=hk.has h2 hga;have hu:Upd (fun b=>v.ownBlock=some b) w w':=⟨hb.os,hb.tape,hb.output,hk.size,fun b hb' hn=>hk.block b hb' hn⟩;have h7':=h7.upd hu (fun b hz e=>h6 b e hz) (fun i hi=>hro i hi);have Io:=(Upd.refl (fun b=>b=gg) w').setCell (p:=⟨gg,1,none⟩) (.inl rfl) v';have hvg:∀ b,v'.ownBlock=some b->b≠gg:=fun b e e2=>by
  obtain ⟨C,hC⟩:=gR ho e;rw [e2] at hC;exact aH Jr hC (by decide)
 refine ⟨⟨Z,fun b hz=>⟨(h1 b hz).1,Nat.lt_of_lt_of_le (h1 b hz).2 (Nat.le_trans hk.size Io.size)⟩,?_,h3,di (Io.keep.own ho.ptrs fun b e=>hvg b e),h5,fun b e hz=>?_,h7'.upd Io (fun b hz e=>h5 (e ▸ hz)) (fun i hi=>Ll i hi),h8⟩,Jr.cell 1 _ rfl,Jr.free 1⟩
 ·have:=Jr.set 1 v'
  simpa using this
 ·by_cases e2:v.ownBlock=some b
  ·exact h6 b e2 hz
  ·exact hd b (h1 b hz).2 e2 e
end
def OfTold(sa:Nat->Addr)(w:World)(Ls:List Ln)(e:Ending)(w':World):Prop:=(rU Ls->∃ gg gr Rs,e=.returned (.tuple #[.pointer (some ⟨gg,0,none⟩),.nilIface])/\lI w' w.heap.size gg gr (fm Ls) Rs/\Rs.map aQ=Ls)/\(∀ i c:Nat,lN Ls i c->∃ u,e=.returned (.tuple #[.pointer none,u])/\F.IsErr sa w' u [(i:Int)] c)/\Below w.heap.size w w'
theorem OfTold.bad{sa:Nat->Addr}{w w':World}{Ls:List Ln}{k c:Nat}{u:Value}(hk:k<Ls.length)(h:∀ j,j<k->fG (fm Ls) (Ls.getD j zl)=0)(hc:fG (fm Ls) (Ls.getD k zl)=c)(hn:c≠0)(he:F.IsErr sa w' u [(k:Int)] c)(hb:Below w.heap.size w w'):OfTold sa w Ls (.returned (.tuple #[.pointer none,u])) w':=by
 refine ⟨fun hg=>absurd (hc.symm.trans (hg k hk)) hn,fun i c' hf=>?_,hb⟩;obtain ⟨rfl,rfl⟩:=mZ hk h (by rw [hc];exact hn) hf;exact ⟨u,rfl,by rw [hc];exact he⟩
end
def GridM(M:Nat)(w:World)(B gg gr wd:Nat)(Rs:List Rw):Prop :=
 M<=w.heap.size/\∃ (Z:an) (cap:Nat),(∀ b,Z b->B<=b/\b<M)/\gg<M/\gr<M/\(∀ i,i<Rs.length->(Rs.getD i r0).g<M/\(Rs.getD i r0).gc<M)/\Has w gg [.int .i64 wd,.slice (some ⟨gr,0,none⟩) Rs.length cap] 119/\B<=gg/\OwnE ptrE (fun _=>True) w B 113 (.slice (some ⟨gr,0,none⟩) Rs.length cap) (ptrs Rs)/\¬ Z gg/\¬ Z gr/\RowsAt Z w B Rs/\(∀ i,i<Rs.length->(Rs.getD i r0).L.length=wd)/\0<Rs.length/\Rs.length<=1024
theorem GridM.at{M:Nat}{w:World}{B gg gr wd:Nat}{Rs:List Rw}(h:GridM M w B gg gr wd Rs):lI w B gg gr wd Rs:=by
 obtain ⟨hM,Z,cap,h1,k1,k2,k3,h2,h3,h4,h5,h6,h7,h8,h9,h10⟩:=h;exact ⟨Z,cap,fun b hz=>⟨(h1 b hz).1,Nat.lt_of_lt_of_le (h1 b hz).2 hM⟩,h2,h3,h4,h5,h6,h7,h8,h9,h10,fun _ _=>trivial⟩
theorem GridM.keep{M:Nat}{S:an}{w w':World}{B gg gr wd:Nat}{Rs:List Rw}(h:GridM M w B gg gr wd Rs)(hu:Upd S w w')(hs:∀ b,B<=b->b<M->¬ S b):GridM M w' B gg gr wd Rs:=by
 obtain ⟨hM,Z,cap,h1,k1,k2,k3,h2,h3,h4,h5,h6,h7,h8⟩:=h;have hk:=hu.keep;refine ⟨Nat.le_trans hM hu.size,Z,cap,h1,k1,k2,k3,hk.has h2 (hs _ h3 k1),h3,?_,h5,h6,h7.upd hu (fun b hz=>hs b (h1 b hz).1 (h1 b hz).2) (fun i hi=>⟨hs _ (h7.lt i hi).2.2.2 (k3 i hi).1,hs _ (h7.lt i hi).2.2.1 (k3 i hi).2⟩),h8⟩;exact di (hk.own h4.ptrs fun b hb=>by
  have:gr=b:=by simpa [Value.ownBlock] using hb
  subst this;exact hs _ (h4.lt gr rfl).1 k2)
theorem GridM.below{M:Nat}{w w':World}{B gg gr wd:Nat}{Rs:List Rw}(h:GridM M w B gg gr wd Rs)(hb:Below w.heap.size w w'):GridM M w' B gg gr wd Rs:=h.keep (S:=fun _=>False) (.ofBelow hb) fun _ _ _ e=>e
section
variable {Yo : an}
def bE(n:Nat)(a:Int):Nat:=(min (max a 0) n).toNat
theorem fi(n:Nat)(a:Int):bE n a<=n:=by unfold bE;omega
def cy(n:Nat)(a b k:Int):Int:=min k ((bE n b:Int) - bE n a)
theorem lF(p:Value)(n:Nat)(hn:n<=1024)(a b k:Int)(w:World)(hh:Calls Tryz.prog 95 #[p] w fun e w'=>e=.returned (.int .i64 n)/\w=w'):Calls Tryz.prog 263 #[p,.int .i64 a,.int .i64 b,.int .i64 k] w fun e w'=>e=.returned (.tuple #[.int .i64 (bE n a),.int .i64 (bE n b),.int .i64 (cy n a b k)])/\w=w':=by
 have HH:=ab hh;have h1:min (max a 0) (n:Int)=(bE n a:Int):=by unfold bE;omega
 have h2:min (max b 0) (n:Int)=(bE n b:Int):=by unfold bE;omega
 have Dm:=fi n a;have hl2:=fi n b;have H3:=ab (show cy n a b k=min k ((bE n b:Int) - bE n a) from rfl);obtain ⟨f,hf⟩:=ae (bE n a);obtain ⟨t,ht⟩:=ae (bE n b);rw [<-hf] at h1 Dm H3;rw [<-ht] at h2 hl2 H3;have HF:=ab hf;have HT:=ab ht;have hw:IntKind.i64.wrap ((t:Int) - f)=(t:Int) - f:=by rw [IntKind.wrap_i64];omega
 clear hh hf ht
 go_enter Tryz.func263,Tryz.ntmps263
 go_wp2_with fail
 refine HH.out.mono ?_;rintro e w1 ⟨rfl,rfl⟩
 go_wp2_with fail
 refine HH.out.mono ?_;rintro e w1 ⟨rfl,rfl⟩;go_wp2;exact bodyPost_ret (v:=.tuple #[.int .i64 f,.int .i64 t,.int .i64 (min k ((t:Int) - f))]) (by simp [results,Tryz.results263,go_sem]) rfl ⟨al (by rw [<-HF.out,<-HT.out,H3.out]),rfl⟩
theorem pE(B gg gr wd f t:Nat)(Rs:List Rw)(w:World)(h:GridY Yo w B gg gr wd Rs)(IP:f<=t)(ht:t<=Rs.length):Calls Tryz.prog 264 #[.pointer (some ⟨gg,0,none⟩),.int .i64 f,.int .i64 t] w (fk ptrE (fun _=>True) 113 w (ptrs ((Rs.drop f).take (t - f)))):=by
 have HG:=ab h;have hsz:=h.sizes.2.1;clear h
 go_enter Tryz.func264,Tryz.ntmps264
 go_wp2
 go_loopw [7,8] (fun v i wr=>∃ k:Nat,f<=k/\k<=t/\i=.int .i64 k/\OwnE ptrE (fun _=>True) wr w.heap.size 113 v (ptrs ((Rs.drop f).take (k - f)))/\Below w.heap.size w wr) (fun _ i _=>t - (intOf i).toNat)
 case atStart=>exact ⟨f,Nat.le_refl _,IP,rfl,by rw [Nat.sub_self,List.take_zero];exact OwnE.nil _ _ _ _ _,Below.refl _ _⟩
 case round =>
  obtain ⟨k,hfk,hk,rfl,hown,zN⟩:=hrel;have z5:=ab zN;clear zN;obtain ⟨v,hv⟩:=ae (u7);rw [<-hv] at hown ⊢;have HO:=ab hown;clear hv hown
  by_cases hlt:k<t
  ·have Hc:k<Rs.length:=by omega
   have hr:=ie _ gg gr wd Rs k wr (HG.out.below z5.out) Hc;obtain ⟨p,hp⟩:=ae ((Rs.getD k r0).g);rw [<-hp] at hr;have CT:ptrs ((Rs.drop f).take (k+1 - f))=ptrs ((Rs.drop f).take (k - f))++[some p]:=by
    have e:k+1 - f=(k - f)+1:=by omega
    rw [e,List.take_succ_eq_append_getElem (by rw [List.length_drop];omega)];unfold ptrs;rw [List.map_append];have:(Rs.drop f)[k - f]'(by rw [List.length_drop];omega)=Rs.getD k r0:=by
     rw [List.getElem_drop]
     simp [List.getD,show f+(k - f)=k by omega,List.getElem?_eq_getElem Hc]
    rw [List.map_singleton,this,hp]
   have Gf:=ab CT;have hlen:(ptrs ((Rs.drop f).take (k - f))).length<=1024:=by rw [bn,List.length_take,List.length_drop];omega
   obtain ⟨X0,hX⟩:=ae (ptrs ((Rs.drop f).take (k - f)));rw [<-hX] at HO Gf hlen;have AF:=HO.out.lt;have b1:=zI wr (.cells [cL (some p)].toArray 113);have HU:=ab (show HeldE ptrE (fun b=>True/\v.ownBlock≠some b) (wr.alloc (.cells [cL (some p)].toArray 113)) (.slice (some ⟨wr.heap.size,0,none⟩) 1 1) [some p] from aO (Y:=fun _=>False) [cL (some p)] (some p) rfl (fun _ _ h=>h.elim) ⟨trivial,fun e=>by have:=(AF _ e).2;omega⟩);have A4:=ab (HO.out.below b1);have Ag:=ab (z5.out.trans (b1.mono z5.out.size));clear hX CT hp AF b1 HO
   go_wp2_with fail
   refine hr.mono ?_;rintro e w1 ⟨rfl,rfl⟩;clear hr
   go_wp2_with (at_builtin;refine aw (E:=ptrE) (Z:=fun _=>True) rfl (.tmp 15) (.tmp 19) 117 rfl (.pointer none) 8 Tryz.underlying117 fQ rfl (by decide) rfl rfl A4.out HU.out (by simp only [List.length_singleton];omega) (by simp only [List.length_singleton];omega) Ag.out.size ?_)
   intro v2 w2 Ap b2 _ _;rw [<-Gf.out] at Ap;have H2:=ab Ap;have AM:=ab (Ag.out.trans b2);clear Ap b2;go_wp2
   go_roundw
   case rel=>exact ⟨k+1,by omega,by omega,by go_num,H2.out,AM.out⟩
   case measure=>simp [intOf] <;> omega
  ·obtain rfl:k=t:=by omega
   go_wp2;go_ret;exact ⟨_,rfl,HO.out,z5.out⟩
def PtrsAt(w:World)(B:Nat)(v:Value)(Rs:List Rw):Prop :=
 ∃ Z:an,(∀ b,Z b->B<=b/\b<w.heap.size)/\OwnE ptrE (fun _=>True) w B 113 v (ptrs Rs)/\(∀ b,v.ownBlock=some b->¬ Z b)/\RowsAt Z w B Rs
section
variable {w w' : World} {B : Nat} {v v' : Value} {Rs : List Rw}
theorem PtrsAt.apart(h:PtrsAt w B v Rs){b:Nat}(hb:v.ownBlock=some b):∀ i,i<Rs.length->(Rs.getD i r0).g≠b/\(Rs.getD i r0).gc≠b:=by
 obtain ⟨Z,h1,h4,h6,h7⟩:=h;obtain ⟨C,hC⟩:=gR h4 hb;intro i hi;obtain ⟨⟨D,hD⟩,D',Ka⟩:=(h7.row i hi).types;exact ⟨fun e=>by rw [<-e] at hC;exact aH hD hC (by decide),fun e=>by rw [<-e] at hC;exact aH Ka hC (by decide)⟩
theorem PtrsAt.below(h:PtrsAt w B v Rs)(hb:Below w.heap.size w w'):PtrsAt w' B v Rs:=by
 obtain ⟨Z,h1,h4,h6,h7⟩:=h;exact ⟨Z,fun b hz=>⟨(h1 b hz).1,Nat.lt_of_lt_of_le (h1 b hz).2 hb.size⟩,h4.below hb,h6,h7.below hb⟩
theorem PtrsAt.next(h:PtrsAt w B v Rs){w2:World}{g gc:Nat}{L:List Cl}{wrap:Bool}(hBw:B<=w.heap.size)(hr:RowAt (fun b=>w.heap.size<=b) w' w.heap.size g gc L wrap)(hb:Below w.heap.size w w')(ho:OwnE ptrE (fun _=>True) w2 B 113 v' (ptrs Rs++[some g]))(hb2:Below B w' w2)(hk:KeepZ (fun b=>v.ownBlock≠some b) w' w2)(hd:∀ b,b<w'.heap.size->v.ownBlock≠some b->v'.ownBlock≠some b):PtrsAt w2 B v' (Rs++[⟨g,gc,L,wrap⟩]):=by
 have hap:=fun b (hb:v.ownBlock=some b)=>h.apart hb
 obtain ⟨Z,h1,h4,h6,h7⟩:=h;have hlt:=hr.lt;have hs:=h7.snoc (fun b hz=>(h1 b hz).2) hBw (Nat.le_refl _) hr hb;have hu:Upd (fun b=>v.ownBlock=some b) w' w2:=⟨hb2.os,hb2.tape,hb2.output,hk.size,fun b hb' hn=>hk.block b hb' hn⟩;have KB:∀ b,v.ownBlock=some b->b<w.heap.size:=fun b e=>(h4.lt b e).2
 have hat:∀ i,i<(Rs++[(⟨g,gc,L,wrap⟩ : Rw)]).length->(i<Rs.length/\(Rs++[(⟨g,gc,L,wrap⟩ : Rw)]).getD i r0=Rs.getD i r0)\/(Rs++[(⟨g,gc,L,wrap⟩ : Rw)]).getD i r0=⟨g,gc,L,wrap⟩:=fun i hi=>by
  rw [bU];rw [List.length_append,List.length_singleton] at hi
  by_cases e:i<Rs.length
  ·exact .inl ⟨e,if_pos e⟩
  ·right
   rw [if_neg e,show i - Rs.length=0 by omega]
   rfl
 refine ⟨_,fun b hz=>?_,?_,fun b e hz=>?_,hs.upd hu (fun b hz e=>?_) fun i hi=>?_⟩
 ·have:=hk.size
  rcases hz with hz | hz
  ·have:=h1 b hz;have:=hb.size;omega
  ·omega
 ·have:ptrs (Rs++[⟨g,gc,L,wrap⟩])=ptrs Rs++[some g]:=by simp [ptrs]
  rw [this];exact ho
 ·have hbl:b<w'.heap.size:=by
   rcases hz with hz | hz
   ·have:=h1 b hz;have:=hb.size;omega
   ·omega
  by_cases e2:v.ownBlock=some b
  ·rcases hz with hz | hz
   ·exact h6 b e2 hz
   ·have:=KB b e2;omega
  ·exact hd b hbl e2 e
 ·rcases hz with hz | hz
  ·exact h6 b e hz
  ·have:=KB b e;omega
 ·rcases hat i hi with ⟨hl,e⟩ | e
  ·rw [e];exact ⟨fun e2=>((hap _ e2) i hl).1 rfl,fun e2=>((hap _ e2) i hl).2 rfl⟩
  ·rw [e];exact ⟨fun e2=>by have:=KB _ e2;simp only at this;omega,fun e2=>by have:=KB _ e2;simp only at this;omega⟩
end
theorem oh(B gg gr wd n:Nat)(Rs:List Rw)(w:World)(h:GridY Yo w B gg gr wd Rs)(hn:n<=1024):Calls Tryz.prog 267 #[.pointer (some ⟨gg,0,none⟩),.int .i64 n] w (fun e w'=>∃ v Ns,e=.returned v/\PtrsAt w' w.heap.size v Ns/\Ns.map aQ=List.replicate n (List.replicate wd zc,false)/\Below w.heap.size w w'):=by
 have HG:=ab h;have hwd:=h.sizes.2.2;have Ko:=ab (show da (wd:Int)=wd by unfold da;omega);clear h
 go_enter Tryz.func267,Tryz.ntmps267
 go_wp2
 go_loopw [5,7] (fun v i wr=>∃ (k:Nat) (Ns:List Rw),k<=n/\i=.int .i64 k/\PtrsAt wr w.heap.size v Ns/\Ns.map aQ=List.replicate k (List.replicate wd zc,false)/\Below w.heap.size w wr) (fun _ i _=>n - (intOf i).toNat)
 case atStart=>exact ⟨0,[],Nat.zero_le _,rfl,⟨fun _=>False,fun b h=>h.elim,OwnE.nil _ _ _ _ _,(fun b e=>by cases e),RowsAt.nil _ _ _⟩,rfl,Below.refl _ _⟩
 case round =>
  obtain ⟨k,Ns,hk,rfl,hp,hm,zN⟩:=hrel;have z5:=ab zN;have HM:=ab hm;clear zN hm;obtain ⟨v,hv⟩:=ae (u5);rw [<-hv] at hp ⊢;have HP:=ab hp;clear hv hp
  by_cases hlt:k<n
  ·have JI:=eX _ gg gr wd Rs wr (HG.out.below z5.out)
   go_wp2_with fail
   refine JI.mono ?_;rintro e w1 ⟨rfl,rfl⟩;have Nt:=pJ (fun b=>wr.heap.size<=b) (wd:Int) wr;rw [Ko.out] at Nt;clear JI
   go_wp2_with fail
   refine Nt.mono ?_;rintro e w1 ⟨g,gc,rfl,hr1,b1⟩;have HR:=ab hr1;have Ag:=ab b1;have hlen:(ptrs Ns).length<=1024:=by
    have:=congrArg List.length HM.out;rw [List.length_map,List.length_replicate] at this;rw [bn];omega
   obtain ⟨JW,AF⟩ : OwnE ptrE (fun _=>True) wr w.heap.size 113 v (ptrs Ns)/\∀ b,v.ownBlock=some b->w.heap.size<=b/\b<wr.heap.size:=by
    obtain ⟨Z,_,k4,_⟩:=HP.out;exact ⟨k4,k4.lt⟩
   have b2:=zI w1 (.cells [cL (some g)].toArray 113);have HU:=ab (show HeldE ptrE (fun b=>True/\v.ownBlock≠some b) (w1.alloc (.cells [cL (some g)].toArray 113)) (.slice (some ⟨w1.heap.size,0,none⟩) 1 1) [some g] from aO (Y:=fun _=>False) [cL (some g)] (some g) rfl (fun _ _ h=>h.elim) ⟨trivial,fun e=>by have:=(AF _ e).2;have:=b1.size;omega⟩);have HO:=ab ((JW.below b1).below b2);have AM:=ab (b1.trans (b2.mono b1.size));have BC:=ab (z5.out.trans (AM.out.mono z5.out.size));have N0:=ab (hr1.below b2);clear Nt hr1 b1 b2 JW AF HR
   go_wp2_with (at_builtin;refine aw (E:=ptrE) (Z:=fun _=>True) rfl (.tmp 9) (.tmp 13) 117 rfl (.pointer none) 8 Tryz.underlying117 fQ rfl (by decide) rfl rfl HO.out HU.out (by simp only [List.length_singleton];omega) (by simp only [List.length_singleton];omega) BC.out.size ?_)
   intro v4 w4 KL b4 hk4 NH;have Ji:=HP.out.next z5.out.size N0.out AM.out KL b4 hk4 (fun b hb hn=>NH b (by simpa using hb) hn);have H2:=ab (show PtrsAt w4 w.heap.size v4 (Ns++[⟨g,gc,List.replicate wd zc,false⟩])/\(Ns++[(⟨g,gc,List.replicate wd zc,false⟩ : Rw)]).map aQ=List.replicate (k+1) (List.replicate wd zc,false) from ⟨Ji,by rw [List.map_append,HM.out,List.replicate_succ'];rfl⟩);have EU:=ab (BC.out.trans b4);clear KL b4 hk4 NH Ji;go_wp2
   go_roundw
   case rel=>exact ⟨k+1,_,by omega,by go_num,H2.out.1,H2.out.2,EU.out⟩
   case measure=>simp [intOf] <;> omega
  ·obtain rfl:k=n:=by omega
   go_wp2;go_ret;exact ⟨v,Ns,rfl,HP.out,HM.out,z5.out⟩
end
theorem qX(Z:an)(N:Nat)(hN:N<=1000000)(w:World):Calls Tryz.prog 290 #[.slice none 0 0,.int .i64 N] w (fk ptrE Z 113 w []):=by
 rcases Nat.eq_zero_or_pos N with rfl | hp
 ·go_enter Tryz.func290,Tryz.ntmps290
  go_wp2;go_ret;exact ⟨_,rfl,OwnE.nil _ _ _ _ _,Below.refl _ _⟩
 ·obtain ⟨i0,hi,hz0,hz1,hz2⟩:=info_parts fQ;obtain ⟨C,hC⟩:=ae (grownCap w N 0 113);have hr:=Go.Lib.run_append_nil_zeros (P:=Tryz.prog) w 117 3 117 113 i0 (.pointer none) .i64 .i64 Tryz.underlying117 Tryz.underlying3 hi hz0 N hp (by rw [hz1];decide) (by omega) (by rw [hz2];omega);rw [<-hC] at hr;have KD:N<=C:=by rw [hC];exact grownCap_ge w N 0 113
  have hle:C<=maxLen:=by rw [hC];exact grownCap_le_maxLen w N 0 113 (by unfold maxLen;omega)
  have MC:=ab hle;have HO:=ab (show (w.drew.alloc (.cells (Builtin.zeroCells (Value.pointer none).cells N++Builtin.zeroCells (Value.pointer none).cells (C - N)) 113)).ownsRow w.heap.size 113 1 (.slice (some ⟨w.heap.size,0,none⟩) 0 C) 0 [] from by
   refine ⟨rfl,.inr ⟨w.heap.size,_,_,rfl,Nat.le_refl _,heap_alloc_new w.drew _,Nat.zero_le _,hle,?_,by simp⟩⟩
   simp [Builtin.zeroCells,Value.cells]
   omega)
  have HB:=ab ((Below.refl w.heap.size w).drew.alloc (Nat.le_refl _) (.cells (Builtin.zeroCells (Value.pointer none).cells N++Builtin.zeroCells (Value.pointer none).cells (C - N)) 113));generalize (w.drew.alloc (.cells (Builtin.zeroCells (Value.pointer none).cells N++Builtin.zeroCells (Value.pointer none).cells (C - N)) 113))=w1 at hr HO HB;clear hC hi hz0 hz1 hz2 hle
  go_enter Tryz.func290,Tryz.ntmps290
  go_wp2_with (at_builtin;refine Go.Lib.wpList_append_run _ rfl (.tmp 20) (.tmp 21) _ _ rfl _ _ rfl rfl _ _ hr ?_)
  go_wp2;go_ret;exact ⟨_,rfl,OwnE.empty HO.out,HB.out⟩
abbrev ptrsE:Elem (List (Option Nat)):=slE ptrE
theorem tp{Z:an}{w:World}{ao:Option Addr}{n cap:Nat}{L:List (List (Option Nat))}(h:HeldE ptrsE Z w (.slice ao n cap) L):n=L.length/\n<=cap/\∀ i,i<L.length->∃ b off u,ao=some ⟨b,off,none⟩/\b<w.heap.size/\w.cell? ⟨b,off+i,none⟩=some u/\HeldE ptrE Z w u (L.getD i []):=by
 obtain ⟨h1,h2,h3⟩:=h.spots;refine ⟨h1,h2,fun i hi=>?_⟩;obtain ⟨b,off,rfl,hb,hz,C,hC,u,rfl,hr⟩:=h3 i hi;have hc:=hC 0 (by decide);rw [show off+i * ptrsE.size+0=off+i from by show off+i * 1+0=_;omega] at hc;exact ⟨b,off,u,rfl,hb,hc,hr⟩
theorem pD(Z:an)(v:Value)(L:List (List (Option Nat)))(w:World)(hh:HeldE ptrsE Z w v L)(hl:L.length<=1000000)(ht:L.flatten.length<=1000000):Calls Tryz.prog 266 #[v] w (fk ptrE Z 113 w L.flatten):=by
 have hh:=hh.zone (Y:=fun b=>Z b/\b<w.heap.size) (fun b hb hz=>⟨hz,hb⟩);obtain ⟨ao,cap,rfl⟩:=hh.len;obtain ⟨_,_,hs⟩:=tp hh;have HH:=ab hs;have MC:=ab (vX L);have HFA:=ab (m3 L);rw [<-m3 L] at ht ⊢;clear hh hs
 go_enter Tryz.func266,Tryz.ntmps266
 go_wp2
 go_loopw [3,11] (fun sv iv wr=>∃ k s:Nat,k<=L.length/\iv=.int .i64 k/\sv=.int .i64 s/\Hid (s=(fR L k).length)/\wr=w) (fun _ iv _=>L.length - (intOf iv).toNat)
 case atStart=>exact ⟨0,0,Nat.zero_le _,rfl,rfl,ab rfl,rfl⟩
 case round =>
  obtain ⟨k,s,hk,rfl,rfl,HS,rfl⟩:=hrel;obtain ⟨wo,Ph⟩:=ae (wr);subst Ph;have BU:s<=1000000:=by have:=MC.out k hk;have:=HS.out;omega
  by_cases hlt:k<L.length
  ·obtain ⟨b,off,u,rfl,hb,c0,hu⟩:=HH.out k hlt;have GD:=iR L k hlt;have Ja:=MC.out (k+1) (by omega);obtain ⟨T,hT⟩:=ae (L.getD k []);rw [<-hT] at hu GD;obtain ⟨uo,uc,rfl⟩:=hu.len;rw [GD,List.length_append] at Ja;have hs2:s+T.length<=1000000:=by have:=HS.out;omega
   have hs3:s+T.length=(fR L (k+1)).length:=by rw [GD,List.length_append,HS.out]
   have Lh:=ab hs3;have d1:decide ((s:Int)+(T.length:Int)<0)=false:=decide_eq_false (by omega);clear GD hT hu hs3 Ja;go_wp2
   go_roundw
   case rel=>exact ⟨k+1,s+T.length,by omega,by go_num,by go_num,Lh,trivial⟩
   case measure=>simp [intOf] <;> omega
  ·obtain rfl:k=L.length:=by omega
   have HG:=ab (qX Z s BU wo)
   go_wp2_with fail
   refine HG.out.mono ?_;rintro e w1 ⟨v1,rfl,AA,b1⟩;have A4:=ab AA;have Ag:=ab b1;clear AA b1 HG HS BU hlt;go_wp2
   go_loopw [6,27] (fun nv iv w2=>∃ k:Nat,k<=L.length/\iv=.int .i64 k/\OwnE ptrE Z w2 wo.heap.size 113 nv (fR L k)/\Below wo.heap.size wo w2) (fun _ iv _=>L.length - (intOf iv).toNat)
   case atStart=>exact ⟨0,Nat.zero_le _,rfl,A4.out,Ag.out⟩
   case round =>
    obtain ⟨k,hk,rfl,hown,zN⟩:=hrel;have HOW:=ab hown;have z5:=ab zN;clear hown zN
    by_cases hlt:k<L.length
    ·obtain ⟨b,off,u,rfl,hb,c0,hu⟩:=HH.out k hlt;have c0:=(z5.out.cell (p:=⟨b,off+k,none⟩) hb).trans c0;have GD:=iR L k hlt;have Ja:=MC.out (k+1) (by omega);obtain ⟨T,hT⟩:=ae (L.getD k []);rw [<-hT] at hu GD;obtain ⟨uo,uc,rfl⟩:=hu.len;rw [GD,List.length_append] at Ja;obtain ⟨P0,hP⟩:=ae (fR L k);rw [<-hP] at GD HOW Ja;have NV:=ab GD;have AF:=HOW.out.lt;have HU:=ab (show HeldE ptrE (fun b=>Z b/\_≠some b) wr (.slice uo T.length uc) T from (hu.below z5.out).zone fun b _ hz=>⟨hz.1,fun e=>by have:=(AF b e).1;omega⟩);have hs2:P0.length+T.length<=1000000:=by omega
     clear GD hT hu Ja hP AF
     go_wp2_with (at_builtin;refine aw (E:=ptrE) (Z:=Z) rfl (.tmp 31) (.tmp 32) 117 rfl (.pointer none) 8 Tryz.underlying117 fQ rfl (by decide) rfl rfl HOW.out HU.out (by omega) (by omega) z5.out.size ?_)
     intro v2 w2 Ap hb2 _ _;have hb3:=z5.out.trans hb2;rw [<-NV.out] at Ap;have H2:=ab Ap;have H3:=ab hb3;clear Ap hb2 hb3;go_wp2
     go_roundw
     case rel=>exact ⟨k+1,by omega,by go_num,H2.out,H3.out⟩
     case measure=>simp [intOf] <;> omega
    ·obtain rfl:k=L.length:=by omega
     go_wp2;go_ret;exact ⟨_,rfl,HOW.out,z5.out⟩
section
variable {Yo : an}
def og(Xs:List (Option Nat))(f:Nat)(Ys:List (Option Nat)):Nat->List (Option Nat)
 | 0=>Xs
 | j+1=>(og Xs f Ys j).set (f+j) (Ys.getD j none)
theorem fh(Xs:List (Option Nat))(f:Nat)(Ys:List (Option Nat)):∀ j,(og Xs f Ys j).length=Xs.length
 | 0=>rfl
 | j+1=>by unfold og;rw [List.length_set,fh]
theorem rS(Xs:List (Option Nat))(f:Nat)(Ys:List (Option Nat)):∀ j,f+j<=Xs.length->∀ i,(og Xs f Ys j).getD i none=if f<=i/\i<f+j then Ys.getD (i - f) none else Xs.getD i none
 |0,_,i=>by rw [if_neg (by omega)];rfl
 |j+1,h,i=>by
  unfold og;rw [cp _ _ _ _ _ (by rw [fh];omega),rS Xs f Ys j (by omega) i]
  by_cases e:i=f+j
  ·rw [if_pos e,if_pos (by omega),e,Nat.add_sub_cancel_left]
  ·rw [if_neg e]
   by_cases e2:f<=i/\i<f+j
   ·rw [if_pos e2,if_pos (by omega)]
   ·rw [if_neg e2,if_neg (by omega)]
theorem vI{Rs Ms:List Rw}{f:Nat}(h:f+Ms.length<=Rs.length):og (ptrs Rs) f (ptrs Ms) Ms.length=ptrs (Rs.take f++Ms++Rs.drop (f+Ms.length)):=by
 have hl:(Rs.take f++Ms++Rs.drop (f+Ms.length)).length=Rs.length:=by simp;omega
 apply List.ext_getElem (by rw [fh,bn,bn,hl])
 intro i h1 h2;rw [fh,bn] at h1;have e:=rS (ptrs Rs) f (ptrs Ms) Ms.length (by rw [bn];exact h) i;have gd:∀ (xs:List (Option Nat)) (h:i<xs.length),xs[i]=xs.getD i none:=fun xs h=>by simp [List.getD,List.getElem?_eq_getElem h]
 rw [gd _ (by rw [fh,bn];exact h1),gd _ h2,e,gm (Rs.take f++Ms++Rs.drop (f+Ms.length)) i (by rw [hl];exact h1),bU,bU];simp only [List.length_append,List.length_take]
 by_cases c1:i<f
 ·rw [if_neg (by omega),gm Rs i h1,if_pos (by omega),if_pos (by omega)]
  congr 2
  simp [List.getD,List.getElem?_take,c1]
 ·by_cases c2:i<f+Ms.length
  ·rw [if_pos ⟨by omega,c2⟩,gm Ms _ (by omega),if_pos (by omega),if_neg (by omega)]
   congr 3
   omega
  ·rw [if_neg (by omega),gm Rs i h1,if_neg (by omega)]
   congr 2
   simp only [List.getD,List.getElem?_drop]
   congr 2
   omega
def ku(Rs:List Rw)(i:Nat):List Rw:=Rs.set i ⟨(Rs.getD i r0).g,(Rs.getD i r0).gc,(Rs.getD i r0).L,false⟩
def zE(Yo:an)(B gg gr wd f:Nat)(Rs':List Rw)(w:World)(e:Ending)(w':World):Prop:=e=.returned (.tuple #[])/\GridY Yo w' B gg gr wd (if f=0 then Rs' else ku Rs' (f - 1))/\Upd (fun b=>b=gr\/(0<f/\(b=(Rs'.getD (f - 1) r0).g\/b=(Rs'.getD (f - 1) r0).gc))) w w'
theorem tm(B gg gr wd f cap:Nat)(Z:an)(Rs Ms:List Rw)(v:Value)(w:World)(hf:f+Ms.length<=Rs.length)(hM:0<Ms.length)(hn:Rs.length<=1024)
  (hz:∀ b,Z b->B<=b/\b<w.heap.size) (hYo:∀ b,(Z b\/w.heap.size<=b)->Yo b) (Mr:Has w gg [.int .i64 wd,.slice (some ⟨gr,0,none⟩) Rs.length cap] 119) (hB:B<=gg) (ho:OwnE ptrE (fun _=>True) w B 113 (.slice (some ⟨gr,0,none⟩) Rs.length cap) (ptrs Rs)) (z1:¬ Z gg) (z2:¬ Z gr)
  (hr:RowsAt Z w B (Rs.take f++Ms++Rs.drop (f+Ms.length))) (hw:∀ i,i<(Rs.take f++Ms++Rs.drop (f+Ms.length)).length->((Rs.take f++Ms++Rs.drop (f+Ms.length)).getD i r0).L.length=wd)
  (hv:HeldE ptrE (fun b=>b≠gr) w v (ptrs Ms)):Calls Tryz.prog 265 #[.pointer (some ⟨gg,0,none⟩),.int .i64 f,v] w (zE Yo B gg gr wd f (Rs.take f++Ms++Rs.drop (f+Ms.length)) w):=by
 have hpl:=vI hf;obtain ⟨R',KP⟩:=ae (Rs.take f++Ms++Rs.drop (f+Ms.length));have hmat:∀ j,j<Ms.length->R'.getD (f+j) r0=Ms.getD j r0:=fun j hj=>by
  rw [KP,bU,if_pos (by simp;omega),bU,if_neg (by simp;omega),List.length_take,show f+j - min f Rs.length=j by omega]
 have CM:R'.length=Rs.length:=by rw [KP];simp;omega
 rw [<-KP] at hr hw hpl ⊢;have MJ:=ab hpl;have GI:=ab CM;have HR:=ab hr;have HW:=ab hw;have HZ:=ab (And.intro hz (And.intro z1 z2));have HYO:=ab hYo;clear hYo;have HMAT:=ab hmat
 -- the pointers' block is of its own type
 have hgt:gg≠gr/\∀ i,i<R'.length->(R'.getD i r0).g≠gr/\(R'.getD i r0).gc≠gr:=by
  obtain ⟨C,hC⟩:=gR ho (b:=gr) rfl;refine ⟨fun e=>by subst e;exact aH Mr hC (by decide),fun i hi=>?_⟩;obtain ⟨⟨D,hD⟩,D',Ka⟩:=(hr.row i hi).types;exact ⟨fun e=>by rw [<-e] at hC;exact aH hD hC (by decide),fun e=>by rw [<-e] at hC;exact aH Ka hC (by decide)⟩
 have NO:=ab hgt;have EH:=ab Mr;have HO:=ab ho;have Bi:Rs.length<=cap:=by
  rcases ho.ptrs.2 with ⟨e,_⟩ | ⟨g',cap',cur,e,_,_,N3,_⟩
  ·cases e
  ·simp only [Value.slice.injEq] at e;obtain ⟨_,_,rfl⟩:=e;rw [bn] at N3;exact N3
 have KB:=hv.len;obtain ⟨va,vc,hve⟩:=KB;rw [bn] at hve;subst hve;have HV:=ab (show ∀ j,j<Ms.length->∃ b off,va=some ⟨b,off,none⟩/\b<w.heap.size/\b≠gr/\w.cell? ⟨b,off+j,none⟩=some (.pointer (some ⟨(Ms.getD j r0).g,0,none⟩)) from fun j hj=>by
  obtain ⟨b,off,e,hb,hz9,C,hC,Ml⟩:=hv.spots.2.2 j (by rw [bn];exact hj);have:=hC 0 (by decide);rw [show C=[cL ((ptrs Ms).getD j none)] from Ml,gm Ms j hj] at this;rw [show ptrE.size=1 from rfl,Nat.mul_one,Nat.add_zero] at this;exact ⟨b,off,e,hb,hz9,this⟩)
 obtain ⟨n,hne⟩:=ae (Rs.length);obtain ⟨q,Ni⟩:=ae (Ms.length);have HN:=ab hne;have HQ:=ab Ni;rw [<-Ni] at HV hf hM HMAT ⊢;rw [<-hne] at hf hn Bi EH HO;clear hv hr hw hz z1 z2 Mr ho hgt hpl CM hmat KP hne Ni
 go_enter Tryz.func265,Tryz.ntmps265
 go_wp2
 go_loopw [10] (fun i wr=>∃ k:Nat,k<=q/\i=.int .i64 k/\OwnE ptrE (fun _=>True) wr B 113 (.slice (some ⟨gr,0,none⟩) n cap) (og (ptrs Rs) f (ptrs Ms) k)/\Upd (fun b=>b=gr) w wr) (fun i _=>q - (intOf i).toNat)
 case atStart=>exact ⟨0,Nat.zero_le _,rfl,HO.out,Upd.refl _ _⟩
 case round =>
  obtain ⟨k,hk,rfl,hown,Mp⟩:=hrel;have HOW:=ab hown;have Kr:=ab Mp;have hgx:=Kr.out.keep.has EH.out NO.out.1;have II:=ab hgx;clear hown Mp hgx;have c0:=II.out.cell 0 _ rfl;have c1:=II.out.cell 1 _ rfl
  by_cases hlt:k<q
  ·obtain ⟨b,off,rfl,hb,FI,cv⟩:=HV.out k hlt;have cv:=(Kr.out.keep.cell (o:=off+k) hb FI).trans cv;have Ot:=(HR.out.row (f+k) (by rw [GI.out,<-HN.out];omega)).upd Kr.out (fun b hz e=>HZ.out.2.2 (e ▸ hz)) (NO.out.2 (f+k) (by rw [GI.out,<-HN.out];omega)).1 (NO.out.2 (f+k) (by rw [GI.out,<-HN.out];omega)).2;have JI:=HW.out (f+k) (by rw [GI.out,<-HN.out];omega);rw [HMAT.out k hlt] at Ot JI;have KH:=jq HOW.out (f+k) (by rw [fh,bn,<-HN.out];omega);have Mf:=vJ gg gr wd n cap (f+k) _ _ _ _ _ _ wr c0 c1 Bi _ KH.1 KH.2 (by omega) hn Ot JI;have hput:cL (some (Ms.getD k r0).g)=cL ((ptrs Ms).getD k none):=by rw [gm Ms k (by rw [<-HQ.out];exact hlt)]
   obtain ⟨p,hp⟩:=ae ((Ms.getD k r0).g);rw [<-hp] at cv Mf hput;have HFIT:=ab Mf;have LL:=ab hput;have Ce:IntKind.i64.wrap ((f:Int)+k)=(f:Int)+k:=by rw [IntKind.wrap_i64];omega
   have hcast:((f+k:Nat):Int)=(f:Int)+k:=by omega
   rw [hcast] at HFIT;clear Ot JI KH Mf hput hp c0 c1 hcast
   go_wp2_with fail
   refine HFIT.out.mono ?_;rintro e w2 ⟨rfl,w3,b3,hw2⟩;have DF:=om (HOW.out.below b3) (f+k) (by rw [fh,bn,<-HN.out];omega) ((ptrs Ms).getD k none);have Dk:=(Upd.refl (fun b=>b=gr) w3).setCell (p:=⟨gr,f+k,none⟩) (.inl rfl) (cL ((ptrs Ms).getD k none));rw [LL.out] at hw2;rw [<-hw2] at DF Dk;have H3:=ab (show OwnE ptrE (fun _=>True) w2 B 113 (.slice (some ⟨gr,0,none⟩) n cap) (og (ptrs Rs) f (ptrs Ms) (k+1)) from DF);have HU3:=ab ((Kr.out.trans (.ofBelow b3)).trans Dk);clear DF Dk hw2 b3 Ce cv;go_wp2
   go_roundw
   case rel=>exact ⟨k+1,by omega,by go_num,H3.out,HU3.out⟩
   case measure=>simp [intOf] <;> omega
  ·obtain rfl:k=q:=by omega
   have hall:og (ptrs Rs) f (ptrs Ms) k=ptrs R':=by rw [HQ.out];exact MJ.out
   rw [hall] at HOW;have hG:GridY Yo wr B gg gr wd R':=⟨Z,cap,fun b hz=>⟨(HZ.out.1 b hz).1,Nat.lt_of_lt_of_le (HZ.out.1 b hz).2 Kr.out.size⟩,by rw [GI.out,<-HN.out];exact II.out,hB,by rw [GI.out,<-HN.out];exact HOW.out,HZ.out.2.1,HZ.out.2.2,HR.out.upd Kr.out (fun b hz e=>HZ.out.2.2 (e ▸ hz)) NO.out.2,HW.out,by rw [GI.out,<-HN.out];omega,by rw [GI.out,<-HN.out];exact hn,fun x hx=>HYO.out x (hx.imp id (Nat.le_trans Kr.out.size))⟩;have G:=ab hG;clear hG hall c0 c1
   cases f with
   |zero =>
    have h1:=vO B gg gr wd R' (-1) wr G.out (.inl (by omega))
    go_wp2_with fail
    refine h1.mono ?_;rintro e w2 ⟨rfl,rfl⟩
    go_wp2_with fail
    refine (tA false wr).mono ?_;rintro e w2 ⟨rfl,rfl⟩;go_wp2;exact bodyPost_end (by kernel_rfl) rfl ⟨rfl,by rw [if_pos rfl];exact G.out,Kr.out.mono (fun b _ e=>.inl e)⟩
   |succ f =>
    have Nu:f<R'.length:=by rw [GI.out,<-HN.out];omega
    have h1:=ie B gg gr wd R' f wr G.out Nu;have h2:=mQ B gg gr wd f R' false wr G.out Nu;have Ce:IntKind.i64.wrap (f:Int)=(f:Int):=by rw [IntKind.wrap_i64];omega
    have hw2:((f+1:Nat):Int) - 1=f:=by omega
    have hw3:(f:Int)+1 - 1=f:=by omega
    have hs2:=h2;obtain ⟨p,hp⟩:=ae ((R'.getD f r0).g);have H2:=ab (show Calls Tryz.prog 71 #[.pointer (some ⟨p,0,none⟩),.bool false] wr _ by rw [hp];exact hs2);rw [<-hp] at h1;clear h2 hs2 hp
    go_wp2_with fail
    refine h1.mono ?_;rintro e w2 ⟨rfl,rfl⟩
    go_wp2_with fail
    refine H2.out.mono ?_;rintro e w2 ⟨rfl,hg2,Io⟩;have HF:=ab (And.intro hg2 ((Kr.out.mono (T:=fun b=>b=gr\/(0<f+1/\(b=(R'.getD (f+1 - 1) r0).g\/b=(R'.getD (f+1 - 1) r0).gc))) (fun b _ e=>.inl e)).trans (Io.mono (fun b _ e=>.inr ⟨by omega,e⟩))));clear hg2 Io H2 h1;go_wp2;exact bodyPost_end (by kernel_rfl) rfl ⟨rfl,by rw [if_neg (by omega)];exact HF.out.1,HF.out.2⟩
end
section
theorem RowsAt.append{Z Y:an}{w:World}{B B2 M:Nat}{Rs Ns:List Rw}(h1:RowsAt Z w B Rs)(h2:RowsAt Y w B2 Ns)(hB:B<=B2)(hz:∀ b,Z b->b<M)(hr:∀ i,i<Rs.length->(Rs.getD i r0).g<M/\(Rs.getD i r0).gc<M)(hy:∀ b,Y b->M<=b)(hM:M<=B2):RowsAt (fun b=>Z b\/Y b) w B (Rs++Ns):=by
 have hat:∀ i,i<(Rs++Ns).length->(i<Rs.length/\(Rs++Ns).getD i r0=Rs.getD i r0)\/(Rs.length<=i/\i - Rs.length<Ns.length/\(Rs++Ns).getD i r0=Ns.getD (i - Rs.length) r0):=fun i hi=>by
  rw [bU];rw [List.length_append] at hi
  by_cases e:i<Rs.length
  ·exact .inl ⟨e,if_pos e⟩
  ·exact .inr ⟨by omega,by omega,if_neg e⟩
 refine ⟨fun i hi=>?_,fun i hi=>?_,fun i j hi hj Mq=>?_⟩
 ·rcases hat i hi with ⟨hl,e⟩ | ⟨_,hl,e⟩
  ·rw [e];exact (h1.row i hl).keep (.refl _ _) fun b _ hz=>.inl hz
  ·rw [e];exact ((h2.row _ hl).base hB).keep (.refl _ _) fun b _ hz=>.inr hz
 ·rcases hat i hi with ⟨hl,e⟩ | ⟨_,hl,e⟩
  ·rw [e];have:=hr i hl;exact ⟨fun hzz=>by rcases hzz with hzz | hzz;exact (h1.out i hl).1 hzz;have:=hy _ hzz;omega,fun hzz=>by rcases hzz with hzz | hzz;exact (h1.out i hl).2 hzz;have:=hy _ hzz;omega⟩
  ·rw [e];have:=h2.lt _ hl;exact ⟨fun hzz=>by rcases hzz with hzz | hzz;have:=hz _ hzz;omega;exact (h2.out _ hl).1 hzz,fun hzz=>by rcases hzz with hzz | hzz;have:=hz _ hzz;omega;exact (h2.out _ hl).2 hzz⟩
 ·rcases hat i hi with ⟨hl,e⟩ | ⟨hg,hl,e⟩ <;> rcases hat j hj with ⟨hl',e'⟩ | ⟨hg',hl',e'⟩ <;> rw [e,e']
  ·exact h1.apart i j hl hl' Mq
  ·have:=hr i hl;have:=h2.lt _ hl';exact ⟨by omega,by omega⟩
  ·have:=hr j hl';have:=h2.lt _ hl;exact ⟨by omega,by omega⟩
  ·exact h2.apart _ _ hl hl' (by omega)
theorem RowsAt.sub{Z:an}{w:World}{B:Nat}{As Rs:List Rw}(h:RowsAt Z w B As)(p:Nat->Nat)(hp:∀ i,i<Rs.length->p i<As.length/\Rs.getD i r0=As.getD (p i) r0)(hi:∀ i j,i<Rs.length->j<Rs.length->i≠j->p i≠p j):RowsAt Z w B Rs :=
 ⟨fun i hl=>by rw [(hp i hl).2];exact h.row _ (hp i hl).1,fun i hl=>by rw [(hp i hl).2];exact h.out _ (hp i hl).1,fun i j hl hl' hne=>by rw [(hp i hl).2,(hp j hl').2];exact h.apart _ _ (hp i hl).1 (hp j hl').1 (hi i j hl hl' hne)⟩
theorem pC{α:Type}(l:List α)(d:α)(i k:Nat):(l.take k).getD i d=if i<k then l.getD i d else d:=by
 by_cases h:i<k
 ·rw [if_pos h];simp [List.getD,List.getElem?_take,h]
 ·rw [if_neg h];simp [List.getD,List.getElem?_take,h]
theorem lE{α:Type}(l:List α)(d:α)(i k:Nat):(l.drop k).getD i d=l.getD (k+i) d:=by simp [List.getD,List.getElem?_drop]
def cP(Rs Ns:List Rw)(f t q:Nat):List Rw:=((Rs.drop f).take (t - f)).drop q++Ns
section
variable {Rs Ns : List Rw} {f t q : Nat}
theorem ic(hf:f<=t)(ht:t<=Rs.length)(hq:q<=t - f)(hn:Ns.length=q):(cP Rs Ns f t q).length=t - f:=by unfold cP;simp;omega
theorem jZ(Ms:List Rw)(hm:Ms.length=t - f)(hf:f<=t)(ht:t<=Rs.length)(i:Nat):(Rs.take f++Ms++Rs.drop (f+Ms.length)).getD i r0=if i<f then Rs.getD i r0 else if i<t then Ms.getD (i - f) r0 else Rs.getD i r0:=by
 rw [bU,bU,List.length_append,List.length_take,hm,show min f Rs.length=f by omega]
 by_cases c1:i<f
 ·rw [if_pos (by omega),if_pos c1,if_pos c1,pC,if_pos c1]
 ·rw [if_neg c1]
  by_cases c2:i<t
  ·rw [if_pos (by omega),if_neg c1,if_pos c2]
  ·rw [if_neg (by omega),if_neg c2,lE,show f+(t - f)+(i - (f+(t - f)))=i by omega,if_neg c1]
theorem rR(hf:f<=t)(ht:t<=Rs.length)(hq:q<=t - f)(hn:Ns.length=q)(i:Nat)(hi:i<t - f):(cP Rs Ns f t q).getD i r0=if i+q<t - f then Rs.getD (f+q+i) r0 else Ns.getD (i+q - (t - f)) r0:=by
 unfold cP;rw [bU,List.length_drop,List.length_take,List.length_drop,lE,pC,lE]
 by_cases c:i+q<t - f
 ·rw [if_pos (by omega),if_pos (by omega),if_pos c]
  congr 1
  omega
 ·rw [if_neg (by omega),if_neg c]
  congr 1
  omega
theorem yb{Z:an}{w:World}{B:Nat}(h:RowsAt Z w B (Rs++Ns))(hf:f<=t)(ht:t<=Rs.length)(hq:q<=t - f)(hn:Ns.length=q):RowsAt Z w B (Rs.take f++cP Rs Ns f t q++Rs.drop (f+(cP Rs Ns f t q).length)):=by
 have DX:=ic hf ht hq hn;have Cc:(Rs.take f++cP Rs Ns f t q++Rs.drop (f+(cP Rs Ns f t q).length)).length=Rs.length:=by rw [List.length_append,List.length_append,List.length_take,List.length_drop,DX];omega
 refine h.sub (fun i=>if i<f then i else if i<t then (if i - f+q<t - f then i+q else Rs.length+(i+q - t)) else i) (fun i hi=>?_) (fun i j hi hj hne=>?_)
 ·rw [Cc] at hi;rw [jZ _ DX hf ht,List.length_append,hn]
  by_cases c1:i<f
  ·simp only [if_pos c1];exact ⟨by omega,by rw [bU,if_pos hi]⟩
  ·simp only [if_neg c1]
   by_cases c2:i<t
   ·simp only [if_pos c2];rw [rR hf ht hq hn _ (by omega)]
    by_cases c3:i - f+q<t - f
    ·simp only [if_pos c3];refine ⟨by omega,?_⟩;rw [bU,if_pos (by omega)]
     congr 1
     omega
    ·simp only [if_neg c3];refine ⟨by omega,?_⟩;rw [bU,if_neg (by omega)]
     congr 1
     omega
   ·simp only [if_neg c2];exact ⟨by omega,by rw [bU,if_pos hi]⟩
 ·rw [Cc] at hi hj;intro e
  try simp only at e
  split at e <;> split at e <;> (try split at e) <;> (try split at e) <;> (try split at e) <;> (try split at e) <;> omega
end
end
section
variable {Yo : an}
def NsAt(w:World)(M:Nat)(Ns:List Rw):Prop:=∃ Z:an,(∀ b,Z b->M<=b/\b<w.heap.size)/\RowsAt Z w M Ns
theorem NsAt.upd{S:an}{w w':World}{M:Nat}{Ns:List Rw}(h:NsAt w M Ns)(hu:Upd S w w')(hs:∀ b,S b->b<M):NsAt w' M Ns:=by
 obtain ⟨Z,h1,h2⟩:=h;exact ⟨Z,fun b hz=>⟨(h1 b hz).1,Nat.lt_of_lt_of_le (h1 b hz).2 hu.size⟩,h2.upd hu (fun b hz e=>by have:=hs b e;have:=h1 b hz;omega) fun i hi=>⟨fun e=>by have:=hs _ e;have:=h2.lt i hi;omega,fun e=>by have:=hs _ e;have:=h2.lt i hi;omega⟩⟩
theorem vE{Z:an}{w:World}{B:Nat}{a b:Value}{la lb:List (Option Nat)}(ha:HeldE ptrE Z w a la)(hb:HeldE ptrE Z w b lb)(hB:B<=w.heap.size)(hz:∀ b,B<=b->Z b):HeldE ptrsE Z (w.alloc (.cells #[a,b] 117)) (.slice (some ⟨w.heap.size,0,none⟩) 2 2) [la,lb]:=by
 refine (OwnE.lit w ptrsE [[a],[b]] [la,lb] 2 rfl rfl hB (by decide) (fun i hi=>?_) _ rfl).held (fun b hb _=>hz b hb)
 match i,hi with
 | 0,_=>exact ⟨_,rfl,ha⟩
 | 1,_=>exact ⟨_,rfl,hb⟩
def kt(w:World)(gr:Nat)(Rs:List Rw)(b:Nat):Prop:=b=gr\/(∃ i,i<Rs.length/\(b=(Rs.getD i r0).g\/b=(Rs.getD i r0).gc))\/w.heap.size<=b
def vG(Yo:an)(w:World)(B gg gr wd f q:Nat)(Rs:List Rw)(R:List Rw->List Rw)(w':World):Prop:=∃ Ns:List Rw,(Ns.map aQ=List.replicate q (List.replicate wd zc,false)/\∀ i,i<Ns.length->w.heap.size<=(Ns.getD i r0).g/\w.heap.size<=(Ns.getD i r0).gc)/\GridY Yo w' B gg gr wd (if f=0 then R Ns else ku (R Ns) (f - 1))/\Upd (kt w gr Rs) w w'
theorem gl{Ns:List Rw}{q wd:Nat}(h:Ns.map aQ=List.replicate q (List.replicate wd zc,false)):Ns.length=q/\∀ i,i<q->(Ns.getD i r0).L.length=wd:=by
 have hl:Ns.length=q:=by have:=congrArg List.length h;simpa using this
 refine ⟨hl,fun i hi=>?_⟩;have e:(Ns.map aQ).getD i zl=(List.replicate wd zc,false):=by rw [h];simp [List.getD,List.getElem?_replicate,hi]
 have e2:(Ns.map aQ).getD i zl=aQ (Ns.getD i r0):=by simp [List.getD,List.getElem?_eq_getElem (show i<Ns.length by omega)]
 rw [e2] at e;have:=congrArg (fun x:Ln=>x.1.length) e
 simpa [aQ] using this
theorem vH(B gg gr wd f t q M:Nat)(Rs Ns:List Rw)(v:Value)(w ws:World)(h:GridY Yo w B gg gr wd Rs)(hb:Below w.heap.size w ws)(hf:f<t)(ht:t<=Rs.length)(hq:q<=t - f)(hN:NsAt ws M Ns)(hM:w.heap.size<=M)(hl:Ns.map aQ=List.replicate q (List.replicate wd zc,false))(hv:HeldE ptrE (fun b=>w.heap.size<=b) ws v (ptrs (cP Rs Ns f t q))):Calls Tryz.prog 265 #[.pointer (some ⟨gg,0,none⟩),.int .i64 f,v] ws (fun e w'=>e=.returned (.tuple #[])/\vG Yo w B gg gr wd f q Rs (fun Ns=>Rs.take f++cP Rs Ns f t q++Rs.drop (f+(cP Rs Ns f t q).length)) w'/\Upd (fun b=>b<w.heap.size) ws w'):=by
 have hlt:=h.lt;obtain ⟨IY,Nt⟩:=gl hl;have DX:=ic (Rs:=Rs) (Ns:=Ns) (f:=f) (t:=t) (q:=q) (by omega) ht hq IY;obtain ⟨Z,cap,k1,k2,k3,k4,k5,k6,k7,k8,k9,k10⟩:=h;obtain ⟨Zn,n1,n2⟩:=hN;have hap:=RowsAt.append (M:=M) (k7.below hb) n2 (by have:=k2.lt;omega) (fun b hz=>by have:=k1 b hz;omega) (fun i hi=>by have:=hlt.2.2.2.2.2 i hi;omega) (fun b hz=>(n1 b hz).1) (Nat.le_refl _);have hrw:=yb hap (by omega) ht hq IY;have hs:=tm B gg gr wd f cap _ Rs (cP Rs Ns f t q) v ws (by rw [DX];omega) (by rw [DX];omega) k10.1 (fun b hz=>by
   have:=hb.size
   rcases hz with hz | hz
   ·have:=k1 b hz;omega
   ·have:=n1 b hz;have:=k2.lt;omega) (fun x hx=>k10.2 x (by
   have:=hb.size
   rcases hx with (hz | hz) | hz
   ·exact .inl hz
   ·exact .inr (by have:=n1 x hz;omega)
   ·exact .inr (by omega))) (k2.below hb k2.lt) k3 (k4.below hb) (fun hz=>by
   rcases hz with hz | hz
   ·exact k5 hz
   ·have:=n1 _ hz;have:=hlt.2.1;omega) (fun hz=>by
   rcases hz with hz | hz
   ·exact k6 hz
   ·have:=n1 _ hz;have:=hlt.2.2.2.1;omega) hrw (fun i hi=>by
   rw [jZ _ DX (by omega) ht];have M4:i<Rs.length:=by
    rw [List.length_append,List.length_append,List.length_take,List.length_drop,DX] at hi;omega
   split
   ·exact k8 i M4
   ·split
    ·rw [rR (by omega) ht hq IY _ (by omega)]
     split
     ·exact k8 _ (by omega)
     ·exact Nt _ (by omega)
    ·exact k8 i M4) (hv.zone fun b _ hz=>by have:=hlt.2.2.2.1;omega)
 refine hs.mono ?_;rintro e w' ⟨rfl,hg,hu⟩;refine ⟨rfl,⟨Ns,⟨hl,fun i hi=>by have:=n2.lt i hi;omega⟩,hg,((Upd.ofBelow hb).trans hu).mono fun b _ e=>?_⟩,hu.mono fun b _ e=>?_⟩
 ·rcases e with e | ⟨h0,e⟩
  ·exact .inl e
  ·rw [jZ _ DX (by omega) ht,if_pos (by omega)] at e;exact .inr (.inl ⟨f - 1,by omega,e⟩)
 rcases e with e | ⟨h0,e⟩
 ·have:=hlt.2.2.2.1;omega
 ·rw [jZ _ DX (by omega) ht,if_pos (by omega)] at e;have:=hlt.2.2.2.2.2 (f - 1) (by omega)
  rcases e with e | e <;> omega
theorem tj(B gg gr wd f t q:Nat)(Rs:List Rw)(a b k:Int)(w:World)(h:GridY Yo w B gg gr wd Rs)(hf:bE Rs.length a=f)(ht:bE Rs.length b=t)(hk:cy Rs.length a b k=(q:Int))(hq:0<q):Calls Tryz.prog 227 #[.pointer (some ⟨gg,0,none⟩),.int .i64 a,.int .i64 b,.int .i64 k] w (fun e w'=>e=.returned (.tuple #[])/\vG Yo w B gg gr wd f q Rs (fun Ns=>Rs.take f++cP Rs Ns f t q++Rs.drop (f+(cP Rs Ns f t q).length)) w'):=by
 have hsz:=h.sizes;have DI:t<=Rs.length:=by rw [<-ht];exact fi _ _
 have Nc:q<=t - f/\f<t:=by unfold cy at hk;rw [hf,ht] at hk;omega
 have EI:=lF (.pointer (some ⟨gg,0,none⟩)) Rs.length hsz.2.1 a b k w (de B gg gr wd Rs w h);rw [hf,ht,hk] at EI;have FB:=ab EI;have HG:=ab h;have MI:=ab (pE B gg gr wd f t Rs w h (by omega) DI);have LX:=ab h.lt;have FE:=ab DI;have DD:decide ((q:Int)<1)=false:=ai (by omega);have Au:decide (q<1)=false:=ai (by omega);obtain ⟨T,hT⟩:=ae (ptrs ((Rs.drop f).take (t - f)));have M6:T.length=t - f:=by rw [hT,bn,List.length_take,List.length_drop];omega
 have HTE:=ab hT;rw [<-hT] at MI;have LB:q<=1024:=by omega
 have ht9:t - f<=1024:=by omega
 clear h hf ht hk EI hT DI hsz
 go_enter Tryz.func227,Tryz.ntmps227
 go_wp2_with fail
 refine FB.out.mono ?_;rintro e w1 ⟨rfl,rfl⟩
 go_wp2_with fail
 refine MI.out.mono ?_;rintro e w1 ⟨v1,rfl,AA,b1⟩;obtain ⟨gt,ct,rfl,hgt1,hgt2⟩:=AA.some (by omega);have DW:=AA.held (Z:=fun b=>w.heap.size<=b) (fun b hb _=>hb);obtain ⟨l,hl⟩:=ae (t - f);rw [M6] at DW ⊢;rw [<-hl] at DW M6 Nc ⊢;have DJ:l<=ct:=by obtain ⟨_,hn,_⟩:=DW.spots;exact hn
 have HH:=ab DW;have Ag:=ab b1;have HQT:=ab Nc;have KJ:=ab (show T.length=l/\l<=1024 from ⟨M6,by rw [hl];exact ht9⟩);have MC:=ab hl;have HC:=ab (show ∀ w',Below w1.heap.size w1 w'->HeldE ptrE (fun b=>w.heap.size<=b) w' (.slice (if ct=q then some ⟨gt,0,none⟩ else some ⟨gt,q,none⟩) (l - q) (ct - q)) (T.drop q) from fun w' b=>by
  have h3:=HH.out.below b;rw [<-M6] at h3;obtain ⟨_,_,e,hcm,hmx,_⟩:=id h3
  cases e
  have hp:=h3.part q T.length (by omega) (Nat.le_refl _) (if ct=q then some ⟨gt,0,none⟩ else some ⟨gt,q,none⟩) (ct - q) (fun e=>by cases e) (fun b off e hlt=>by cases e;rw [if_neg (by omega)];simp [show ptrE.size=1 from rfl]) (fun _ _=>by split <;> simp) (by omega) (by omega);rw [List.take_of_length_le (by rw [List.length_drop];exact Nat.le_refl _),M6] at hp;exact hp)
 have HMID:=ab (show ∀ Ns,T.drop q++ptrs Ns=ptrs (cP Rs Ns f t q) from fun Ns=>by rw [HTE.out];unfold cP ptrs;rw [List.map_append,List.map_drop]);have hz1:q<=l:=Nc.1;have hz2:q<=ct:=by omega
 have hz3:(q:Int)<=(l:Int):=by omega
 have hz4:(q:Int)<=(ct:Int):=by omega
 clear AA b1 DW hl MI FB DD Au
 go_upto_region 3 with (fail)
 obtain ⟨zM,zU⟩ : ∃ CC:Array Bool->World->Prop,CC=fun L8 w'=>(Mix.one L8 10=0->Below w1.heap.size w1 w')/\(Mix.one L8 10=1->vG Yo w B gg gr wd f q Rs (fun Ns=>Rs.take f++cP Rs Ns f t q++Rs.drop (f+(cP Rs Ns f t q).length)) w'):=⟨_,rfl⟩
 obtain ⟨Ar,z6⟩ : ∃ XX:World->World->Prop,XX=fun x y=>Upd (fun b=>b<w.heap.size) x y:=⟨_,rfl⟩
 obtain ⟨An,Ad,zR,zQ,zS,zT,zY,zX,zV,zP,zW,z4,zO,_⟩:=Reg.e12 Ar
  (fun xx _=>xx=.pointer (some ⟨gg,0,none⟩))
  (fun xx _=>xx=.int .i64 f)
  (fun xx _=>xx=.slice (some ⟨gt,0,none⟩) l ct)
  (fun xx _=>xx=.int .i64 q)
  (fun xx _=>xx=.slice (if ct=q then some ⟨gt,0,none⟩ else some ⟨gt,q,none⟩) (l - q) (ct - q))
  (fun xx _=>xx=.pointer (some ⟨gg,0,none⟩))
  (fun xx _=>xx=.int .i64 q)
  (fun x w'=>∃ Ns,NsAt w' w1.heap.size Ns/\HeldE ptrE (fun b=>w.heap.size<=b) w' x (ptrs Ns)/\Ns.map aQ=List.replicate q (List.replicate wd zc,false))
  (fun x w'=>∃ Ns,NsAt w' w1.heap.size Ns/\HeldE ptrsE (fun b=>w.heap.size<=b) w' x [T.drop q,ptrs Ns]/\Ns.map aQ=List.replicate q (List.replicate wd zc,false))
  (fun x w'=>∃ Ns,NsAt w' w1.heap.size Ns/\HeldE ptrE (fun b=>w.heap.size<=b) w' x (T.drop q++ptrs Ns)/\Ns.map aQ=List.replicate q (List.replicate wd zc,false))
  (fun xx _=>xx=.tuple #[])
  (fun _ _=>True)
  (s7:=fun x w w1 hx h=>by rw [z6] at hx;(obtain ⟨Ns,h7,h8,h9⟩:=h;exact ⟨Ns,h7.upd hx (fun b e=>Nat.lt_of_lt_of_le e Ag.out.size),HeldE.upd h8 hx (fun b hb e=>by omega),h9⟩))
  (s8:=fun x w w1 hx h=>by rw [z6] at hx;(obtain ⟨Ns,h7,h8,h9⟩:=h;exact ⟨Ns,h7.upd hx (fun b e=>Nat.lt_of_lt_of_le e Ag.out.size),HeldE.upd h8 hx (fun b hb e=>by omega),h9⟩))
  (s9:=fun x w w1 hx h=>by rw [z6] at hx;(obtain ⟨Ns,h7,h8,h9⟩:=h;exact ⟨Ns,h7.upd hx (fun b e=>Nat.lt_of_lt_of_le e Ag.out.size),HeldE.upd h8 hx (fun b hb e=>by omega),h9⟩))
 have zZ:Hid (∀ i L w,(i == 10)=false ->  zM L w->zM (L.setIfInBounds i true) w):=ab (by
  intro i L w q h;simp only [Bool.or_eq_false_iff,beq_eq_false_iff_ne] at q;rw [zU] at h ⊢;simp only [Mix.one_ne q];exact h)
 have Al:Hid (∀ L w w1,zM L w->Below w.heap.size w w1->zM L w1):=ab (by
  intro L w w1 h hb;rw [zU] at h ⊢;exact ⟨fun e=>(h.1 e).trans (hb.mono (h.1 e).size),fun e=>by obtain ⟨Ns,q1,q2,q3⟩:=h.2 e;exact ⟨Ns,q1,q2.below hb,q3.trans (.ofBelow hb)⟩⟩)
 have Ac:=ab (show ∀ w,Ar w w from fun w=>by rw [z6];exact Upd.refl _ _);have Ab:=ab (show ∀ w w1,Below w.heap.size w w1->Ar w w1 from fun w w1 hb=>by rw [z6];exact Upd.ofBelow hb);have Ao:=ab (show zM (Array.replicate 11 false) w1.drew from by rw [zU];exact ⟨fun _=>(Below.refl _ _).drew,fun e=>absurd e (by decide)⟩);have zL:=ab (fun (i:Nat) L w v q (h:zM L w) (e:An i v w)=>Reg.hk (zZ.out i L w q h) e (Ac.out w));have zK:=ab zU;have z8:=ab z6;clear zU z6
 go_wp2_with fail
 refine Reg.regionF An zM Ar Ad.out (by kernel_rfl) (by kernel_rfl) (by kernel_rfl) Ao.out (fun Gk zJ=>?_);simp only [Reg.frame,Reg.dsts,List.map_cons,List.map_nil,Mix.put_lit,List.set_cons_succ,List.set_cons_zero,Nat.zero_add,Nat.reduceAdd] at zJ;refine ⟨⟨?_,?_,?_,?_,?_,?_,?_,?_,?_,?_,?_,trivial⟩,?_⟩
 ·intro Lq wq xq hh;simp only [zJ];refine Reg.go rfl ?_;have HK:=zL.out 0 _ _ _ rfl hh.cls ((zR.out _ _).mpr rfl);go_simp;exact HK.out
 ·intro Lq wq xq hh;simp only [zJ];refine Reg.go rfl ?_;have HK:=zL.out 1 _ _ _ rfl hh.cls ((zQ.out _ _).mpr rfl);go_simp;exact HK.out
 ·intro Lq wq xq hh;simp only [zJ];refine Reg.go rfl ?_;have HK:=zL.out 2 _ _ _ rfl hh.cls ((zS.out _ _).mpr rfl);go_simp;exact HK.out
 ·intro Lq wq xq hh;simp only [zJ];refine Reg.go rfl ?_;have HK:=zL.out 3 _ _ _ rfl hh.cls ((zT.out _ _).mpr rfl);go_simp;exact HK.out
 ·intro Lq wq xq hh;simp only [zJ,(zS.out _ _).mp (hh.v 2),(zT.out _ _).mp (hh.v 3)];refine Reg.go rfl ?_;have HK:=zL.out 4 _ _ _ rfl hh.cls ((zY.out _ _).mpr rfl);go_simp;exact HK.out
 ·intro Lq wq xq hh;simp only [zJ];refine Reg.go rfl ?_;have HK:=zL.out 5 _ _ _ rfl hh.cls ((zX.out _ _).mpr rfl);go_simp;exact HK.out
 ·intro Lq wq xq hh;simp only [zJ];refine Reg.go rfl ?_;have HK:=zL.out 6 _ _ _ rfl hh.cls ((zV.out _ _).mpr rfl);go_simp;exact HK.out
 ·intro Lq wq xq hh;simp only [zJ,(zX.out _ _).mp (hh.v 5),(zV.out _ _).mp (hh.v 6)];refine Reg.go rfl ?_;unfold Reg.upon;have hc:zM Lq wq:=hh.cls;rw [zK.out] at hc;have MA:=hc.1 (Mix.one_un (hh.notYet 10 (by kernel_rfl)));go_simp;refine (oh B gg gr wd q Rs wq (HG.out.below (Ag.out.trans (MA.mono Ag.out.size))) LB).mono ?_;rintro e w2 ⟨v2,Ns,rfl,⟨Zn,n1,n2,n3,n4⟩,hm,hb⟩;refine ⟨_,rfl,zZ.out 7 Lq w2 (by decide) (Al.out Lq wq w2 hh.cls hb),?_,Ab.out wq w2 hb⟩;rw [zP.out];exact ⟨Ns,⟨Zn,fun b hz=>⟨Nat.le_trans MA.size (n1 b hz).1,(n1 b hz).2⟩,⟨fun i hi=>(n4.row i hi).base MA.size,n4.out,n4.apart⟩⟩,(n2.zoneP (Y:=fun b=>w.heap.size<=b)).held (fun b hb _=>Nat.le_trans (Nat.le_trans Ag.out.size MA.size) hb),hm⟩
 ·intro Lq wq xq hh;have d7:=(zP.out _ _).mp (hh.v 7);simp only [zJ,(zY.out _ _).mp (hh.v 4)];refine Reg.go rfl ?_;unfold Reg.upon;have hc:zM Lq wq:=hh.cls;rw [zK.out] at hc;have hc0:=hc.1 (Mix.one_un (hh.notYet 10 (by kernel_rfl)));obtain ⟨Ns,hn,hh8,hm⟩:=d7;obtain ⟨ao4,ca4,e4⟩:=hh8.len;obtain ⟨A8,hA8⟩:=ae ((if ct=q then some (⟨gt,0,none⟩ : Addr) else some ⟨gt,q,none⟩));have hb1:=zI wq (.cells #[.slice A8 (l - q) (ct - q),xq 7] 117);have hcc:=HC.out wq hc0;rw [<-hA8] at hcc ⊢;have ho:=vE (Z:=fun b=>w.heap.size<=b) (B:=w.heap.size) hcc hh8 (Nat.le_trans Ag.out.size hc0.size) (fun _ h=>h);rw [e4] at ho hb1 ⊢;clear hA8 hcc;go_simp;refine ⟨zZ.out 8 Lq _ (by decide) (Al.out Lq wq _ hh.cls hb1),?_,Ab.out wq _ hb1⟩;rw [zW.out];exact ⟨Ns,hn.upd (S:=fun b=>b<w1.heap.size) (.ofBelow hb1) (fun _ e=>e),ho,hm⟩
 ·intro Lq wq xq hh;have d8:=(zW.out _ _).mp (hh.v 8);simp only [zJ];refine Reg.go rfl ?_;unfold Reg.upon;have hc:zM Lq wq:=hh.cls;rw [zK.out] at hc;have hc0:=hc.1 (Mix.one_un (hh.notYet 10 (by kernel_rfl)));obtain ⟨Ns,hn,FC,hm⟩:=d8;have IY:=(gl hm).1;go_simp;refine (pD (fun b=>w.heap.size<=b) _ _ wq FC (by simp) (by have:=KJ.out;simp only [List.flatten_cons,List.flatten_nil,List.append_nil,List.length_append,List.length_drop,bn];omega)).mono ?_;rintro e w4 ⟨v4,rfl,ho,hb⟩;refine ⟨_,rfl,zZ.out 9 Lq w4 (by decide) (Al.out Lq wq w4 hh.cls hb),?_,Ab.out wq w4 hb⟩;rw [z4.out];exact ⟨Ns,hn.upd (S:=fun b=>b<w1.heap.size) (.ofBelow hb) (fun _ e=>e),by simpa using ho.held (fun b h _=>Nat.le_trans (Nat.le_trans Ag.out.size hc0.size) h),hm⟩
 ·intro Lq wq xq hh;have d9:=(z4.out _ _).mp (hh.v 9);simp only [zJ,(zR.out _ _).mp (hh.v 0),(zQ.out _ _).mp (hh.v 1)];refine Reg.go rfl ?_;unfold Reg.upon;have hc:zM Lq wq:=hh.cls;rw [zK.out] at hc;have hc0:=hc.1 hh.un;have zN:=Ag.out.trans (hc0.mono Ag.out.size);obtain ⟨Ns,hn,FC,hm⟩:=d9;rw [HMID.out] at FC;go_simp;refine (vH B gg gr wd f t q w1.heap.size Rs Ns _ w wq HG.out zN HQT.out.2 FE.out (by rw [<-MC.out];exact HQT.out.1) hn Ag.out.size hm FC).mono ?_;rintro e w4 ⟨rfl,hmd,hu⟩;refine ⟨_,rfl,?_,(by rw [zO.out]),(by rw [z8.out];exact hu)⟩;rw [zK.out]
  dsimp only
  refine ⟨fun e=>?_,fun _=>hmd⟩;rw [Mix.one_set (by rw [hh.size];decide)] at e;exact absurd e (by decide)
 intro xq Dh Ah Av;rw [zK.out] at Ah;simp only [zJ];have vrg10:=(zO.out _ _).mp (Av 10 (by decide));rw [vrg10];clear Av zJ zL zZ Ac Ad Ao zK z8 Al Ab zR zQ zS zT zY zX zV zP zW z4 zO;have HE:=ab (Ah.2 (by kernel_rfl));clear Ah vrg10;go_wp2;exact bodyPost_end (by kernel_rfl) rfl ⟨rfl,HE.out⟩
end
theorem vD(p:Value)(n:Nat)(hn:n<=1024)(a b k:Int)(w:World)(hh:Calls Tryz.prog 95 #[p] w fun e w'=>e=.returned (.int .i64 n)/\w=w')(hk:cy n a b k<1):Calls Tryz.prog 227 #[p,.int .i64 a,.int .i64 b,.int .i64 k] w fun e w'=>e=.returned (.tuple #[])/\w=w':=by
 have FB:=ab (lF p n hn a b k w hh);obtain ⟨K,hK⟩:=ae (cy n a b k);rw [<-hK] at FB hk;have hd:decide (K<1)=true:=by rw [decide_eq_true_eq];exact hk
 clear hK hh hk
 go_enter Tryz.func227,Tryz.ntmps227
 go_wp2_with fail
 refine FB.out.mono ?_;rintro e w1 ⟨rfl,rfl⟩;go_wp2
 first
  | exact bodyPost_ret (v:=.tuple #[]) (by simp [results,Tryz.results227,go_sem]) rfl ⟨rfl,rfl⟩
  | exact bodyPost_end (by kernel_rfl) rfl ⟨rfl,rfl⟩
def gF(Ls:List Ln)(f t q:Nat)(up:Bool)(i:Nat):Ln :=
 if f<=i/\i<t then (if up=true then (if i+q<t then Ls.getD (i+q) zl else (List.replicate (Ls.getD i zl).1.length zc,false)) else (if f+q<=i then Ls.getD (i - q) zl else (List.replicate (Ls.getD i zl).1.length zc,false))) else Ls.getD i zl
def cK(Ls:List Ln)(f t q:Nat)(up:Bool)(i:Nat):Ln:=((gF Ls f t q up i).1,if i+1=f\/(up=false/\i+1=t) then false else (gF Ls f t q up i).2)
def gD(Ls:List Ln)(f t q:Nat)(up:Bool):List Ln:=(List.range Ls.length).map (cK Ls f t q up)
theorem dG{Rs:List Rw}{Ls:List Ln}(h:Rs.map aQ=Ls)(i:Nat)(hi:i<Rs.length):aQ (Rs.getD i r0)=Ls.getD i zl:=by
 rw [<-h]
 simp [List.getD,List.getElem?_eq_getElem hi]
theorem mP{Rs:List Rw}{g:Nat->Ln}{n:Nat}(hl:Rs.length=n)(h:∀ i,i<n->aQ (Rs.getD i r0)=g i):Rs.map aQ=(List.range n).map g:=by
 apply List.ext_getElem (by simp [hl])
 intro i h1 h2;have hi:i<Rs.length:=by simpa using h1
 have:=h i (by omega);simp only [List.getElem_map,List.getElem_range];rw [<-this]
 simp [List.getD,List.getElem?_eq_getElem hi]
theorem yS(R:List Rw)(j i:Nat)(hj:j<R.length):aQ ((ku R j).getD i r0)=if i=j then ((aQ (R.getD i r0)).1,false) else aQ (R.getD i r0):=by
 unfold ku;rw [cp _ _ _ _ _ hj]
 by_cases e:i=j
 ·subst e;rw [if_pos rfl,if_pos rfl];rfl
 ·rw [if_neg e,if_neg e]
theorem vC{Rs Ns:List Rw}{Ls:List Ln}{f t q wd:Nat}(h:Rs.map aQ=Ls)(hf:f<t)(ht:t<=Rs.length)(hq:q<=t - f)(hm:Ns.map aQ=List.replicate q (List.replicate wd zc,false))(hw:∀ i,i<Rs.length->(Rs.getD i r0).L.length=wd) :
  (if f=0 then Rs.take f++cP Rs Ns f t q++Rs.drop (f+(cP Rs Ns f t q).length) else ku (Rs.take f++cP Rs Ns f t q++Rs.drop (f+(cP Rs Ns f t q).length)) (f - 1)).map aQ=gD Ls f t q true:=by
 have IY:=(gl hm).1;have DX:=ic (Rs:=Rs) (Ns:=Ns) (f:=f) (t:=t) (q:=q) (by omega) ht hq IY;have NQ:Ls.length=Rs.length:=by rw [<-h];simp
 obtain ⟨R',KP⟩:=ae (Rs.take f++cP Rs Ns f t q++Rs.drop (f+(cP Rs Ns f t q).length));have CM:R'.length=Rs.length:=by rw [KP,List.length_append,List.length_append,List.length_take,List.length_drop,DX];omega
 have hat:∀ i,i<Rs.length->aQ (R'.getD i r0)=gF Ls f t q true i:=fun i hi=>by
  rw [KP,jZ _ DX (by omega) ht];unfold gF
  by_cases c1:i<f
  ·rw [if_pos c1,if_neg (by omega)];exact dG h i hi
  ·rw [if_neg c1]
   by_cases c2:i<t
   ·rw [if_pos c2,if_pos ⟨by omega,c2⟩,if_pos rfl,rR (by omega) ht hq IY _ (by omega)]
    by_cases c3:i+q<t
    ·rw [if_pos (by omega),if_pos c3,show f+q+(i - f)=i+q by omega];exact dG h _ (by omega)
    ·rw [if_neg (by omega),if_neg c3,<-dG h i hi,dG hm _ (by omega)];have e:(List.replicate q ((List.replicate wd zc,false):Ln)).getD (i - f+q - (t - f)) zl=(List.replicate wd zc,false):=by simp [List.getD,List.getElem?_replicate,show i - f+q - (t - f)<q by omega]
     rw [e,show (aQ (Rs.getD i r0)).1.length=wd from hw i hi]
   ·rw [if_neg c2,if_neg (by omega)];exact dG h i hi
 rw [<-KP];unfold gD;rw [NQ]
 by_cases h0:f=0
 ·rw [if_pos h0];refine mP CM fun i hi=>?_
  rw [hat i hi];unfold cK;rw [if_neg (by rintro (e | ⟨e,_⟩);omega;exact absurd e (by decide))]
 ·rw [if_neg h0];refine mP (by unfold ku;rw [List.length_set];exact CM) fun i hi=>?_
  rw [yS _ _ _ (by rw [CM];omega),hat i hi];unfold cK
  by_cases c:i=f - 1
  ·rw [if_pos c,if_pos (.inl (by omega))]
  ·rw [if_neg c,if_neg (by rintro (e | ⟨e,_⟩);omega;exact absurd e (by decide))]
theorem qW(v:Value)(Z:an)(Ls:List Ln)(a b k:Int)(up:Bool)(w:World)(hv:HeldE lineE Z w v Ls)(hl:Ls.length<=1000)(hk:cy Ls.length a b k<1):Calls Tryz.prog 170 #[v,.int .i64 a,.int .i64 b,.int .i64 k,.bool up] w (Gives w v):=by
 obtain ⟨ao,ca,rfl⟩:=hv.len;obtain ⟨n,hn⟩:=ae (Ls.length);rw [<-hn] at hl hk ⊢;have h1:max 0 (min a (n:Int))=(bE n a:Int):=by unfold bE;omega
 have h2:max 0 (min b (n:Int))=(bE n b:Int):=by unfold bE;omega
 unfold cy at hk;obtain ⟨f,hf⟩:=ae (bE n a);obtain ⟨t,ht⟩:=ae (bE n b);rw [<-hf] at h1 hk;rw [<-ht] at h2 hk;clear hf ht hv hn
 by_cases IP:t<=f
 ·have hd:decide ((t:Int)<=f)=true:=ah (by omega);have hdn:decide (t<=f)=true:=ah (by omega);clear hk IP
  go_enter Tryz.func170,Tryz.ntmps170
  go_wp2;go_ret;exact ⟨af,Below.refl _ _⟩
 ·have hd:decide ((t:Int)<=f)=false:=ai (by omega);have hdn:decide (t<=f)=false:=ai (by omega);have Iw:decide (k<1)=true:=ah (by omega);clear hk IP
  go_enter Tryz.func170,Tryz.ntmps170
  go_wp2;go_ret;exact ⟨af,Below.refl _ _⟩
theorem uO(xs:List Pr)(m:Nat)(j:Int)(hj:cl (xs.getD m Pr.none).br (xs.getD (m+1) Pr.none).br=j) :
  ((j == 1)=true/\jR xs (m+1)=true)\/((j == 1)=false/\jf xs (m+1)=true/\jR xs (m+1)=true)\/((j == 1)=false/\jf xs (m+1)=false/\ip xs (m+1)=true/\jR xs (m+1)=true)
  \/ ((j == 1)=false/\jf xs (m+1)=false/\ip xs (m+1)=false/\(j != 2)=true/\jR xs (m+1)=false)
  \/ ((j == 1)=false/\jf xs (m+1)=false/\ip xs (m+1)=false/\(j != 2)=false/\((xs.getD (m+1) Pr.none).br != 6)=true/\jR xs (m+1)=false)
  \/ ((j == 1)=false/\jf xs (m+1)=false/\ip xs (m+1)=false/\(j != 2)=false/\((xs.getD (m+1) Pr.none).br != 6)=false/\jR xs (m+1)=decide (dT xs (m+1) % 2=1)):=by
 unfold jR;rw [if_neg (show ¬ m+1=0 by omega),show m+1 - 1=m by omega,hj];generalize (xs.getD (m+1) Pr.none).br=b at *;generalize jf xs (m+1)=c;generalize ip xs (m+1)=p
 by_cases h1:j=1
 ·exact .inl ⟨by simpa using h1,by rw [if_pos h1]⟩
 have d1:(j == 1)=false:=by simpa using h1
 rw [if_neg h1]
 cases c with
 |true=>exact .inr (.inl ⟨d1,rfl,rfl⟩)
 |false =>
  cases p with
  |true=>exact .inr (.inr (.inl ⟨d1,rfl,rfl,rfl⟩))
  |false =>
   by_cases h2:j=2
   ·have d2:(j != 2)=false:=by simpa using h2
    by_cases h6:b=6
    ·exact .inr (.inr (.inr (.inr (.inr ⟨d1,rfl,rfl,d2,by simpa using h6,by simp [h2,h6]⟩))))
    ·exact .inr (.inr (.inr (.inr (.inl ⟨d1,rfl,rfl,d2,by simpa using h6,by simp [h6]⟩))))
   ·exact .inr (.inr (.inr (.inl ⟨d1,rfl,rfl,by simpa using h2,by simp [h2]⟩)))
theorem oW(xs:List Pr)(k:Nat):(((xs.getD k Pr.none).br == 6)=true/\dT xs (k+1)=dT xs k+1)\/(((xs.getD k Pr.none).br == 6)=false/\dT xs (k+1)=0):=by
 have hstep:dT xs (k+1)=(if (xs.getD k Pr.none).br=6 then dT xs k+1 else 0):=rfl;rw [hstep];generalize (xs.getD k Pr.none).br=b
 by_cases h:b=6
 ·exact .inl ⟨by simpa using h,by rw [if_pos h]⟩
 ·exact .inr ⟨by simpa using h,by rw [if_neg h]⟩
theorem l6(a b:Int)(w:World):Calls Tryz.prog 253 #[.int .i64 a,.int .i64 b] w (Gives w (.int .i64 (cl a b))):=pe a b w
theorem oX(v:Value)(xs:List Pr)(w:World)(hh:HeldP w v xs):Calls Tryz.prog 210 #[v,.int .i64 0] w (Gives w (.bool (jR xs 0))):=by
 obtain ⟨ao,cap,rfl,_⟩:=id hh;rw [show jR xs 0=false from rfl]
 go_enter Tryz.func210,Tryz.ntmps210
 go_wp2;go_ret;exact ⟨af,Below.refl _ _⟩
theorem ff(v:Value)(xs:List Pr)(m:Nat)(w:World)(hh:HeldP w v xs)(hi:m+1<xs.length)(hl:xs.length<=1000000) :
 Calls Tryz.prog 254 #[v,.int .i64 ((m:Int)+1)] w (Gives w (.bool (jf xs (m+1)))):=sE v xs (m+1) w hh hi hl
theorem ia(v:Value)(xs:List Pr)(m:Nat)(w:World)(hh:HeldP w v xs)(hi:m+1<xs.length)(hl:xs.length<=1000000) :
 Calls Tryz.prog 255 #[v,.int .i64 ((m:Int)+1)] w (Gives w (.bool (ip xs (m+1)))):=uP v xs (m+1) w hh hi hl
theorem oY(v:Value)(xs:List Pr)(m:Nat)(w:World)(hh:HeldP w v xs)(hi:m+1<xs.length)(hl:xs.length<=1000000) :
  Calls Tryz.prog 210 #[v,.int .i64 ((m:Int)+1)] w (Gives w (.bool (jR xs (m+1)))):=by
 obtain ⟨ao,cap,rfl,hc0⟩:=id hh;clear hc0;obtain ⟨_,hc⟩:=hh.at;have HC:=ab hc;have HH:=ab hh;clear hc hh;obtain ⟨b,off,rfl,hb,hx,_,_,_⟩:=HC.out m (by omega);obtain ⟨b',off',e',hb',hy,_,_,_⟩:=HC.out (m+1) hi
 cases e'
 have hw0:(m:Int)+1 - 1=(m:Int):=by omega
 obtain ⟨j,hj⟩ : ∃ j,cl (xs.getD m Pr.none).br (xs.getD (m+1) Pr.none).br=j:=⟨_,rfl⟩;have KO:=uO xs m j hj;obtain ⟨x,hx0⟩:=ae ((xs.getD m Pr.none).br);obtain ⟨y,CF⟩:=ae ((xs.getD (m+1) Pr.none).br);rw [<-CF] at hj hy KO;rw [<-hx0] at hj hx;have HY0:=ab CF;have DU:=ab KO;have HJ:=ab hj;clear hx0 CF KO;have kx:=aj hx;have ky:=aj hy;have hlx:(m:Int)<(xs.length:Int):=by omega
 have hly:(m:Int)+1<(xs.length:Int):=by omega
 have HY:=ab hy;clear hx hy hj
 go_enter Tryz.func210,Tryz.ntmps210
 go_wp2_with fail
 refine aI (by kernel_rfl) (by kernel_rfl) ?_
 repeat (go_big_quiet_step ((go_at_call 253;exact dY (l6 _ _ _))))
 refine wpQuiet_nil ?_;intro _ hw';obtain ⟨u,hw''⟩:=hw';subst hw'';rw [HJ.out];obtain ⟨W,hW⟩:=ae (ext w u);rw [<-hW];have hb0:Below w.heap.size w W:=by rw [hW];exact u.ok
 have IF:=HH.out.below hb0;have Pd:=(hb0.cell (p:=⟨b,off+(m+1) * 4,none⟩) hb).trans HY.out;clear hW kx ky
 rcases DU.out with ⟨h1,hs⟩ | ⟨h1,h2,hs⟩ | ⟨h1,h2,h3,hs⟩ | ⟨h1,h2,h3,h4,hs⟩ | ⟨h1,h2,h3,h4,h5,hs⟩ | ⟨h1,h2,h3,h4,h5,hs⟩
 ·have HS:=ab hs;clear hs DU;go_wp2;go_ret;exact ⟨al (by rw [HS.out];rfl),hb0⟩
 ·have HS:=ab hs;clear hs DU
  go_wp2_with fail
  refine (ff _ xs m _ IF hi hl).mono ?_;rintro e w2 ⟨rfl,b2⟩;have hb2:=hb0.trans (b2.mono hb0.size);go_wp2;go_ret;exact ⟨al (by rw [HS.out];rfl),hb2⟩
 ·have HS:=ab hs;clear hs DU
  go_wp2_with fail
  refine (ff _ xs m _ IF hi hl).mono ?_;rintro e w2 ⟨rfl,b2⟩
  go_wp2_with fail
  refine (ia _ xs m _ (IF.below b2) hi hl).mono ?_;rintro e w3 ⟨rfl,b3⟩;have hb3:=hb0.trans ((b2.trans (b3.mono b2.size)).mono hb0.size);go_wp2;go_ret;exact ⟨al (by rw [HS.out];rfl),hb3⟩
 ·have HS:=ab hs;clear hs DU
  go_wp2_with fail
  refine (ff _ xs m _ IF hi hl).mono ?_;rintro e w2 ⟨rfl,b2⟩
  go_wp2_with fail
  refine (ia _ xs m _ (IF.below b2) hi hl).mono ?_;rintro e w3 ⟨rfl,b3⟩;have hb3:=hb0.trans ((b2.trans (b3.mono b2.size)).mono hb0.size);go_wp2;go_ret;exact ⟨al (by rw [HS.out];rfl),hb3⟩
 ·have HS:=ab hs;clear hs DU
  go_wp2_with fail
  refine (ff _ xs m _ IF hi hl).mono ?_;rintro e w2 ⟨rfl,b2⟩
  go_wp2_with fail
  refine (ia _ xs m _ (IF.below b2) hi hl).mono ?_;rintro e w3 ⟨rfl,b3⟩;have hb3:=hb0.trans ((b2.trans (b3.mono b2.size)).mono hb0.size);have hy3:=((b2.trans (b3.mono b2.size)).cell (p:=⟨b,off+(m+1) * 4,none⟩) (Nat.lt_of_lt_of_le hb hb0.size)).trans Pd;go_wp2;go_ret;exact ⟨al (by rw [HS.out];rfl),hb3⟩
 ·have HS:=ab hs;clear hs DU
  go_wp2_with fail
  refine (ff _ xs m _ IF hi hl).mono ?_;rintro e w2 ⟨rfl,b2⟩
  go_wp2_with fail
  refine (ia _ xs m _ (IF.below b2) hi hl).mono ?_;rintro e w3 ⟨rfl,b3⟩;have hb3:=hb0.trans ((b2.trans (b3.mono b2.size)).mono hb0.size);have hy3:=((b2.trans (b3.mono b2.size)).cell (p:=⟨b,off+(m+1) * 4,none⟩) (Nat.lt_of_lt_of_le hb hb0.size)).trans Pd;go_wp2
  go_loopw [6,7] (fun nv kv wr=>∃ (k n:Nat),k<=m+1/\n<=m+1 - k/\nv=.int .i64 n/\kv=.int .i64 ((k:Int) - 1)/\Hid (n+dT xs k=dT xs (m+1))/\Below w.heap.size w wr) (fun _ kv _=>(intOf kv+1).toNat)
  case atStart=>exact ⟨m+1,0,Nat.le_refl _,by omega,rfl,by congr 1;omega,ab (by omega),hb3⟩
  case round =>
   obtain ⟨k,n,hk,hn,rfl,rfl,HQ,zN⟩:=hrel;clear Pd hy3
   cases k with
   |zero =>
    have hq:=HQ.out;rw [show dT xs 0=0 from rfl] at hq;have Ex:n=dT xs (m+1):=by omega
    have HN:=ab Ex;clear hq Ex;go_wp2;go_ret;exact ⟨al (by rw [HS.out,<-HN.out];simp;rw [Bool.eq_iff_iff];simp;omega),zN⟩
   |succ k =>
    obtain ⟨b',off',e',hb',hx,_⟩:=HC.out k (by omega)
    cases e'
    have hx:=(zN.cell (p:=⟨b,off+k * 4,none⟩) hb').trans hx;have Ce:(((k+1:Nat):Int) - 1)=(k:Int):=by omega
    rw [Ce];clear Ce hw0
    rcases oW xs k with ⟨h1,hs⟩ | ⟨h1,hs⟩
    ·have E0:=ab (show n+1+dT xs k=dT xs (m+1) by have:=HQ.out;rw [hs] at this;omega);clear hs HQ;generalize (xs.getD k Pr.none).br=c at *;go_wp2
     go_roundw
     case rel=>exact ⟨k,n+1,by omega,by omega,by go_num,by simp,E0,zN⟩
     case measure=>simp [intOf] <;> omega
    ·have HN:=ab (show n=dT xs (m+1) by have:=HQ.out;rw [hs] at this;omega);clear hs HQ;generalize (xs.getD k Pr.none).br=c at *;go_wp2;go_ret;exact ⟨al (by rw [HS.out,<-HN.out];simp;rw [Bool.eq_iff_iff];simp;omega),zN⟩
theorem qB(v:Value)(xs:List Pr)(i:Nat)(w:World)(hh:HeldP w v xs)(hi:i<xs.length)(hl:xs.length<=1000000) :
  Calls Tryz.prog 210 #[v,.int .i64 i] w (Gives w (.bool (jR xs i))):=by
 cases i with
 |zero=>exact oX v xs w hh
 |succ m=>exact oY v xs m w hh hi hl
def At(w:World)(g:Nat)(xs:List Pr)(k:Nat):Prop:=zt w g (decide (0<k)) (lSt xs k) (cSt xs k) (pSt xs k) (oSt xs k)
def ofI:List (List (Int × Int))->Int->Int->Int->Int
 | [],_,_,d=>d
 | T :: Ts,n,r,d=>if aL T r=true then n else ofI Ts (n+1) r d
theorem kM(r d:Int):∀ (Ts:List (List (Int × Int))) (n:Int) (k:Nat),k<Ts.length->(∀ j,j<k->aL (Ts.getD j []) r=false)->aL (Ts.getD k []) r=true->ofI Ts n r d=n+k
 |[],_,k,hk,_,_=>absurd hk (Nat.not_lt_zero _)
 |T :: Ts,n,0,_,_,h=>by
  have h':aL T r=true:=h;unfold ofI;rw [if_pos h']
  simp
 |T :: Ts,n,k+1,hk,hj,h=>by
  have h':aL T r=false:=hj 0 (by omega);unfold ofI;rw [h',if_neg (by decide),kM r d Ts (n+1) k (by simpa using hk) (fun j h=>hj (j+1) (by omega)) h]
  push_cast
  omega
theorem je(r d:Int):∀ (Ts:List (List (Int × Int))) (n:Int),(∀ j,j<Ts.length->aL (Ts.getD j []) r=false)->ofI Ts n r d=d
 |[],_,_=>rfl
 |T :: Ts,n,hj=>by
  have h':aL T r=false:=hj 0 (by simp);unfold ofI;rw [h',if_neg (by decide),je r d Ts (n+1) (fun j h=>hj (j+1) (by simpa using h))]
def tabs09:List (List (Int × Int)):=[tCR,tLF,tControl,tExtend,tZWJ,tRI,tPrepend,tSpacing]
def tabs11:List (List (Int × Int)):=[tCons,tLink,tJoin]
def tabs12:List (List (Int × Int)):=[tWide,tFull,tHalf]
theorem qA{W:World}{g:Nat}{vs:List Value}{t:TypeId}(h:Has W g vs t)(k:Nat)(hk:k<vs.length):W.cell? ⟨g,k,none⟩=some (vs.getD k undef) :=
 h.cell k _ (by simp [List.getD,List.getElem?_eq_getElem hk])
theorem sB(r:Int)(w:World)(r0 : -2147483648<=r)(r1:r<=2147483647):Calls Tryz.prog 66 #[.int .i32 r] w (Gives w (.int .i64 (ofI tabs11 1 r 0))):=by
 go_enter Tryz.func66,Tryz.ntmps66
 go_wp2_with fail
 refine (nz _).mono ?_;rintro e w1 ⟨v1,rfl,h1,b1⟩;obtain ⟨ao1,c1,rfl,_⟩:=id h1.view;have H1:=ab h1;clear h1
 go_wp2_with fail
 refine (nA _).mono ?_;rintro e w2 ⟨v2,rfl,h2,b2⟩;obtain ⟨ao2,c2,rfl,_⟩:=id h2.view;have H2:=ab h2;clear h2
 go_wp2_with fail
 refine (nD _).mono ?_;rintro e w3 ⟨v3,rfl,h3,b3⟩;obtain ⟨ao3,c3,rfl,_⟩:=id h3.view;have H3:=ab h3;clear h3;go_wp2;obtain ⟨vs,IH⟩ : ∃ vs:List Value,vs=[.slice ao1 tCons.length c1,.slice ao2 tLink.length c2,.slice ao3 tJoin.length c3]:=⟨_,rfl⟩;obtain ⟨W,hW⟩:=ae (w3.alloc (.cells vs.toArray 188));have hE:w3.alloc (.cells #[.slice ao1 tCons.length c1,.slice ao2 tLink.length c2,.slice ao3 tJoin.length c3] 188)=W:=by rw [hW,IH]
 rw [hE];have hlen:vs.length=3:=by rw [IH];rfl
 have hs:Has W w3.heap.size vs 188:=by rw [hW];exact Has.new w3 _ _
 have Ej:Below w3.heap.size w3 W:=by rw [hW];exact zI _ _
 have En:Below w2.heap.size w2 W:=b3.trans (Ej.mono b3.size);have Ef:Below w1.heap.size w1 W:=b2.trans (En.mono b2.size);have hall:∀ k,k<3->HeldT .i64 W (vs.getD k undef) (tabs11.getD k []):=by
  intro k hk;rw [IH]
  match k,hk with
  |0,_=>exact H1.out.below Ef
  |1,_=>exact H2.out.below En
  |2,_=>exact H3.out.below Ej
 have hl:Below w.heap.size w W:=b1.trans (Ef.mono b1.size);have hsm:∀ k,k<3->(tabs11.getD k []).length<=1000000:=by
  intro k hk
  match k,hk with
  |0,_=>show tCons.length<=1000000;decide +kernel
  |1,_=>show tLink.length<=1000000;decide +kernel
  |2,_=>show tJoin.length<=1000000;decide +kernel
 have HA:=ab hall;have HS:=ab hs;have HM:=ab hsm;clear hall hsm hE IH hW H1 H2 H3 b1 b2 b3 Ef En Ej
 go_loopw [4] (fun i wr=>∃ k:Nat,k<=3/\i=.int .i64 k/\Hid (∀ j,j<k->aL (tabs11.getD j []) r=false)/\Below W.heap.size W wr) (fun i _=>3 - (intOf i).toNat)
 case atStart=>exact ⟨0,Nat.zero_le _,rfl,ab (fun j hj=>by omega),Below.refl _ _⟩
 case round =>
  obtain ⟨k,hk,rfl,HN,zN⟩:=hrel
  by_cases hlt:k<3
  ·have hh:=(HA.out k hlt).below zN;have AX:=(zN.cell (p:=⟨w3.heap.size,k,none⟩) HS.out.lt).trans (qA HS.out k (by rw [hlen];exact hlt));have hm:=HM.out k hlt;obtain ⟨T,hT⟩:=ae (tabs11.getD k []);rw [<-hT] at hh hm;have HT:=ab hT;obtain ⟨ao,cap,hv,_⟩:=id hh.view;rw [hv] at hh AX;have HH:=ab hh;clear hh hv hT
   cases Bb:aL T r with
   |true =>
    have he:=kM r 0 tabs11 1 k hlt HN.out (by rw [<-HT.out];exact Bb);have HE:=ab he;clear he
    go_wp2_with fail
    refine (iH _ T r _ HH.out hm r0 r1).mono ?_;rintro e wx ⟨rfl,bx⟩;have Ax:=hl.trans ((zN.trans (bx.mono zN.size)).mono hl.size);go_wp2;go_ret;exact ⟨al (by rw [HE.out];simp;try omega),Ax⟩
   |false =>
    have FG:=ab (show ∀ j,j<k+1->aL (tabs11.getD j []) r=false from fun j hj=>by
     by_cases h:j=k
     ·subst h;rw [<-HT.out];exact Bb
     ·exact HN.out j (by omega))
    go_wp2_with fail
    refine (iH _ T r _ HH.out hm r0 r1).mono ?_;rintro e wx ⟨rfl,bx⟩;have BS:=zN.trans (bx.mono zN.size);go_wp2
    go_roundw
    case rel=>exact ⟨k+1,by omega,by go_num,FG,BS⟩
    case measure=>simp [intOf];omega
  ·have he:=je r 0 tabs11 1 (fun j hj=>HN.out j (Nat.lt_of_lt_of_le hj (show 3<=k by omega)));have HE:=ab he;clear he;have Ax:=hl.trans (zN.mono hl.size);go_wp2;go_ret;exact ⟨al (by rw [HE.out];try rfl),Ax⟩
theorem sC(r:Int)(w:World)(r0 : -2147483648<=r)(r1:r<=2147483647):Calls Tryz.prog 67 #[.int .i32 r] w (Gives w (.int .i64 (ofI tabs12 1 r 0))):=by
 go_enter Tryz.func67,Tryz.ntmps67
 go_wp2_with fail
 refine (nE _).mono ?_;rintro e w1 ⟨v1,rfl,h1,b1⟩;obtain ⟨ao1,c1,rfl,_⟩:=id h1.view;have H1:=ab h1;clear h1
 go_wp2_with fail
 refine (nF _).mono ?_;rintro e w2 ⟨v2,rfl,h2,b2⟩;obtain ⟨ao2,c2,rfl,_⟩:=id h2.view;have H2:=ab h2;clear h2
 go_wp2_with fail
 refine (nI _).mono ?_;rintro e w3 ⟨v3,rfl,h3,b3⟩;obtain ⟨ao3,c3,rfl,_⟩:=id h3.view;have H3:=ab h3;clear h3;go_wp2;obtain ⟨vs,IH⟩ : ∃ vs:List Value,vs=[.slice ao1 tWide.length c1,.slice ao2 tFull.length c2,.slice ao3 tHalf.length c3]:=⟨_,rfl⟩;obtain ⟨W,hW⟩:=ae (w3.alloc (.cells vs.toArray 188));have hE:w3.alloc (.cells #[.slice ao1 tWide.length c1,.slice ao2 tFull.length c2,.slice ao3 tHalf.length c3] 188)=W:=by rw [hW,IH]
 rw [hE];have hlen:vs.length=3:=by rw [IH];rfl
 have hs:Has W w3.heap.size vs 188:=by rw [hW];exact Has.new w3 _ _
 have Ej:Below w3.heap.size w3 W:=by rw [hW];exact zI _ _
 have En:Below w2.heap.size w2 W:=b3.trans (Ej.mono b3.size);have Ef:Below w1.heap.size w1 W:=b2.trans (En.mono b2.size);have hall:∀ k,k<3->HeldT .i64 W (vs.getD k undef) (tabs12.getD k []):=by
  intro k hk;rw [IH]
  match k,hk with
  |0,_=>exact H1.out.below Ef
  |1,_=>exact H2.out.below En
  |2,_=>exact H3.out.below Ej
 have hl:Below w.heap.size w W:=b1.trans (Ef.mono b1.size);have hsm:∀ k,k<3->(tabs12.getD k []).length<=1000000:=by
  intro k hk
  match k,hk with
  |0,_=>show tWide.length<=1000000;decide +kernel
  |1,_=>show tFull.length<=1000000;decide +kernel
  |2,_=>show tHalf.length<=1000000;decide +kernel
 have HA:=ab hall;have HS:=ab hs;have HM:=ab hsm;clear hall hsm hE IH hW H1 H2 H3 b1 b2 b3 Ef En Ej
 go_loopw [4] (fun i wr=>∃ k:Nat,k<=3/\i=.int .i64 k/\Hid (∀ j,j<k->aL (tabs12.getD j []) r=false)/\Below W.heap.size W wr) (fun i _=>3 - (intOf i).toNat)
 case atStart=>exact ⟨0,Nat.zero_le _,rfl,ab (fun j hj=>by omega),Below.refl _ _⟩
 case round =>
  obtain ⟨k,hk,rfl,HN,zN⟩:=hrel
  by_cases hlt:k<3
  ·have hh:=(HA.out k hlt).below zN;have AX:=(zN.cell (p:=⟨w3.heap.size,k,none⟩) HS.out.lt).trans (qA HS.out k (by rw [hlen];exact hlt));have hm:=HM.out k hlt;obtain ⟨T,hT⟩:=ae (tabs12.getD k []);rw [<-hT] at hh hm;have HT:=ab hT;obtain ⟨ao,cap,hv,_⟩:=id hh.view;rw [hv] at hh AX;have HH:=ab hh;clear hh hv hT
   cases Bb:aL T r with
   |true =>
    have he:=kM r 0 tabs12 1 k hlt HN.out (by rw [<-HT.out];exact Bb);have HE:=ab he;clear he
    go_wp2_with fail
    refine (iH _ T r _ HH.out hm r0 r1).mono ?_;rintro e wx ⟨rfl,bx⟩;have Ax:=hl.trans ((zN.trans (bx.mono zN.size)).mono hl.size);go_wp2;go_ret;exact ⟨al (by rw [HE.out];simp;try omega),Ax⟩
   |false =>
    have FG:=ab (show ∀ j,j<k+1->aL (tabs12.getD j []) r=false from fun j hj=>by
     by_cases h:j=k
     ·subst h;rw [<-HT.out];exact Bb
     ·exact HN.out j (by omega))
    go_wp2_with fail
    refine (iH _ T r _ HH.out hm r0 r1).mono ?_;rintro e wx ⟨rfl,bx⟩;have BS:=zN.trans (bx.mono zN.size);go_wp2
    go_roundw
    case rel=>exact ⟨k+1,by omega,by go_num,FG,BS⟩
    case measure=>simp [intOf];omega
  ·have he:=je r 0 tabs12 1 (fun j hj=>HN.out j (Nat.lt_of_lt_of_le hj (show 3<=k by omega)));have HE:=ab he;clear he;have Ax:=hl.trans (zN.mono hl.size);go_wp2;go_ret;exact ⟨al (by rw [HE.out];try rfl),Ax⟩
theorem sD(r:Int)(w:World)(r0 : -2147483648<=r)(r1:r<=2147483647):Calls Tryz.prog 64 #[.int .i32 r] w (Gives w (.int .i64 (ofI tabs09 1 r (bi r)))):=by
 go_enter Tryz.func64,Tryz.ntmps64
 go_wp2_with fail
 refine (np _).mono ?_;rintro e w1 ⟨v1,rfl,h1,b1⟩;obtain ⟨ao1,c1,rfl,_⟩:=id h1.view;have H1:=ab h1;clear h1
 go_wp2_with fail
 refine (nr _).mono ?_;rintro e w2 ⟨v2,rfl,h2,b2⟩;obtain ⟨ao2,c2,rfl,_⟩:=id h2.view;have H2:=ab h2;clear h2
 go_wp2_with fail
 refine (ns _).mono ?_;rintro e w3 ⟨v3,rfl,h3,b3⟩;obtain ⟨ao3,c3,rfl,_⟩:=id h3.view;have H3:=ab h3;clear h3
 go_wp2_with fail
 refine (nt _).mono ?_;rintro e w4 ⟨v4,rfl,h4,b4⟩;obtain ⟨ao4,c4,rfl,_⟩:=id h4.view;have H4:=ab h4;clear h4
 go_wp2_with fail
 refine (nu _).mono ?_;rintro e w5 ⟨v5,rfl,h5,b5⟩;obtain ⟨ao5,c5,rfl,_⟩:=id h5.view;have H5:=ab h5;clear h5
 go_wp2_with fail
 refine (nw _).mono ?_;rintro e w6 ⟨v6,rfl,h6,b6⟩;obtain ⟨ao6,c6,rfl,_⟩:=id h6.view;have H6:=ab h6;clear h6
 go_wp2_with fail
 refine (nx _).mono ?_;rintro e w7 ⟨v7,rfl,h7,b7⟩;obtain ⟨ao7,c7,rfl,_⟩:=id h7.view;have H7:=ab h7;clear h7
 go_wp2_with fail
 refine (ny _).mono ?_;rintro e w8 ⟨v8,rfl,h8,b8⟩;obtain ⟨ao8,c8,rfl,_⟩:=id h8.view;have H8:=ab h8;clear h8;go_wp2;obtain ⟨vs,IH⟩ : ∃ vs:List Value,vs=[.slice ao1 tCR.length c1,.slice ao2 tLF.length c2,.slice ao3 tControl.length c3,.slice ao4 tExtend.length c4,.slice ao5 tZWJ.length c5,.slice ao6 tRI.length c6,.slice ao7 tPrepend.length c7,.slice ao8 tSpacing.length c8]:=⟨_,rfl⟩;obtain ⟨W,hW⟩:=ae (w8.alloc (.cells vs.toArray 188));have hE:w8.alloc (.cells #[.slice ao1 tCR.length c1,.slice ao2 tLF.length c2,.slice ao3 tControl.length c3,.slice ao4 tExtend.length c4,.slice ao5 tZWJ.length c5,.slice ao6 tRI.length c6,.slice ao7 tPrepend.length c7,.slice ao8 tSpacing.length c8] 188)=W:=by rw [hW,IH]
 rw [hE];have hlen:vs.length=8:=by rw [IH];rfl
 have hs:Has W w8.heap.size vs 188:=by rw [hW];exact Has.new w8 _ _
 have LJ:Below w8.heap.size w8 W:=by rw [hW];exact zI _ _
 have Lm:Below w7.heap.size w7 W:=b8.trans (LJ.mono b8.size);have LT:Below w6.heap.size w6 W:=b7.trans (Lm.mono b7.size);have LW:Below w5.heap.size w5 W:=b6.trans (LT.mono b6.size);have Mc:Below w4.heap.size w4 W:=b5.trans (LW.mono b5.size);have Ej:Below w3.heap.size w3 W:=b4.trans (Mc.mono b4.size);have En:Below w2.heap.size w2 W:=b3.trans (Ej.mono b3.size);have Ef:Below w1.heap.size w1 W:=b2.trans (En.mono b2.size);have hall:∀ k,k<8->HeldT .i64 W (vs.getD k undef) (tabs09.getD k []):=by
  intro k hk;rw [IH]
  match k,hk with
  |0,_=>exact H1.out.below Ef
  |1,_=>exact H2.out.below En
  |2,_=>exact H3.out.below Ej
  |3,_=>exact H4.out.below Mc
  |4,_=>exact H5.out.below LW
  |5,_=>exact H6.out.below LT
  |6,_=>exact H7.out.below Lm
  |7,_=>exact H8.out.below LJ
 have hl:Below w.heap.size w W:=b1.trans (Ef.mono b1.size);have hsm:∀ k,k<8->(tabs09.getD k []).length<=1000000:=by
  intro k hk
  match k,hk with
  |0,_=>show tCR.length<=1000000;decide +kernel
  |1,_=>show tLF.length<=1000000;decide +kernel
  |2,_=>show tControl.length<=1000000;decide +kernel
  |3,_=>show tExtend.length<=1000000;decide +kernel
  |4,_=>show tZWJ.length<=1000000;decide +kernel
  |5,_=>show tRI.length<=1000000;decide +kernel
  |6,_=>show tPrepend.length<=1000000;decide +kernel
  |7,_=>show tSpacing.length<=1000000;decide +kernel
 have HA:=ab hall;have HS:=ab hs;have HM:=ab hsm;clear hall hsm hE IH hW H1 H2 H3 H4 H5 H6 H7 H8 b1 b2 b3 b4 b5 b6 b7 b8 Ef En Ej Mc LW LT Lm LJ
 go_loopw [4] (fun i wr=>∃ k:Nat,k<=8/\i=.int .i64 k/\Hid (∀ j,j<k->aL (tabs09.getD j []) r=false)/\Below W.heap.size W wr) (fun i _=>8 - (intOf i).toNat)
 case atStart=>exact ⟨0,Nat.zero_le _,rfl,ab (fun j hj=>by omega),Below.refl _ _⟩
 case round =>
  obtain ⟨k,hk,rfl,HN,zN⟩:=hrel
  by_cases hlt:k<8
  ·have hh:=(HA.out k hlt).below zN;have AX:=(zN.cell (p:=⟨w8.heap.size,k,none⟩) HS.out.lt).trans (qA HS.out k (by rw [hlen];exact hlt));have hm:=HM.out k hlt;obtain ⟨T,hT⟩:=ae (tabs09.getD k []);rw [<-hT] at hh hm;have HT:=ab hT;obtain ⟨ao,cap,hv,_⟩:=id hh.view;rw [hv] at hh AX;have HH:=ab hh;clear hh hv hT
   cases Bb:aL T r with
   |true =>
    have he:=kM r (bi r) tabs09 1 k hlt HN.out (by rw [<-HT.out];exact Bb);have HE:=ab he;clear he
    go_wp2_with fail
    refine (iH _ T r _ HH.out hm r0 r1).mono ?_;rintro e wx ⟨rfl,bx⟩;have Ax:=hl.trans ((zN.trans (bx.mono zN.size)).mono hl.size);go_wp2;go_ret;exact ⟨al (by rw [HE.out];simp;try omega),Ax⟩
   |false =>
    have FG:=ab (show ∀ j,j<k+1->aL (tabs09.getD j []) r=false from fun j hj=>by
     by_cases h:j=k
     ·subst h;rw [<-HT.out];exact Bb
     ·exact HN.out j (by omega))
    go_wp2_with fail
    refine (iH _ T r _ HH.out hm r0 r1).mono ?_;rintro e wx ⟨rfl,bx⟩;have BS:=zN.trans (bx.mono zN.size);go_wp2
    go_roundw
    case rel=>exact ⟨k+1,by omega,by go_num,FG,BS⟩
    case measure=>simp [intOf];omega
  ·have he:=je r (bi r) tabs09 1 (fun j hj=>HN.out j (Nat.lt_of_lt_of_le hj (show 8<=k by omega)));have HE:=ab he;clear he;have Ax:=hl.trans (zN.mono hl.size)
   go_wp2_with fail
   refine (nT r _ r0 r1).mono ?_;rintro e w' ⟨rfl,rfl⟩;go_wp2;go_ret;exact ⟨al (by rw [HE.out];try rfl),Ax⟩
theorem xO(a r:Int):aL [(a,a)] r=decide (r=a):=by
 rw [mB]
 by_cases h:r=a
 ·subst h;simp
 ·rw [decide_eq_false h]
  by_cases h1:a<=r
  ·rw [decide_eq_false (show ¬ r<=a by omega)];simp
  ·rw [decide_eq_false h1];rfl
def kL:List (Int × Int):=[(13,13),(10,10),(8205,8205),(127462,127487)]
theorem lh{r:Int}(h:aL kL r=false):r≠13/\r≠10/\r≠8205/\¬ (127462<=r/\r<=127487):=by
 simp [aL,kL] at h
 omega
theorem zo:apart tControl kL=true:=by decide +kernel
theorem zp:apart tExtend kL=true:=by decide +kernel
theorem zq:apart tSpacing tPrepend=true:=by decide +kernel
theorem xP(r:Int):ofI tabs09 1 r (bi r)=bQ r:=by
 simp only [tabs09,ofI,tCR,tLF,tZWJ,xO,tRI,mB];unfold bQ bm
 by_cases Es:r=13
 ·simp [Es]
 by_cases h10:r=10
 ·simp [h10]
 simp only [Es,h10,decide_false,Bool.false_eq_true,if_false]
 cases hc:aL tControl r with
 |true =>
  obtain ⟨_,_,h1,h2⟩:=lh (jP zo hc)
  simp [h1,h2]
 |false =>
  cases he:aL tExtend r with
  |true =>
   obtain ⟨_,_,h1,h2⟩:=lh (jP zp he)
   simp [h1,h2]
  |false =>
   by_cases hz:r=8205
   ·simp [hz]
   by_cases hr:127462<=r/\r<=127487
   ·simp [hz,hr]
   ·have Lo:¬ ((decide (127462<=r) && decide (r<=127487))=true):=by simpa using hr
    simp only [hz,hr,Lo,decide_false,Bool.false_eq_true,if_false]
    cases hs:aL tSpacing r with
    |true=>rw [jP zq hs];simp
    |false =>
     cases hp:aL tPrepend r <;> simp
theorem uG(r:Int):ofI tabs11 1 r 0=du r:=rfl
theorem uH(r:Int):ofI tabs12 1 r 0=eL r:=rfl
theorem sz(r:Int)(w:World)(r0 : -2147483648<=r)(r1:r<=2147483647):Calls Tryz.prog 65 #[.int .i32 r] w (Gives w (.bool (aL tPict r))):=by
 go_enter Tryz.func65,Tryz.ntmps65
 go_wp2_with fail
 refine (oN _).mono ?_;rintro e w1 ⟨v1,rfl,h1,b1⟩
 go_wp2_with fail
 refine (iH _ tPict r _ h1 (by rw [fK];decide) r0 r1).mono ?_;rintro e w2 ⟨rfl,b2⟩;go_wp2;go_ret;exact ⟨af,b1.trans (b2.mono b1.size)⟩
theorem xC{w:World}{ao:Option Addr}{n cap:Nat}{xs:List Int}{K:Nat}(h:yH w (.slice ao n cap) (bK xs K))(k:Nat)(hk:k<K) :
  ∃ b off,ao=some ⟨b,off,none⟩/\b<w.heap.size/\w.cell? ⟨b,off+k * 5,none⟩=some (.int .i32 (cO xs (cx xs k)).1)/\w.cell? ⟨b,off+k * 5+1,none⟩=some (.int .i64 (cO xs (cx xs k)).2.1) /\
   w.cell? ⟨b,off+k * 5+2,none⟩=some (.int .i64 (cO xs (cx xs k)).2.2.1)/\w.cell? ⟨b,off+k * 5+3,none⟩=some (.int .i64 (cO xs (cx xs k)).2.2.2.1)/\w.cell? ⟨b,off+k * 5+4,none⟩=some (.bool (cO xs (cx xs k)).2.2.2.2):=by
 obtain ⟨ao',cap',he,hc⟩:=h
 cases he
 have Hc:k<(bK xs K).length:=by rw [em];exact hk
 have hx:(bK xs K)[k]=cO xs (cx xs k):=by
  have:=nj xs K k hk;rw [List.getElem?_eq_getElem Hc] at this;exact Option.some.inj this
 have:=hc k Hc;rw [hx] at this;exact this
def gJ(r:Int):Value:=.agg #[.int .i64 (bQ r),.bool (aL tPict r),.int .i64 (du r),.int .i64 (eL r)]
theorem oM(w:World)(g:Nat)(a b c d:Value):But g w.heap.size w ((((w.setCell ⟨g,0,none⟩ a).setCell ⟨g,1,none⟩ b).setCell ⟨g,2,none⟩ c).setCell ⟨g,3,none⟩ d) :=
 ((((But.refl _ _ _).set 0 _).set 1 _).set 2 _).set 3 _
theorem sy(r:Int)(w:World):Calls Tryz.prog 149 #[.int .i32 r] w (Gives w (gJ r)):=by
 have KA:=Has.new w [Value.int .i64 0,.bool false,.int .i64 0,.int .i64 0] 33;have HR:=ab KA;have hl0:Below w.heap.size w (w.alloc (.cells [Value.int .i64 0,.bool false,.int .i64 0,.int .i64 0].toArray 33)):=zI _ _;have HL:=ab hl0;clear KA hl0
 go_enter Tryz.func149,Tryz.ntmps149
 go_wp2_with fail
 refine (xR r _).mono ?_;rintro e w1 ⟨rfl,b1⟩
 go_wp2_with fail
 refine (uJ r _).mono ?_;rintro e w2 ⟨rfl,b2⟩
 go_wp2_with fail
 refine (xQ r _).mono ?_;rintro e w3 ⟨rfl,b3⟩
 go_wp2_with fail
 refine (uI r _).mono ?_;rintro e w4 ⟨rfl,b4⟩;have hb:=b1.trans ((b2.trans ((b3.trans (b4.mono b3.size)).mono b2.size)).mono b1.size);have hr4:=HR.out.below hb HR.out.lt;have hl4:=HL.out.trans (hb.mono HL.out.size);have g0:=hr4.cell 0 _ rfl;have g1:=hr4.cell 1 _ rfl;have g2:=hr4.cell 2 _ rfl;have g3:=hr4.cell 3 _ rfl;have f0:=hr4.free 0;have f1:=hr4.free 1;have f2:=hr4.free 2;have f3:=hr4.free 3;have hlt:=hr4.lt;have hbl:=fun x y z u=>hl4.trans ((oM w4 w.heap.size x y z u).below hl4.size (Nat.le_refl _))
 have A1:=ab hbl;clear hb hr4 hl4 hbl b1 b2 b3 b4 HR HL;go_wp2;exact bodyPost_ret (v:=gJ r) (by simp [results,Tryz.results149,go_sem,gJ,g0,g1,g2,g3]) rfl ⟨rfl,A1.out _ _ _ _⟩
theorem lg(r:Int)(w:World)(r0 : -2147483648<=r)(r1:r<=2147483647):Calls Tryz.prog 13 #[.int .i32 r] w (Gives w (gJ r)):=by
 have KA:=Has.new w [Value.int .i64 0,.bool false,.int .i64 0,.int .i64 0] 33;have HR:=ab KA;have hl0:Below w.heap.size w (w.alloc (.cells [Value.int .i64 0,.bool false,.int .i64 0,.int .i64 0].toArray 33)):=zI _ _;have HL:=ab hl0;clear KA hl0
 go_enter Tryz.func13,Tryz.ntmps13
 go_wp2_with fail
 refine (sD r _ r0 r1).mono ?_;rintro e w1 ⟨rfl,b1⟩;rw [xP r]
 go_wp2_with fail
 refine (sz r _ r0 r1).mono ?_;rintro e w2 ⟨rfl,b2⟩
 go_wp2_with fail
 refine (sB r _ r0 r1).mono ?_;rintro e w3 ⟨rfl,b3⟩;rw [uG r]
 go_wp2_with fail
 refine (sC r _ r0 r1).mono ?_;rintro e w4 ⟨rfl,b4⟩;rw [uH r];have hb:=b1.trans ((b2.trans ((b3.trans (b4.mono b3.size)).mono b2.size)).mono b1.size);have hr4:=HR.out.below hb HR.out.lt;have hl4:=HL.out.trans (hb.mono HL.out.size);have g0:=hr4.cell 0 _ rfl;have g1:=hr4.cell 1 _ rfl;have g2:=hr4.cell 2 _ rfl;have g3:=hr4.cell 3 _ rfl;have f0:=hr4.free 0;have f1:=hr4.free 1;have f2:=hr4.free 2;have f3:=hr4.free 3;have hlt:=hr4.lt;have hbl:=fun x y z u=>hl4.trans ((oM w4 w.heap.size x y z u).below hl4.size (Nat.le_refl _))
 have A1:=ab hbl;clear hb hr4 hl4 hbl b1 b2 b3 b4 HR HL;go_wp2;exact bodyPost_ret (v:=gJ r) (by simp [results,Tryz.results13,go_sem,gJ,g0,g1,g2,g3]) rfl ⟨rfl,A1.out _ _ _ _⟩
def bh(r:Int):Pr:=⟨bQ r,aL tPict r,du r,eL r⟩
def aq(xs:List Int):List Pr:=xs.map bh
theorem mz{xs:List Int}{k:Nat}(h:k<xs.length):(aq xs).getD k Pr.none=bh (xs.getD k 0):=by
 have h':k<(aq xs).length:=by simpa [aq] using h
 simp [List.getD,List.getElem?_eq_getElem h,aq]
theorem cS(xs:List Int):(aq xs).length=xs.length:=by simp [aq]
theorem mA:(Tryz.prog.info? 33).map (fun i=>(i.zero,i.size,i.bytes))=some (some (.agg #[.int .i64 0,.bool false,.int .i64 0,.int .i64 0]),4,32):=by kernel_rfl
def toI(l:List Nat):List Int:=l.map fun (k:Nat)=>(k:Int)
theorem xN(l:List Nat):(toI l).length=l.length:=by simp [toI]
theorem yO{l:List Nat}{i:Nat}(h:i<l.length):(toI l).getD i 0=(l[i]:Nat):=by
 simp [List.getD,toI,List.getElem?_eq_getElem h]
def bI(xs:List Int):Prop:=∀ i,i<xs.length -> -2147483648<=xs.getD i 0/\xs.getD i 0<=2147483647
def uE(w:World)(e:TypeId)(l:List Int)(en:Ending)(w':World):Prop:=∃ v n,en=.returned v/\w'.ownsRow w.heap.size e 1 v n (l.map (Value.int .i64))/\Below w.heap.size w w'
theorem oK:(Tryz.prog.info? 3).map (fun i=>(i.zero,i.size,i.bytes))=some (some (.int .i64 0),1,8):=by kernel_rfl
theorem uF(l:List Nat)(k:Nat):(toI (l++[k])).map (Value.int .i64)=(toI l).map (Value.int .i64)++[.int .i64 (k:Int)]:=by simp [toI]
theorem sx{w:World}{B B' e size:Nat}{v:Value}{n:Nat}{xs:List Value}(h:w.ownsRow B e size v n xs)(hb:B'<=B):w.ownsRow B' e size v n xs:=by
 refine ⟨h.1,?_⟩
 rcases h.2 with hn | ⟨g,cap,cur,rfl,hB,rest⟩
 ·exact .inl hn
 ·exact .inr ⟨g,cap,cur,rfl,Nat.le_trans hb hB,rest⟩
theorem qv(v:Value)(xs:List Int)(w:World)(hx:Held .i32 w v xs)(hn:xs.length<=1000000)(hr:bI xs) :
  Calls Tryz.prog 209 #[v] w fun e w'=>∃ v',e=.returned v'/\HeldP w' v' (aq xs)/\Below w.heap.size w w':=by
 obtain ⟨ao,ca,rfl,hc⟩:=hx.view;have HC:=ab hc;have HR:=ab hr;clear hc hx hr
 go_enter Tryz.func209,Tryz.ntmps209
 go_wp2
 go_loopw [3,4] (fun p i wr=>∃ k:Nat,k<=xs.length/\i=.int .i64 k/\wr.ownsRow w.heap.size 33 4 p k (bV ((aq xs).take k))/\Below w.heap.size w wr) (fun _ i _=>xs.length - (intOf i).toNat)
 case atStart=>exact ⟨0,Nat.zero_le _,rfl,World.ownsRow_nil _ _ _ _,Below.refl _ _⟩
 case round =>
  obtain ⟨k,hk,rfl,hown,zN⟩:=hrel
  by_cases hlt:k<xs.length
  ·obtain ⟨b,off,rfl,hb,AX⟩:=HC.out k hlt;have AX:=(zN.cell (p:=⟨b,off+k,none⟩) hb).trans AX;obtain ⟨r0,r1⟩:=HR.out k hlt;have CT:=oV (aq xs) k (by rw [cS];exact hlt);rw [mz hlt] at CT;obtain ⟨r,hr⟩:=ae (xs.getD k 0);rw [<-hr] at AX r0 r1 CT;have Gf:=ab CT;have HOW:=ab hown;clear hr CT hown
   go_wp2_with fail
   refine (lg r _ r0 r1).mono ?_;rintro e w1 ⟨rfl,b1⟩;have hown1:=aN HOW.out b1;have hb1:=zN.trans (b1.mono zN.size);rw [show gJ r=.agg #[.int .i64 (bQ r),.bool (aL tPict r),.int .i64 (du r),.int .i64 (eL r)] from rfl];clear AX
   go_wp2_with (at_builtin;refine fe w1 rfl (.tmp 11) (.tmp 17) 28 rfl w.heap.size 33 (.agg #[.int .i64 0,.bool false,.int .i64 0,.int .i64 0]) 4 32 Tryz.underlying28 mA rfl (by decide) u3 k (bV ((aq xs).take k)) rfl hown1 [.int .i64 (bQ r),.bool (aL tPict r),.int .i64 (du r),.int .i64 (eL r)] 1 1 rfl rfl (by intro u hu;simp at hu;rcases hu with rfl | rfl | rfl | rfl <;> rfl) (by omega) (by omega) hb1.size ?_)
   intro v' w' hown' hb';have hown2:w'.ownsRow w.heap.size 33 4 v' (k+1) (bV ((aq xs).take (k+1))):=by rw [Gf.out];exact hown'
   have Mj:=hb1.trans hb';clear hown1 hown';go_wp2
   go_roundw
   case rel=>exact ⟨k+1,by omega,by go_num,hown2,Mj⟩
   case measure=>simp [intOf] <;> omega
  ·obtain rfl:k=xs.length:=by omega
   rw [List.take_of_length_le (by rw [cS];exact Nat.le_refl _)] at hown;have HP:=ab (ix hown);clear hown;go_wp2;go_ret;exact ⟨_,rfl,HP.out,zN⟩
theorem oL(v:Value)(xs:List Int)(w:World)(hx:Held .i32 w v xs)(hn:xs.length<=1000000)(hr:bI xs) :
  Calls Tryz.prog 158 #[v] w (uE w 3 (toI (aV (jR (aq xs)) xs.length))):=by
 obtain ⟨ao,ca,rfl,_⟩:=hx.view;have HX:=ab hx;have HR:=ab hr;clear hx hr
 go_enter Tryz.func158,Tryz.ntmps158
 go_wp2_with fail
 refine (qv _ xs _ HX.out hn HR.out).mono ?_;rintro e w1 ⟨v1,rfl,DE,b1⟩;obtain ⟨po,pcap,rfl,_⟩:=id DE;have DN:=ab DE;clear DE;rw [cS];go_wp2
 go_loopw [3,5] (fun p i wr=>∃ k:Nat,k<=xs.length/\i=.int .i64 k/\wr.ownsRow w1.heap.size 3 1 p (aV (jR (aq xs)) k).length ((toI (aV (jR (aq xs)) k)).map (Value.int .i64))/\Below w1.heap.size w1 wr) (fun _ i _=>xs.length - (intOf i).toNat)
 case atStart=>exact ⟨0,Nat.zero_le _,rfl,World.ownsRow_nil _ _ _ _,Below.refl _ _⟩
 case round =>
  obtain ⟨k,hk,rfl,hown,zN⟩:=hrel
  by_cases hlt:k<xs.length
  ·have hj:=qB _ (aq xs) k wr (DN.out.below zN) (by rw [cS];exact hlt) (by rw [cS];exact hn);rw [cS] at hj;have HJ:=ab hj;have HOW:=ab hown;have BU:=lf (jR (aq xs)) k;have hsu:=gI (jR (aq xs)) k;clear hj hown
   go_wp2_with fail
   refine HJ.out.mono ?_;rintro e w2 ⟨rfl,b2⟩;have hown2:=aN HOW.out b2;have hb2:=zN.trans (b2.mono zN.size)
   cases hj:jR (aq xs) k with
   |true =>
    rw [hj] at hsu;simp only [if_true,List.append_nil] at hsu;rw [<-hsu] at hown2;have HOW2:=ab hown2;clear hown2 hj hsu;go_wp2
    go_roundw
    case rel=>exact ⟨k+1,by omega,by go_num,HOW2.out,hb2⟩
    case measure=>simp [intOf] <;> omega
   |false =>
    rw [hj] at hsu;simp only [Bool.false_eq_true,if_false] at hsu;have HSU:=ab hsu;have hlen:(aV (jR (aq xs)) (k+1)).length=(aV (jR (aq xs)) k).length+1:=by rw [hsu];simp
    have HL:=ab hlen;clear hj hsu hlen
    go_wp2_with (at_builtin;refine bZ w2 rfl (.tmp 18) (.tmp 20) 76 rfl w1.heap.size 3 (.int .i64 0) 8 Tryz.underlying76 oK rfl u3 (aV (jR (aq xs)) k).length ((toI (aV (jR (aq xs)) k)).map (Value.int .i64)) rfl hown2 [.int .i64 (k:Int)] 1 1 rfl rfl (by intro u hu;simp at hu;rcases hu with rfl <;> rfl) (by omega) (by omega) hb2.size ?_)
    intro v' w' hown' hb';have BX:w'.ownsRow w1.heap.size 3 1 v' (aV (jR (aq xs)) (k+1)).length ((toI (aV (jR (aq xs)) (k+1))).map (Value.int .i64)):=by rw [HL.out,HSU.out,uF];exact hown'
    have hb3:=hb2.trans hb';clear hown2 hown';go_wp2
    go_roundw
    case rel=>exact ⟨k+1,by omega,by go_num,BX,hb3⟩
    case measure=>simp [intOf] <;> omega
  ·obtain rfl:k=xs.length:=by omega
   have HO:=ab (sx hown b1.size);have Ax:=b1.trans (zN.mono b1.size);clear hown;go_wp2;go_ret;exact ⟨_,_,rfl,HO.out,Ax⟩
section
attribute [local go_sem] Oper.semAt_some
theorem kK(xs:List Pr):jR xs 0=false:=by
 rw [lq]
 simp [cz]
structure Cu where
 p:Nat × Nat
 v:Value
def XCu(xs:List Int)(lo hi:Nat)(x:Cu)(W:World):Prop:=∃ g,x.v=.slice (some ⟨g,x.p.1,none⟩) (x.p.2 - x.p.1) (x.p.2 - x.p.1)/\lo<=g/\g<hi/\g<W.heap.size/\x.p.1<x.p.2/\x.p.2<=xs.length/\∀ i,i<xs.length->W.cell? ⟨g,i,none⟩=some (.int .i32 (xs.getD i 0))
def clS(xs:List Int):List (Nat × Nat):=fb (jR (aq xs)) xs.length
end
section
attribute [local go_sem] Oper.semAt_some
section
variable {P : Program} {F : Fence} {nf : Nat} {α : Type} {E : Elem α} {Z : an} {w : World} {v u : Value} {L M : List α} {B : Nat} {ty : TypeId}
end
end
section
attribute [local go_sem] Oper.semAt_some
def rowE:Elem (List Int):=slE (aE .i32)
theorem xM:(Tryz.prog.info? 27).map (fun i=>(i.zero,i.size,i.bytes))=some (some (.slice none 0 0),rowE.size,24):=by kernel_rfl
def rI(w:World)(L:List (List Int))(e:Ending)(w':World):Prop:=∃ v',e=.returned v'/\OwnE rowE (fun b=>w.heap.size<=b) w' w.heap.size 27 v' L/\Below w.heap.size w w'
def bj(xs:List Int):List (List Int):=(clS xs).map (bu xs)
theorem _root_.Go.Proofs.YtoeggiplcaegoaaGreatDoor.HeldE.zoned{α:Type}{E:Elem α}{Z Y:an}{w:World}{v:Value}{L:List α}(h:HeldE E Z w v L)(hy:∀ b,b<w.heap.size->Z b->Y b):HeldE E Y w v L:=h.zone hy
theorem XCu.held{xs:List Int}{lo hi:Nat}{x:Cu}{W:World}(h:XCu xs lo hi x W):Held .i32 W x.v (bu xs x.p):=by
 obtain ⟨g,hv,h1,h2,h3,h4,h5,h6⟩:=h;have hl:=fc xs x.p (Nat.le_of_lt h4) h5;rw [hv,<-hl];refine hJ h3 fun i hi=>?_
 rw [hl] at hi;rw [h6 _ (by omega)]
 congr 2
 unfold bu
 simp [List.getD,List.getElem?_take,hi,List.getElem?_drop]
theorem XCu.upd{xs:List Int}{lo hi:Nat}{x:Cu}{W W':World}{S:an}(h:XCu xs lo hi x W)(hu:Upd S W W')(hs:∀ b,lo<=b->b<hi->¬ S b):XCu xs lo hi x W':=by
 obtain ⟨g,hv,h1,h2,h3,h4,h5,h6⟩:=h;exact ⟨g,hv,h1,h2,Nat.lt_of_lt_of_le h3 hu.size,h4,h5,fun i hi=>(hu.keep.cell h3 (hs g h1 h2)).trans (h6 i hi)⟩
end
theorem qr{xs:List Int}{i:Nat}(hi:i<(aV (jR (aq xs)) xs.length).length):∃ a b:Nat,(toI (aV (jR (aq xs)) xs.length)++[(xs.length:Int)]).getD i 0=(a:Int)/\(toI (aV (jR (aq xs)) xs.length)++[(xs.length:Int)]).getD (i+1) 0=(b:Int)/\(clS xs).getD i (0,0)=(a,b)/\a<b/\b<=xs.length:=by
 have h0:=sw (jR (aq xs)) (kK _) xs.length i hi;have hl:=iG (jR (aq xs)) (kK _) xs.length;have hm:(clS xs).getD i (0,0) ∈ clS xs:=by
  unfold clS;rw [List.getD,List.getElem?_eq_getElem (by omega)];exact List.getElem_mem _
 have Bt:=jN _ _ _ hm;have e:toI (aV (jR (aq xs)) xs.length)++[(xs.length:Int)]=toI (aV (jR (aq xs)) xs.length++[xs.length]):=by simp [toI]
 have hg:∀ k,k<(aV (jR (aq xs)) xs.length++[xs.length]).length->(toI (aV (jR (aq xs)) xs.length++[xs.length])).getD k 0=(((aV (jR (aq xs)) xs.length++[xs.length]).getD k 0:Nat):Int):=fun k hk=>by
  rw [yO hk]
  simp [List.getD,List.getElem?_eq_getElem hk]
 have h1:(clS xs).getD i (0,0)=_:=h0;rw [h1] at Bt;refine ⟨_,_,?_,?_,h1,Bt.1,Bt.2⟩
 ·rw [e,hg i (by rw [List.length_append];omega)]
 ·rw [e,hg (i+1) (by rw [List.length_append,List.length_singleton];omega)]
theorem ss(xs:List Int)(i:Nat)(h:i<(clS xs).length):(bj xs).take (i+1)=(bj xs).take i++[bu xs ((clS xs).getD i (0,0))]:=by
 unfold bj;rw [List.take_succ_eq_append_getElem (by rw [List.length_map];exact h),List.getElem_map]
 simp [List.getD,List.getElem?_eq_getElem h]
theorem uC(xs:List Int):(bj xs).length=(aV (jR (aq xs)) xs.length).length:=by
 unfold bj;rw [List.length_map];exact iG _ (kK _) _
theorem mv(Z:an)(v:Value)(xs:List Int)(w:World)(hx0:HeldE (aE .i32) Z w v xs)(hn:xs.length<=1000000)(hr:bI xs):Calls Tryz.prog 90 #[v] w (rI w (bj xs)):=by
 have hx:=hx0.ints;obtain ⟨ao,ca,rfl,hmx,hmy,_⟩:=id hx0;have HX:=ab hx;have Jk:=ab hmy;have HST:=ab (oL _ xs w hx hn hr);obtain ⟨n,Er⟩:=ae (xs.length);have HN:=ab Er;have Gm:=ab (uC xs);have Nw:=ab (fun i h=>@qr xs i h);have Ey:=ab (lf (jR (aq xs)) xs.length);obtain ⟨ST,hST⟩:=ae (aV (jR (aq xs)) xs.length);rw [<-hST] at HST Gm Nw Ey;rw [<-Er] at HX HST hn hmx Nw Ey ⊢;clear hx hx0 hr Er hST hmy
 go_enter Tryz.func90,Tryz.ntmps90
 go_wp2_with fail
 refine HST.out.mono ?_;rintro e w1 ⟨v1,k1,rfl,AA,b1⟩;have AA:=dH (Z:=fun b=>w.heap.size<=b) AA;have hb2:=zI w1 (.cells [.int .i64 (n:Int)].toArray 3);have AF:=AA.lt;have HU:=ab (show HeldE (aE .i64) (fun b=>w.heap.size<=b/\v1.ownBlock≠some b) (w1.alloc (.cells [.int .i64 (n:Int)].toArray 3)) (.slice (some ⟨w1.heap.size,0,none⟩) 1 1) [(n:Int)] from aO (Y:=fun _=>False) [.int .i64 (n:Int)] (n:Int) rfl (fun _ _ h=>h.elim) ⟨b1.size,fun e=>by have:=(AF _ e).2;omega⟩);have A4:=ab (AA.below hb2);have Ag:=ab (b1.trans (hb2.mono b1.size));have Nh:(toI ST).length=ST.length:=xN ST;have FE:=ab Nh;clear AA b1 hb2 AF Nh
 go_wp2_with (at_builtin;refine aw (E:=aE .i64) (Z:=fun b=>w.heap.size<=b) rfl (.tmp 7) (.tmp 10) 76 rfl (.int .i64 0) 8 Tryz.underlying76 oK rfl (by decide) rfl rfl A4.out HU.out (by rw [FE.out];simp only [List.length_singleton];have:=Ey.out;omega) (by rw [FE.out];simp only [List.length_singleton];have:=Ey.out;omega) Ag.out.size ?_)
 intro v2 w2 Ap b2 _ _;have FU:=(Ap.held (Z:=fun b=>w.heap.size<=b) (fun b h _=>h)).ints;obtain ⟨aa,cc,rfl,KO⟩:=FU.view;have DU:=ab KO;have HAT:=ab (show (toI ST++[(n:Int)]).length=ST.length+1 from by rw [List.length_append,FE.out];rfl);obtain ⟨m,hm⟩:=ae (ST.length);have HM:=ab hm;rw [HAT.out,<-hm] at DU ⊢;have AM:=ab (Ag.out.trans b2);have hmn:m<=1000000:=by rw [hm];have:=Ey.out;omega
 have HSP2:=ab (show ∀ i,i<m->_ from fun i h=>Nw.out i (by rw [<-hm];exact h));clear Ap b2 FU KO HU A4 Ag hm HST;go_wp2
 go_loopw [3,5] (fun ov i wr=>∃ k:Nat,k<=m/\i=.int .i64 k/\OwnE rowE (fun b=>w2.heap.size<=b) wr w2.heap.size 27 ov ((bj xs).take k)/\Below w2.heap.size w2 wr) (fun _ i _=>m - (intOf i).toNat)
 case atStart=>exact ⟨0,Nat.zero_le _,rfl,OwnE.nil _ _ _ _ _,Below.refl _ _⟩
 case round =>
  obtain ⟨k,hk,rfl,hown,zN⟩:=hrel;obtain ⟨ov,JW⟩:=ae (u3);rw [<-JW] at hown ⊢;have HO:=ab hown;have z5:=ab zN;clear JW hown zN
  by_cases hlt:k<m
  ·obtain ⟨a,b,ha,hb,hp,hab,FI⟩:=HSP2.out k hlt;obtain ⟨ba,oa,e1,hb1,c1⟩:=DU.out k (by omega);obtain ⟨ba',oa',e2,_,c2⟩:=DU.out (k+1) (by omega);subst e1
   cases e2
   rw [ha] at c1;rw [hb] at c2;obtain ⟨bx,ox,ex,BS,_⟩:=HX.out.spots 0 (by rw [<-HN.out];omega);subst ex;have c1:=(z5.out.cell (p:=⟨ba,oa+k,none⟩) hb1).trans c1;have c2:=(z5.out.cell (p:=⟨ba,oa+(k+1),none⟩) hb1).trans c2;have KT:=ab c1;have M8:=ab c2;have FP:=ab (show ba<wr.heap.size from Nat.lt_of_lt_of_le hb1 z5.out.size);have MI:=ab (ss xs k (by have h9:=Gm.out;have:=HM.out;unfold bj at h9;rw [List.length_map] at h9;omega));have hpl:((bj xs).take k).length<=1000000:=by rw [List.length_take];omega
   obtain ⟨CP,Po⟩:=ae ((bj xs).take k);rw [hp,<-Po] at MI;rw [<-Po] at HO hpl;have MJ:=ab hpl;have AD:=ab HO.out.lt;have Gz:=ab z5.out.size;have HSLI:=ab (show ∀ w',Below w.heap.size w w'->Held .i32 w' (.slice (some ⟨bx,ox+a,none⟩) (b - a) (ca - a)) (bu xs (a,b)) from fun w' h=>by
    have hs:=(HX.out.below h).spots;have hl:=fc xs (a,b) (Nat.le_of_lt hab) (by rw [<-HN.out];exact FI);have hh:=hJ (k:=.i32) (w:=w') (b:=bx) (off:=ox+a) (cap:=ca - a) (xs:=bu xs (a,b)) (Nat.lt_of_lt_of_le BS h.size) (fun i hi=>by
     rw [hl] at hi;obtain ⟨b9,o9,e9,_,h9⟩:=hs (a+i) (by rw [<-HN.out];simp only at hi;omega)
     cases e9
     rw [Nat.add_assoc,h9]
     congr 2
     unfold bu;simp only at hi
     simp [List.getD,List.getElem?_take,hi,List.getElem?_drop])
    rw [hl] at hh;exact hh)
   have HSLN:=ab (show (bu xs (a,b)).length<=1000000/\0<(bu xs (a,b)).length from by rw [fc xs (a,b) (Nat.le_of_lt hab) (by rw [<-HN.out];exact FI)];simp only;omega);have Ko:=ab (AM.out.trans (z5.out.mono AM.out.size));have M2:ca - a≠0:=by omega
   have hac2:((ca - a == 0)=false):=by rw [beq_eq_false_iff_ne];exact M2
   have hz1:a<=b:=by omega
   have hz2:b<=ca:=by omega
   have hz3:(a:Int)<=b:=by omega
   have hz4:(b:Int)<=ca:=by omega
   have hne:ca≠a:=by omega
   have hkm:k<m+1:=by omega
   have hkm1:k+1<m+1:=by omega
   have Ki:IntKind.i64.wrap ((k:Int)+1)=(k:Int)+1:=by rw [IntKind.wrap_i64];omega
   have hkmi:(k:Int)<(m:Int)+1:=by omega
   have hkmj:(k:Int)+1<(m:Int)+1:=by omega
   clear hp Po hpl ha hb BS hb1 hmx;go_wp2;obtain ⟨An,BW⟩ : ∃ EE:Nat->Value->World->Prop,EE=fun jj xx ww=>match jj with
     |0=>xx=ov
     |1=>(fun x w'=>∃ g9,x=.slice (some ⟨g9,0,none⟩) 0 0/\w'.ownsRow wr.heap.size 21 1 (.slice (some ⟨g9,0,none⟩) 0 0) 0 []) xx ww
     |2=>xx=.slice (some ⟨bx,ox,none⟩) n ca
     |3=>xx=.slice (some ⟨ba,oa,none⟩) (m+1) cc
     |4=>xx=.int .i64 (k:Int)
     |5=>xx=.pointer (some ⟨ba,oa+k,none⟩)
     |6=>xx=.int .i64 (a:Int)
     |7=>xx=.slice (some ⟨ba,oa,none⟩) (m+1) cc
     |8=>xx=.int .i64 (k:Int)
     |9=>xx=.int .i64 (k+1:Int)
     |10=>xx=.pointer (some ⟨ba,oa+(k+1),none⟩)
     |11=>xx=.int .i64 (b:Int)
     |12=>xx=.slice (some ⟨bx,ox+a,none⟩) (b - a) (ca - a)
     |13=>(fun x w'=>HeldE (aE .i32) (fun b=>wr.heap.size<=b) w' x (bu xs (a,b))) xx ww
     |14=>(fun x w'=>HeldE rowE (fun b=>wr.heap.size<=b) w' x [bu xs (a,b)]) xx ww
     |15=>(fun x w'=>OwnE rowE (fun b=>w2.heap.size<=b) w' w2.heap.size 27 x (CP++[bu xs (a,b)])) xx ww
     |16=>(fun x w'=>OwnE rowE (fun b=>w2.heap.size<=b) w' w2.heap.size 27 x (CP++[bu xs (a,b)])) xx ww
     |_=>True:=⟨_,rfl⟩
   have erg0:∀ xx ww,An 0 xx ww=(xx=ov):=fun xx ww=>congrFun (congrFun (congrFun BW 0) xx) ww
   have erg1:∀ xx ww,An 1 xx ww=((fun x w'=>∃ g9,x=.slice (some ⟨g9,0,none⟩) 0 0/\w'.ownsRow wr.heap.size 21 1 (.slice (some ⟨g9,0,none⟩) 0 0) 0 []) xx ww):=fun xx ww=>congrFun (congrFun (congrFun BW 1) xx) ww
   have erg2:∀ xx ww,An 2 xx ww=(xx=.slice (some ⟨bx,ox,none⟩) n ca):=fun xx ww=>congrFun (congrFun (congrFun BW 2) xx) ww
   have erg3:∀ xx ww,An 3 xx ww=(xx=.slice (some ⟨ba,oa,none⟩) (m+1) cc):=fun xx ww=>congrFun (congrFun (congrFun BW 3) xx) ww
   have erg4:∀ xx ww,An 4 xx ww=(xx=.int .i64 (k:Int)):=fun xx ww=>congrFun (congrFun (congrFun BW 4) xx) ww
   have erg5:∀ xx ww,An 5 xx ww=(xx=.pointer (some ⟨ba,oa+k,none⟩)):=fun xx ww=>congrFun (congrFun (congrFun BW 5) xx) ww
   have erg6:∀ xx ww,An 6 xx ww=(xx=.int .i64 (a:Int)):=fun xx ww=>congrFun (congrFun (congrFun BW 6) xx) ww
   have erg7:∀ xx ww,An 7 xx ww=(xx=.slice (some ⟨ba,oa,none⟩) (m+1) cc):=fun xx ww=>congrFun (congrFun (congrFun BW 7) xx) ww
   have erg8:∀ xx ww,An 8 xx ww=(xx=.int .i64 (k:Int)):=fun xx ww=>congrFun (congrFun (congrFun BW 8) xx) ww
   have erg9:∀ xx ww,An 9 xx ww=(xx=.int .i64 (k+1:Int)):=fun xx ww=>congrFun (congrFun (congrFun BW 9) xx) ww
   have erg10:∀ xx ww,An 10 xx ww=(xx=.pointer (some ⟨ba,oa+(k+1),none⟩)):=fun xx ww=>congrFun (congrFun (congrFun BW 10) xx) ww
   have erg11:∀ xx ww,An 11 xx ww=(xx=.int .i64 (b:Int)):=fun xx ww=>congrFun (congrFun (congrFun BW 11) xx) ww
   have erg12:∀ xx ww,An 12 xx ww=(xx=.slice (some ⟨bx,ox+a,none⟩) (b - a) (ca - a)):=fun xx ww=>congrFun (congrFun (congrFun BW 12) xx) ww
   have erg13:∀ xx ww,An 13 xx ww=((fun x w'=>HeldE (aE .i32) (fun b=>wr.heap.size<=b) w' x (bu xs (a,b))) xx ww):=fun xx ww=>congrFun (congrFun (congrFun BW 13) xx) ww
   have erg14:∀ xx ww,An 14 xx ww=((fun x w'=>HeldE rowE (fun b=>wr.heap.size<=b) w' x [bu xs (a,b)]) xx ww):=fun xx ww=>congrFun (congrFun (congrFun BW 14) xx) ww
   have erg15:∀ xx ww,An 15 xx ww=((fun x w'=>OwnE rowE (fun b=>w2.heap.size<=b) w' w2.heap.size 27 x (CP++[bu xs (a,b)])) xx ww):=fun xx ww=>congrFun (congrFun (congrFun BW 15) xx) ww
   have erg16:∀ xx ww,An 16 xx ww=((fun x w'=>OwnE rowE (fun b=>w2.heap.size<=b) w' w2.heap.size 27 x (CP++[bu xs (a,b)])) xx ww):=fun xx ww=>congrFun (congrFun (congrFun BW 16) xx) ww
   obtain ⟨zM,zU⟩ : ∃ CC:Array Bool->World->Prop,CC=fun L8 w'=>Below w2.heap.size w2 w'/\(Mix.one L8 15=0->OwnE rowE (fun b=>w2.heap.size<=b) w' w2.heap.size 27 ov CP/\Below wr.heap.size wr w')/\wr.heap.size<=w'.heap.size:=⟨_,rfl⟩
   have krg:∀ i L w,i≠15 ->  zM L w->zM (L.setIfInBounds i true) w:=by
    intro i L w q15 h;rw [zU] at h ⊢;simp only [Mix.one_ne q15];exact h
   obtain ⟨Ar,z6⟩ : ∃ XX:Nat->World->World->Prop,XX=fun kk ww1 ww2=>if kk=15 then (fun x y=>Upd (fun b=>ov.ownBlock=some b) x y) ww1 ww2 else (fun x y=>Below x.heap.size x y) ww1 ww2:=⟨_,rfl⟩
   have xrg:∀ {k:Nat} (w:World),Ar k w w:=by
    intro k w;rw [z6];show if k=15 then _ else _
    split
    ·exact Upd.refl _ _
    ·exact Below.refl _ _
   have crg:zM (Array.replicate 17 false) wr.drew:=by rw [zU];exact ⟨z5.out.drew,fun _=>⟨HO.out,(Below.refl _ _).drew⟩,Nat.le_refl _⟩
   have brg:∀ L w w1,zM L w->Below w.heap.size w w1->zM L w1:=by
    intro L w w1 h hb;rw [zU] at h ⊢
    (obtain ⟨q1,q2,q3⟩:=h;exact ⟨q1.trans (hb.mono q1.size),fun e=>⟨(q2 e).1.below hb,(q2 e).2.trans (hb.mono (q2 e).2.size)⟩,Nat.le_trans q3 hb.size⟩)
   have xbrg:∀ {k:Nat} (w w1:World),Below w.heap.size w w1->Ar k w w1:=by
    intro k w w1 hb;rw [z6];show if k=15 then _ else _
    split
    ·exact Upd.ofBelow hb
    ·exact hb
   have Al:=ab brg;have Ab:Hid (∀ {k:Nat} (w w1:World),Below w.heap.size w w1->Ar k w w1):=@xbrg;clear brg xbrg;have Ju:=ab BW;clear BW;have zZ:=ab krg;have Ac:Hid (∀ {k:Nat} (w:World),Ar k w w):=@xrg;have Ao:=ab crg;have zK:=ab zU;have z8:=ab z6;have zR:=ab erg0;have zQ:=ab erg1;have zS:=ab erg2;have zT:=ab erg3;have zY:=ab erg4;have zX:=ab erg5;have zV:=ab erg6;have zP:=ab erg7;have zW:=ab erg8;have z4:=ab erg9;have zO:=ab erg10;have z7:=ab erg11;have Aa:=ab erg12;have z9:=ab erg13;have Af:=ab erg14;have Ae:=ab erg15;have Ai:=ab erg16;clear krg xrg crg zU z6 erg0 erg1 erg2 erg3 erg4 erg5 erg6 erg7 erg8 erg9 erg10 erg11 erg12 erg13 erg14 erg15 erg16
   go_wp2_with fail
   refine RegX.regionF An zM Ar ?_ (by kernel_rfl) (by kernel_rfl) (by kernel_rfl) Ao.out (fun Gk zJ=>?_)
   ·intro ii jj x w w1 Ez hr hx h;rw [z8.out] at hx
    by_cases hi:ii=15
    ·subst hi;simp only [if_pos] at hx
     match jj with
     |0=>rw [zR.out] at h ⊢;exact h
     |1=>rw [zQ.out] at h ⊢;(first | exact (HeldE.upd h hx (fun b hb e=>by have:=(AD.out b e).2;omega)) | (obtain ⟨g9,e9,h9⟩:=h;exact ⟨g9,e9,hx.keep.own h9 (fun b hb e=>by have:=(AD.out _ e).2;have:=(h9.lt _ hb).1;omega)⟩))
     |2=>rw [zS.out] at h ⊢;exact h
     |3=>rw [zT.out] at h ⊢;exact h
     |4=>rw [zY.out] at h ⊢;exact h
     |5=>rw [zX.out] at h ⊢;exact h
     |6=>rw [zV.out] at h ⊢;exact h
     |7=>rw [zP.out] at h ⊢;exact h
     |8=>rw [zW.out] at h ⊢;exact h
     |9=>rw [z4.out] at h ⊢;exact h
     |10=>rw [zO.out] at h ⊢;exact h
     |11=>rw [z7.out] at h ⊢;exact h
     |12=>rw [Aa.out] at h ⊢;exact h
     |13=>rw [z9.out] at h ⊢;(first | exact (HeldE.upd h hx (fun b hb e=>by have:=(AD.out b e).2;omega)) | (obtain ⟨g9,e9,h9⟩:=h;exact ⟨g9,e9,hx.keep.own h9 (fun b hb e=>by have:=(AD.out _ e).2;have:=(h9.lt _ hb).1;omega)⟩))
     |14=>rw [Af.out] at h ⊢;(first | exact (HeldE.upd h hx (fun b hb e=>by have:=(AD.out b e).2;omega)) | (obtain ⟨g9,e9,h9⟩:=h;exact ⟨g9,e9,hx.keep.own h9 (fun b hb e=>by have:=(AD.out _ e).2;have:=(h9.lt _ hb).1;omega)⟩))
     |15=>exact absurd rfl Ez
     |16=>exact absurd (hr.symm.trans (show Reg.reach _ 6 16 15=true from by kernel_rfl)) (by decide)
     |jj+17=>rw [Ju.out];trivial
    ·simp only [if_neg hi] at hx
     match jj with
     |0=>rw [zR.out] at h ⊢;exact h
     |1=>rw [zQ.out] at h ⊢;(first | exact HeldE.below h hx | exact OwnE.below h hx | (obtain ⟨g9,e9,h9⟩:=h;exact ⟨g9,e9,aN h9 hx⟩))
     |2=>rw [zS.out] at h ⊢;exact h
     |3=>rw [zT.out] at h ⊢;exact h
     |4=>rw [zY.out] at h ⊢;exact h
     |5=>rw [zX.out] at h ⊢;exact h
     |6=>rw [zV.out] at h ⊢;exact h
     |7=>rw [zP.out] at h ⊢;exact h
     |8=>rw [zW.out] at h ⊢;exact h
     |9=>rw [z4.out] at h ⊢;exact h
     |10=>rw [zO.out] at h ⊢;exact h
     |11=>rw [z7.out] at h ⊢;exact h
     |12=>rw [Aa.out] at h ⊢;exact h
     |13=>rw [z9.out] at h ⊢;(first | exact HeldE.below h hx | exact OwnE.below h hx | (obtain ⟨g9,e9,h9⟩:=h;exact ⟨g9,e9,aN h9 hx⟩))
     |14=>rw [Af.out] at h ⊢;(first | exact HeldE.below h hx | exact OwnE.below h hx | (obtain ⟨g9,e9,h9⟩:=h;exact ⟨g9,e9,aN h9 hx⟩))
     |15=>rw [Ae.out] at h ⊢;(first | exact HeldE.below h hx | exact OwnE.below h hx | (obtain ⟨g9,e9,h9⟩:=h;exact ⟨g9,e9,aN h9 hx⟩))
     |16=>rw [Ai.out] at h ⊢;(first | exact HeldE.below h hx | exact OwnE.below h hx | (obtain ⟨g9,e9,h9⟩:=h;exact ⟨g9,e9,aN h9 hx⟩))
     |jj+17=>rw [Ju.out];trivial
   simp only [Reg.frame,Reg.dsts,List.map_cons,List.map_nil,Mix.put_lit,List.set_cons_succ,List.set_cons_zero,Nat.zero_add,Nat.reduceAdd] at zJ;refine ⟨?_,?_⟩
   ·refine ⟨?_,?_,?_,?_,?_,?_,?_,?_,?_,?_,?_,?_,?_,?_,?_,?_,?_,trivial⟩
    ·intro Lq wq xq hh;have d16:=hh.old 16 (by kernel_rfl);simp only [zJ,d16];clear d16;refine .inl ⟨rfl,?_⟩;unfold Reg.upon;have hk:=zZ.out 0 Lq wq (by decide)  hh.cls;have hx:Ar 0 wq wq:=Ac.out wq;have he:An 0 (ov) wq:=by rw [zR.out]
     have HK:=ab (And.intro hk (And.intro he hx));clear hk hx he;go_simp;exact HK.out
    ·intro Lq wq xq hh;simp only [zJ];refine .inl ⟨rfl,?_⟩;unfold Reg.upon;go_simp;have hc:zM Lq wq:=hh.cls;rw [zK.out] at hc;have hb1:=zI wq (.cells #[] 21);refine ⟨zZ.out 1 Lq _ (by decide) (Al.out Lq wq _ hh.cls hb1),?_,Ab.out wq _ hb1⟩;rw [zQ.out];exact ⟨_,rfl,World.ownsRow_lit wq #[] 0 hc.2.2 (by decide) rfl⟩
    ·intro Lq wq xq hh;simp only [zJ];refine .inl ⟨rfl,?_⟩;unfold Reg.upon;have hk:=zZ.out 2 Lq wq (by decide)  hh.cls;have hx:Ar 2 wq wq:=Ac.out wq;have he:An 2 (.slice (some ⟨bx,ox,none⟩) n ca) wq:=by rw [zS.out]
     have HK:=ab (And.intro hk (And.intro he hx));clear hk hx he;go_simp;exact HK.out
    ·intro Lq wq xq hh;simp only [zJ];refine .inl ⟨rfl,?_⟩;unfold Reg.upon;have hk:=zZ.out 3 Lq wq (by decide)  hh.cls;have hx:Ar 3 wq wq:=Ac.out wq;have he:An 3 (.slice (some ⟨ba,oa,none⟩) (m+1) cc) wq:=by rw [zT.out]
     have HK:=ab (And.intro hk (And.intro he hx));clear hk hx he;go_simp;exact HK.out
    ·intro Lq wq xq hh;simp only [zJ];refine .inl ⟨rfl,?_⟩;unfold Reg.upon;have hk:=zZ.out 4 Lq wq (by decide)  hh.cls;have hx:Ar 4 wq wq:=Ac.out wq;have he:An 4 (.int .i64 (k:Int)) wq:=by rw [zY.out]
     have HK:=ab (And.intro hk (And.intro he hx));clear hk hx he;go_simp;exact HK.out
    ·intro Lq wq xq hh;have d3:An 3 (xq 3) wq:=hh.val 3 (by kernel_rfl) (by kernel_rfl);rw [zT.out] at d3;have d4:An 4 (xq 4) wq:=hh.val 4 (by kernel_rfl) (by kernel_rfl);rw [zY.out] at d4;simp only [zJ,d3,d4];clear d3 d4;refine .inl ⟨rfl,?_⟩;unfold Reg.upon;have hk:=zZ.out 5 Lq wq (by decide)  hh.cls;have hx:Ar 5 wq wq:=Ac.out wq;have he:An 5 (.pointer (some ⟨ba,oa+k,none⟩)) wq:=by rw [zX.out]
     have HK:=ab (And.intro hk (And.intro he hx));clear hk hx he;go_simp;exact HK.out
    ·intro Lq wq xq hh;have d5:An 5 (xq 5) wq:=hh.val 5 (by kernel_rfl) (by kernel_rfl);rw [zX.out] at d5;simp only [zJ,d5];clear d5;refine .inl ⟨rfl,?_⟩;unfold Reg.upon;have hc:zM Lq wq:=hh.cls;rw [zK.out] at hc;have q1:=((hc.2.1 (Mix.one_un (hh.notYet 15 (by kernel_rfl)))).2.cell (p:=⟨ba,oa+k,none⟩) FP.out).trans KT.out;clear hc;have hk:=zZ.out 6 Lq wq (by decide)  hh.cls;have hx:Ar 6 wq wq:=Ac.out wq;have he:An 6 (.int .i64 (a:Int)) wq:=by rw [zV.out]
     have HK:=ab (And.intro hk (And.intro he hx));clear hk hx he;go_simp;exact HK.out
    ·intro Lq wq xq hh;simp only [zJ];refine .inl ⟨rfl,?_⟩;unfold Reg.upon;have hk:=zZ.out 7 Lq wq (by decide)  hh.cls;have hx:Ar 7 wq wq:=Ac.out wq;have he:An 7 (.slice (some ⟨ba,oa,none⟩) (m+1) cc) wq:=by rw [zP.out]
     have HK:=ab (And.intro hk (And.intro he hx));clear hk hx he;go_simp;exact HK.out
    ·intro Lq wq xq hh;simp only [zJ];refine .inl ⟨rfl,?_⟩;unfold Reg.upon;have hk:=zZ.out 8 Lq wq (by decide)  hh.cls;have hx:Ar 8 wq wq:=Ac.out wq;have he:An 8 (.int .i64 (k:Int)) wq:=by rw [zW.out]
     have HK:=ab (And.intro hk (And.intro he hx));clear hk hx he;go_simp;exact HK.out
    ·intro Lq wq xq hh;have d8:An 8 (xq 8) wq:=hh.val 8 (by kernel_rfl) (by kernel_rfl);rw [zW.out] at d8;simp only [zJ,d8];clear d8;refine .inl ⟨rfl,?_⟩;unfold Reg.upon;go_simp
     try rw [Ki]
     exact ⟨zZ.out 9 Lq wq (by decide) hh.cls,(by rw [z4.out]),Ac.out _⟩
    ·intro Lq wq xq hh;have d7:An 7 (xq 7) wq:=hh.val 7 (by kernel_rfl) (by kernel_rfl);rw [zP.out] at d7;have d9:An 9 (xq 9) wq:=hh.val 9 (by kernel_rfl) (by kernel_rfl);rw [z4.out] at d9;simp only [zJ,d7,d9];clear d7 d9;refine .inl ⟨rfl,?_⟩;unfold Reg.upon;have hk:=zZ.out 10 Lq wq (by decide)  hh.cls;have hx:Ar 10 wq wq:=Ac.out wq;have he:An 10 (.pointer (some ⟨ba,oa+(k+1),none⟩)) wq:=by rw [zO.out]
     have HK:=ab (And.intro hk (And.intro he hx));clear hk hx he;go_simp;exact HK.out
    ·intro Lq wq xq hh;have d10:An 10 (xq 10) wq:=hh.val 10 (by kernel_rfl) (by kernel_rfl);rw [zO.out] at d10;simp only [zJ,d10];clear d10;refine .inl ⟨rfl,?_⟩;unfold Reg.upon;have hc:zM Lq wq:=hh.cls;rw [zK.out] at hc;have q2:=((hc.2.1 (Mix.one_un (hh.notYet 15 (by kernel_rfl)))).2.cell (p:=⟨ba,oa+(k+1),none⟩) FP.out).trans M8.out;clear hc;have hk:=zZ.out 11 Lq wq (by decide)  hh.cls;have hx:Ar 11 wq wq:=Ac.out wq;have he:An 11 (.int .i64 (b:Int)) wq:=by rw [z7.out]
     have HK:=ab (And.intro hk (And.intro he hx));clear hk hx he;go_simp;exact HK.out
    ·intro Lq wq xq hh;have d2:An 2 (xq 2) wq:=hh.val 2 (by kernel_rfl) (by kernel_rfl);rw [zS.out] at d2;have d6:An 6 (xq 6) wq:=hh.val 6 (by kernel_rfl) (by kernel_rfl);rw [zV.out] at d6;have d11:An 11 (xq 11) wq:=hh.val 11 (by kernel_rfl) (by kernel_rfl);rw [z7.out] at d11;simp only [zJ,d2,d6,d11];clear d2 d6 d11;refine .inl ⟨rfl,?_⟩;unfold Reg.upon;have hk:=zZ.out 12 Lq wq (by decide)  hh.cls;have hx:Ar 12 wq wq:=Ac.out wq;have he:An 12 (.slice (some ⟨bx,ox+a,none⟩) (b - a) (ca - a)) wq:=by rw [Aa.out]
     have HK:=ab (And.intro hk (And.intro he hx));clear hk hx he;go_simp;exact HK.out
    ·intro Lq wq xq hh;have d1:An 1 (xq 1) wq:=hh.val 1 (by kernel_rfl) (by kernel_rfl);rw [zQ.out] at d1;have d12:An 12 (xq 12) wq:=hh.val 12 (by kernel_rfl) (by kernel_rfl);rw [Aa.out] at d12;simp only [zJ,d12];clear d12;refine .inl ⟨rfl,?_⟩;unfold Reg.upon;obtain ⟨g9,e9,h9⟩:=d1;have hc:zM Lq wq:=hh.cls;rw [zK.out] at hc;have hw:=Ko.out.trans ((hc.2.1 (Mix.one_un (hh.notYet 15 (by kernel_rfl)))).2.mono Ko.out.size);rw [e9];obtain ⟨v',w',hr,h2,hb1⟩:=sS wq _ 27 g9 h9 _ (bu xs (a,b)) (HSLI.out wq hw) HSLN.out.2 HSLN.out.1 hc.2.2;rw [kX rfl rfl rfl hr];refine ⟨zZ.out 13 Lq _ (by decide) (Al.out Lq wq _ hh.cls hb1),?_,Ab.out wq _ hb1⟩;rw [z9.out];exact (dH (Z:=fun b=>wr.heap.size<=b) h2).held (fun b h _=>h)
    ·intro Lq wq xq hh;have d13:An 13 (xq 13) wq:=hh.val 13 (by kernel_rfl) (by kernel_rfl);rw [z9.out] at d13;simp only [zJ];refine .inl ⟨rfl,?_⟩;unfold Reg.upon;have hc:zM Lq wq:=hh.cls;rw [zK.out] at hc;obtain ⟨a3,c3,e3⟩:=d13.len;have hb:=zI wq (.cells [xq 13].toArray 27);have Ch:HeldE rowE (fun b=>wr.heap.size<=b) (wq.alloc (.cells [xq 13].toArray 27)) (.slice (some ⟨wq.heap.size,0,none⟩) 1 1) [bu xs (a,b)]:=aO (Y:=fun b=>wr.heap.size<=b) [xq 13] _ ⟨_,rfl,d13⟩ (fun b _ h=>h) hc.2.2;rw [e3] at hb Ch ⊢;go_simp;refine ⟨zZ.out 14 Lq _ (by decide) (Al.out Lq wq _ hh.cls hb),?_,Ab.out wq _ hb⟩;rw [Af.out];exact Ch
    ·intro Lq wq xq hh;have d0:An 0 (xq 0) wq:=hh.val 0 (by kernel_rfl) (by kernel_rfl);rw [zR.out] at d0;have d14:An 14 (xq 14) wq:=hh.val 14 (by kernel_rfl) (by kernel_rfl);rw [Af.out] at d14;simp only [zJ,d0];clear d0;refine .inl ⟨rfl,?_⟩;unfold Reg.upon;have hc:zM Lq wq:=hh.cls;rw [zK.out] at hc;have hc4:=hc.2.1 hh.un;obtain ⟨v',w',hr,h1,h2,h3,h4⟩:=i5 (P:=Tryz.prog) (E:=rowE) (Z:=fun b=>w2.heap.size<=b) (w:=wq) (B:=w2.heap.size) (ty:=27) 159 _ (.slice none 0 0) 24 Tryz.underlying159 xM rfl (by decide) hc4.1 (d14.zoned (Y:=fun b=>w2.heap.size<=b/\ov.ownBlock≠some b) (fun b _ hz=>⟨Nat.le_trans Gz.out hz,fun e=>by have:=(AD.out b e).2;omega⟩)) (by simp only [List.length_singleton];have:=MJ.out;omega) (by simp only [List.length_singleton];have:=MJ.out;omega) (Nat.le_trans Gz.out hc.2.2);rw [kX rfl rfl rfl hr];have hu:Upd (fun b=>ov.ownBlock=some b) wq w':=⟨h2.os,h2.tape,h2.output,h3.size,fun b hb hn=>h3.block b hb hn⟩;refine ⟨?_,?_,?_⟩
     ·rw [zK.out];refine ⟨hc.1.trans h2,fun e=>?_,Nat.le_trans hc.2.2 h2.size⟩;rw [Mix.one_set (by rw [hh.size];decide)] at e;exact absurd e (by decide)
     ·rw [Ae.out];exact h1
     ·rw [z8.out];exact hu
    ·intro Lq wq xq hh;have d15:An 15 (xq 15) wq:=hh.val 15 (by kernel_rfl) (by kernel_rfl);rw [Ae.out] at d15;simp only [zJ];refine .inl ⟨rfl,?_⟩;unfold Reg.upon;go_simp;exact ⟨zZ.out 16 Lq wq (by decide) hh.cls,(by rw [Ai.out];exact d15),Ac.out _⟩
   intro xq Dh Ah Av;rw [zK.out] at Ah;simp only [zJ];have vrg16:An 16 (xq 16) Dh:=Av 16 (by decide);rw [Ai.out] at vrg16;clear Av zJ zZ Ac Ju Ao zK z8 Al Ab zR zQ zS zT zY zX zV zP zW z4 zO z7 Aa z9 Af Ae Ai;have HF:=ab (show OwnE rowE (fun b=>w2.heap.size<=b) Dh w2.heap.size 27 (xq 16) ((bj xs).take (k+1)) from by rw [MI.out];exact vrg16);have HB:=ab Ah.1;clear Ah vrg16;go_wp2
   go_roundw
   case rel=>exact ⟨k+1,by omega,by go_num,HF.out,HB.out⟩
   case measure=>simp [intOf] <;> omega
  ·obtain rfl:k=m:=by omega
   have HF:=ab (show rI w (bj xs) (.returned ov) wr from by
    have h:=HO.out;rw [List.take_of_length_le (by rw [Gm.out,<-HM.out];exact Nat.le_refl _)] at h;exact ⟨ov,rfl,(h.base AM.out.size).keep (Y:=fun b=>w.heap.size<=b) (.refl _ _) (fun b _ hz=>Nat.le_trans AM.out.size hz),AM.out.trans (z5.out.mono AM.out.size)⟩)
   go_wp2;go_ret;exact HF.out
def kW(A B:List (Int × Int)):Bool:=A.all fun p=>B.all fun q=>decide (p.2<q.1) || decide (q.2<p.1)
theorem gZ{A B:List (Int × Int)}(h:kW A B=true){r:Int}(ha:aL A r=true):aL B r=false:=by
 cases hb:aL B r with
 |false=>rfl
 |true =>
  obtain ⟨p,hp,h1⟩:=List.any_eq_true.1 ha;obtain ⟨q,hq,h2⟩:=List.any_eq_true.1 hb;have h3:=List.all_eq_true.1 (List.all_eq_true.1 h p hp) q hq
  simp at h1 h2 h3
  omega
theorem sm:kW tControl tPict=true:=by decide +kernel
theorem sn:kW tControl tCons=true:=by decide +kernel
theorem sq:kW tControl tLink=true:=by decide +kernel
theorem sr:kW tControl tJoin=true:=by decide +kernel
theorem iE(r:Int):bi r=0\/9<=bi r:=by
 unfold bi
 repeat' split
 all_goals omega
theorem iF{r:Int}(h:1<=bQ r/\bQ r<=3):aL tPict r=false/\du r=0:=by
 have hc:r=13\/r=10\/aL tControl r=true:=by
  by_cases h1:r=13
  ·exact .inl h1
  by_cases h2:r=10
  ·exact .inr (.inl h2)
  right;right
  cases hi:aL tControl r with
  |true=>rfl
  |false =>
   exfalso;unfold bQ bm at h;rw [if_neg h1,if_neg h2,hi] at h;simp only [Bool.false_eq_true,if_false] at h;have DJ:=iE r
   repeat' split at h
   all_goals omega
 rcases hc with rfl | rfl | hc
 ·exact ⟨by decide +kernel,by decide +kernel⟩
 ·exact ⟨by decide +kernel,by decide +kernel⟩
 ·refine ⟨gZ sm hc,?_⟩;unfold du;rw [gZ sn hc,gZ sq hc,gZ sr hc]
  rfl
theorem jM{xs ys:List Pr}:∀ k,(∀ i,i<k->xs.getD i Pr.none=ys.getD i Pr.none)->cSt xs k=cSt ys k/\pSt xs k=pSt ys k/\oSt xs k=oSt ys k/\lSt xs k=lSt ys k
 |0,_=>⟨rfl,rfl,rfl,rfl⟩
 |k+1,h=>by
  obtain ⟨h1,h2,h3,_⟩:=jM k fun i hi=>h i (by omega)
  have h5:=h k (by omega);simp only [cSt,pSt,oSt,lSt];rw [h1,h2,h3,h5];exact ⟨rfl,rfl,rfl,rfl⟩
theorem uB{xs ys:List Pr}(k:Nat)(h:∀ i,i<k+1->xs.getD i Pr.none=ys.getD i Pr.none):jR xs k=jR ys k:=by
 obtain ⟨h1,h2,h3,h4⟩:=jM k fun i hi=>h i (by omega)
 rw [lq,lq,h1,h2,h3,h4,h k (by omega)]
theorem fW(a b:List Int)(i:Nat)(h:i<a.length):(aq (a++b)).getD i Pr.none=(aq a).getD i Pr.none:=by
 unfold aq;rw [List.map_append]
 simp [List.getD,List.getElem?_append_left (show i<(a.map bh).length by simpa using h)]
theorem oF(a b:List Int)(i:Nat):(aq (a++b)).getD (a.length+i) Pr.none=(aq b).getD i Pr.none:=by
 unfold aq;rw [List.map_append,List.getD,List.getElem?_append_right (by simp)]
 simp [List.getD]
section
theorem gH{r:Int}(h:bL r=true):1<=bQ r/\bQ r<=3:=by
 have hk:∀ n:Fin 160,bL ((n.1:Nat):Int)=true->1<=bQ ((n.1:Nat):Int)/\bQ ((n.1:Nat):Int)<=3:=by decide +kernel
 have hr:0<=r/\r<160:=by
  unfold bL at h
  simp at h
  omega
 have:=hk ⟨r.toNat,by omega⟩;simp only [Int.toNat_of_nonneg hr.1] at this;exact this h
theorem mr(r:Int):bm r≠1/\bm r≠2:=by
 unfold bm
 repeat' split
 all_goals omega
theorem xK{r:Int}(h:bL r=false):bQ r≠1/\bQ r≠2:=by
 have h1:r≠13:=by rintro rfl;exact absurd h (by decide)
 have h2:r≠10:=by rintro rfl;exact absurd h (by decide)
 have hl:=mr r;have hc:=iE r;unfold bQ;rw [if_neg h1,if_neg h2]
 repeat' split
 all_goals omega
theorem sj{a b:Int}(h:1<=a/\a<=3):cl a b=(if a=1/\clI b=2 then 1 else 0):=by
 unfold cl;have ha:clI a=a:=by unfold clI;split <;> omega
 rw [ha];unfold cF
 by_cases e:a=1/\clI b=2
 ·rw [if_pos e,if_pos e]
 ·have hb:brB a=true:=by unfold brB;simp;omega
  rw [if_neg e,if_neg e,if_pos (.inl hb)]
theorem eh(xs:List Int):xs=[]\/∃ ys r,xs=ys++[r]:=by
 rcases List.eq_nil_or_concat xs with h | ⟨ys,r,h⟩
 ·exact .inl h
 ·exact .inr ⟨ys,r,by rw [h,List.concat_eq_append]⟩
theorem cl_two{b:Int}:clI b=2↔b=2:=by unfold clI;split <;> omega
section
variable {α : Type}
theorem kf(T S:List α)(p:Nat × Nat)(h1:p.1<=p.2)(h2:p.2<=T.length):bu (T++S) p=bu T p:=by
 unfold bu;rw [List.drop_append_of_le_length (by omega),List.take_append_of_le_length (by rw [List.length_drop];omega)]
theorem qp(T:List α)(x:α)(a:Nat)(h:a<=T.length):bu (T++[x]) (a,T.length+1)=bu T (a,T.length)++[x]:=by
 unfold bu;rw [List.drop_append_of_le_length h,List.take_of_length_le (by rw [List.length_append,List.length_drop,List.length_singleton];simp only;omega),List.take_of_length_le (by rw [List.length_drop];exact Nat.le_refl _)]
end
def dt(xs:List Int):List (List Int):=(dX (jR (aq xs)) xs.length).map (bu xs)
def aU(xs:List Int):List Int:=bu xs (eK (jR (aq xs)) xs.length,xs.length)
theorem gY{xs:List Int}(h:xs≠[]):bj xs=dt xs++[aU xs]:=by
 have hn:xs.length≠0:=fun e=>h (List.length_eq_zero_iff.1 e)
 unfold bj clS fb dt aU;rw [if_neg hn,List.map_append]
 rfl
def dw(xs:List Int)(r:Int):Bool:=jR (aq (xs++[r])) xs.length
theorem jJ(r:Int):dw [] r=false:=kK _
theorem ms(xs:List Int)(r:Int):dX (jR (aq (xs++[r]))) xs.length=dX (jR (aq xs)) xs.length/\eK (jR (aq (xs++[r]))) xs.length=eK (jR (aq xs)) xs.length :=
 kh _ _ _ fun i hi=>uB i fun k hk=>fW xs [r] k (by omega)
theorem mt(xs:List Int)(r:Int):(dX (jR (aq xs)) xs.length).map (bu (xs++[r]))=dt xs:=by
 unfold dt
 apply List.map_congr_left
 intro p hp;have:=i8 _ _ p hp;exact kf _ _ _ (by omega) (by omega)
theorem fH{xs:List Int}{r:Int}(h:dw xs r=true):dt (xs++[r])=dt xs/\aU (xs++[r])=aU xs++[r]:=by
 obtain ⟨h1,h2⟩:=ms xs r;have hl:(xs++[r]).length=xs.length+1:=by simp
 constructor
 ·rw [<-mt xs r]
  conv=>lhs;unfold dt
  rw [hl,ej,if_pos (.inl h),h1]
 ·conv=>lhs;unfold aU
  rw [hl,ei,if_pos (.inl h),h2,qp _ _ _ (oJ _ _)]
  rfl
theorem eZ{xs:List Int}{r:Int}(h:dw xs r=false):dt (xs++[r])=bj xs/\aU (xs++[r])=[r]:=by
 obtain ⟨h1,h2⟩:=ms xs r;have hl:(xs++[r]).length=xs.length+1:=by simp
 have hj:¬ jR (aq (xs++[r])) xs.length=true:=by
  have h:jR (aq (xs++[r])) xs.length=false:=h;rw [h];decide
 by_cases h0:xs=[]
 ·subst h0;exact ⟨rfl,rfl⟩
 ·have hn:xs.length≠0:=fun e=>h0 (List.length_eq_zero_iff.1 e)
  have hno:¬ (jR (aq (xs++[r])) xs.length=true\/xs.length=0):=fun e=>e.elim hj hn
  constructor
  ·conv=>lhs;unfold dt
   rw [hl,ej,if_neg hno,List.map_append,h1,mt,h2,gY h0]
   congr 1
   show [bu (xs++[r]) (eK (jR (aq xs)) xs.length,xs.length)]=[aU xs];rw [kf _ _ _ (oJ _ _) (Nat.le_refl _)]
   rfl
  ·conv=>lhs;unfold aU
   rw [hl,ei,if_neg hno];unfold bu
   simp
theorem rH(xs:List Int)(r:Int):xs++[r]≠[]:=by simp
def bT(xs:List Int):Bool:=match xs.getLast? with | none=>false | some r=>!bL r
theorem cI(xs:List Int)(r:Int):bT (xs++[r]) = !bL r:=by unfold bT;rw [List.getLast?_concat]
def oC(xs:List Int):Bool:=bT xs
def oD(xs:List Int):Int:=if bT xs=true then lSt (aq xs) xs.length else 0
def kD(xs:List Int):Int:=if bT xs=true then cSt (aq xs) xs.length else 0
def kE(xs:List Int):Int:=if bT xs=true then pSt (aq xs) xs.length else 0
def lZ(xs:List Int):Bool:=if bT xs=true then oSt (aq xs) xs.length else false
theorem iY(xs:List Int)(r:Int):cSt (aq (xs++[r])) xs.length=cSt (aq xs) xs.length/\pSt (aq (xs++[r])) xs.length=pSt (aq xs) xs.length/\oSt (aq (xs++[r])) xs.length=oSt (aq xs) xs.length/\lSt (aq (xs++[r])) xs.length=lSt (aq xs) xs.length :=
 jM xs.length fun i hi=>fW xs [r] i hi
theorem eU(xs:List Int)(r:Int):(aq (xs++[r])).getD xs.length Pr.none=bh r:=by
 have:=oF xs [r] 0;rw [Nat.add_zero] at this;rw [this]
 rfl
theorem iZ(xs:List Int)(r:Int):cSt (aq (xs++[r])) (xs++[r]).length=dg (cSt (aq xs) xs.length) (du r)/\pSt (aq (xs++[r])) (xs++[r]).length=eu (pSt (aq xs) xs.length) (bQ r) (aL tPict r)/\oSt (aq (xs++[r])) (xs++[r]).length=(bQ r == 6 && !oSt (aq xs) xs.length)/\lSt (aq (xs++[r])) (xs++[r]).length=bQ r:=by
 obtain ⟨h1,h2,h3,h4⟩:=iY xs r;have hl:(xs++[r]).length=xs.length+1:=by simp
 rw [hl];simp only [cSt,pSt,oSt,lSt];rw [h1,h2,h3,eU];exact ⟨rfl,rfl,rfl,rfl⟩
theorem mu{xs:List Int}(h:bT xs=false):cSt (aq xs) xs.length=0/\pSt (aq xs) xs.length=0/\oSt (aq xs) xs.length=false:=by
 rcases eh xs with rfl | ⟨ys,r,rfl⟩
 ·exact ⟨rfl,rfl,rfl⟩
 ·rw [cI] at h;have hs:bL r=true:=by simpa using h
  have hc:=gH hs;obtain ⟨p1,p2⟩:=iF hc;obtain ⟨h1,h2,h3,_⟩:=iZ ys r;rw [h1,h2,h3,p1,p2];refine ⟨by unfold dg;simp,?_,?_⟩
  ·unfold eu;generalize pSt (aq ys) ys.length=s;rw [if_neg (by decide)]
   by_cases e:s≠1
   ·rw [if_pos e]
   ·rw [if_neg e,if_neg (by omega),if_neg (by omega)]
  ·have:(bQ r == 6)=false:=by simp;omega
   rw [this];rfl
theorem kJ(xs:List Int):kD xs=cSt (aq xs) xs.length/\kE xs=pSt (aq xs) xs.length/\lZ xs=oSt (aq xs) xs.length:=by
 unfold kD kE lZ
 cases h:bT xs with
 |true=>exact ⟨rfl,rfl,rfl⟩
 |false =>
  obtain ⟨h1,h2,h3⟩:=mu h;rw [h1,h2,h3];exact ⟨rfl,rfl,rfl⟩
theorem jK{xs:List Int}{r:Int}(hr:bL r=false)(ho:bT xs=false):dw xs r=false:=by
 rcases eh xs with rfl | ⟨ys,q,rfl⟩
 ·exact jJ r
 ·have hq:bL q=true:=by rw [cI] at ho;simpa using ho
  obtain ⟨h1,h2,h3⟩:=mu ho;obtain ⟨k1,k2,k3,k4⟩:=iY (ys++[q]) r;unfold dw;rw [lq,k1,k2,k3,k4,h1,h2,h3,eU,(iZ ys q).2.2.2];have hj:cl (bQ q) (bQ r)≠1:=by
   rw [sj (gH hq)];have:=(xK hr).2;rw [if_neg (fun e=>this (cl_two.1 e.2))]
   decide
  unfold cz bh
  simp [hj]
theorem sl{xs:List Int}{r:Int}(hr:bL r=false):cz (oC xs) (oD xs) (kD xs) (kE xs) (lZ xs) (bQ r) (aL tPict r) (du r)=dw xs r:=by
 cases ho:bT xs with
 |false =>
  rw [jK hr ho];unfold cz oC;rw [ho,if_pos rfl]
 |true =>
  have hn:0<xs.length:=by
   cases xs with
   | nil=>cases ho
   | cons=>simp
  obtain ⟨k1,k2,k3,k4⟩:=iY xs r;obtain ⟨v1,v2,v3⟩:=kJ xs;unfold dw;rw [lq,k1,k2,k3,k4,eU,v1,v2,v3,decide_eq_true hn];unfold oC oD;rw [ho,if_pos rfl]
  rfl
theorem uA{xs:List Int}{r:Int}(hr:bL r=false):oC (xs++[r])=true/\oD (xs++[r])=bQ r/\kD (xs++[r])=dg (kD xs) (du r)/\kE (xs++[r])=eu (kE xs) (bQ r) (aL tPict r)/\lZ (xs++[r])=(bQ r == 6 && !lZ xs):=by
 have ho:bT (xs++[r])=true:=by rw [cI,hr];rfl
 obtain ⟨h1,h2,h3,h4⟩:=iZ xs r;obtain ⟨v1,v2,v3⟩:=kJ xs;obtain ⟨u1,u2,u3⟩:=kJ (xs++[r]);refine ⟨ho,?_,?_,?_,?_⟩
 ·unfold oD;rw [if_pos ho,h4]
 ·rw [u1,h1,v1]
 ·rw [u2,h2,v2]
 ·rw [u3,h3,v3]
theorem xL{xs:List Int}{r:Int}(hr:bL r=true):oC (xs++[r])=false/\oD (xs++[r])=0/\kD (xs++[r])=0/\kE (xs++[r])=0/\lZ (xs++[r])=false:=by
 have ho:bT (xs++[r])=false:=by rw [cI,hr];rfl
 unfold oC oD kD kE lZ;rw [ho];exact ⟨rfl,rfl,rfl,rfl,rfl⟩
theorem yM(xs:List Int):0<=kD xs/\kD xs<=255/\0<=kE xs/\kE xs<=255:=by
 obtain ⟨v1,v2,_⟩:=kJ xs;have h1:=uQ (aq xs) xs.length;have h2:=uR (aq xs) xs.length;rw [v1,v2];omega
theorem jL:∀ (n:Nat) (xs:List Int),xs.length=n->bT xs=true->bL ((aU xs).getD 0 0)=false/\aU xs≠[]:=by
 intro n
 induction n with
 |zero =>
  intro xs hn ho;rw [List.length_eq_zero_iff.1 hn] at ho
  cases ho
 |succ n ih =>
  intro xs hn ho
  rcases eh xs with rfl | ⟨ys,r,rfl⟩
  ·cases ho
  ·have hr:bL r=false:=by rw [cI] at ho;simpa using ho
   cases hj:dw ys r with
   |false =>
    rw [(eZ hj).2];exact ⟨hr,by simp⟩
   |true =>
    have hy:bT ys=true:=by
     cases h:bT ys with
     | true=>rfl
     | false=>rw [jK hr h] at hj;cases hj
    obtain ⟨h1,h2⟩:=ih ys (by simp at hn;exact hn) hy;rw [(fH hj).2];refine ⟨?_,by simp⟩;obtain ⟨a,t,e⟩:=List.exists_cons_of_ne_nil h2;rw [e] at h1 ⊢;exact h1
theorem oE{xs:List Int}{r:Int}(hr:bL r=true)(hj:dw xs r=true):aU xs=[13]/\bT xs=false/\xs≠[]:=by
 rcases eh xs with rfl | ⟨ys,q,rfl⟩
 ·rw [jJ] at hj;cases hj
 ·obtain ⟨k1,k2,k3,k4⟩:=iY (ys++[q]) r;obtain ⟨p1,p2⟩:=iF (gH hr);have hc:=gH hr;have hj0:=hj;unfold dw at hj;rw [lq,k1,k2,k3,k4,eU,(iZ ys q).2.2.2] at hj;have h1:cl (bQ q) (bQ r)=1:=by
   unfold cz bh at hj;have h6:(bQ r == 6)=false:=by simp;omega
   simp only [p1,p2,h6] at hj
   by_cases e:cl (bQ q) (bQ r)=1
   ·exact e
   ·simp [e] at hj
  have hq:bQ q=1:=by
   unfold cl cF at h1;have hr3:clI (bQ r)=bQ r:=by unfold clI;split <;> omega
   have hb:brB (clI (bQ r))=true:=by rw [hr3];unfold brB;simp;omega
   by_cases e:clI (bQ q)=1/\clI (bQ r)=2
   ·have:=e.1;unfold clI at this;split at this <;> omega
   ·rw [if_neg e,if_pos (.inr hb)] at h1
    cases h1
  have hq13:q=13:=by
   by_cases e:q=13
   ·exact e
   ·exfalso;have hl:=mr q;have DJ:=iE q;unfold bQ at hq;rw [if_neg e] at hq
    repeat' split at hq
    all_goals omega
  subst hq13;have hs:bL 13=true:=by decide
  refine ⟨?_,by rw [cI,hs];rfl,rH _ _⟩;have hn:dw ys 13=false:=by
   cases hjy:dw ys 13 with
   |false=>rfl
   |true =>
    exfalso
    rcases eh ys with rfl | ⟨zs,q2,rfl⟩
    ·rw [jJ] at hjy;cases hjy
    ·obtain ⟨k1,k2,k3,k4⟩:=iY (zs++[q2]) 13;obtain ⟨p1,p2⟩:=iF (gH hs);unfold dw at hjy;rw [lq,k1,k2,k3,k4,eU,(iZ zs q2).2.2.2] at hjy;have h1:cl (bQ q2) (bQ 13)=1:=by
      unfold cz bh at hjy;have h6:(bQ 13 == 6)=false:=by decide
      simp only [p1,p2,h6] at hjy
      by_cases e:cl (bQ q2) (bQ 13)=1
      ·exact e
      ·simp [e] at hjy
     have Es:bQ 13=1:=rfl;rw [Es] at h1;unfold cl cF at h1;have e1:clI 1=1:=by decide
     rw [e1] at h1;rw [if_neg (fun e=>absurd e.2 (by decide)),if_pos (.inr (by decide))] at h1
     cases h1
  exact (eZ hn).2
end
def zeroL:List Int:=[1,2,3,4,5,10,11]
theorem zF(w:World)(br:Int)(b:Bool)(cv ea:Int):∃ W,W=(w.alloc (.cells #[.int .i64 br,.bool b,.int .i64 cv,.int .i64 ea] 33)).alloc (.cells #[.int .i64 1,.int .i64 2,.int .i64 3,.int .i64 4,.int .i64 5,.int .i64 10,.int .i64 11] 3) /\
  Has W w.heap.size [.int .i64 br,.bool b,.int .i64 cv,.int .i64 ea] 33/\Has W (w.heap.size+1) (zeroL.map (Value.int .i64)) 3/\Below w.heap.size w W:=by
 refine ⟨_,rfl,(Has.new w _ _).alloc _,?_,(zI _ _).alloc (by simp) _⟩;have:=Has.new (w.alloc (.cells #[.int .i64 br,.bool b,.int .i64 cv,.int .i64 ea] 33)) (zeroL.map (Value.int .i64)) 3;rw [World.size_alloc] at this;exact this
theorem pT(br:Int):(br=1\/br=2\/br=3\/br=4\/br=5\/br=10\/br=11)↔∃ j,j<7/\br=zeroL.getD j 0:=by
 constructor
 ·rintro (h | h | h | h | h | h | h)
  ·exact ⟨0,by decide,h⟩
  ·exact ⟨1,by decide,h⟩
  ·exact ⟨2,by decide,h⟩
  ·exact ⟨3,by decide,h⟩
  ·exact ⟨4,by decide,h⟩
  ·exact ⟨5,by decide,h⟩
  ·exact ⟨6,by decide,h⟩
 ·rintro ⟨j,hj,h⟩
  match j,hj with
  | 0,_=>exact .inl h
  | 1,_=>exact .inr (.inl h)
  | 2,_=>exact .inr (.inr (.inl h))
  | 3,_=>exact .inr (.inr (.inr (.inl h)))
  | 4,_=>exact .inr (.inr (.inr (.inr (.inl h))))
  | 5,_=>exact .inr (.inr (.inr (.inr (.inr (.inl h)))))
  | 6,_=>exact .inr (.inr (.inr (.inr (.inr (.inr h)))))
theorem wO{br ea:Int}{j:Nat}(hj:j<7)(h:br=zeroL.getD j 0):bA br ea=0:=by
 unfold bA;rw [if_pos ((pT br).2 ⟨j,hj,h⟩)]
theorem tW{br ea:Int}(h:∀ j,j<7->br≠zeroL.getD j 0):(ea=1/\bA br ea=2)\/((ea == 1)=false/\ea=2/\bA br ea=2)\/((ea == 1)=false/\(ea == 2)=false/\bA br ea=1):=by
 have hn:¬ (br=1\/br=2\/br=3\/br=4\/br=5\/br=10\/br=11):=fun e=>by
  obtain ⟨j,hj,hh⟩:=(pT br).1 e;exact h j hj hh
 unfold bA;rw [if_neg hn]
 by_cases e1:ea=1
 ·exact .inl ⟨e1,by simp [e1]⟩
 by_cases e2:ea=2
 ·exact .inr (.inl ⟨by simpa using e1,e2,by simp [e2]⟩)
 ·exact .inr (.inr ⟨by simpa using e1,by simpa using e2,by simp [e1,e2]⟩)
theorem wP(br:Int)(b:Bool)(cv ea:Int)(w:World):Calls Tryz.prog 140 #[.agg #[.int .i64 br,.bool b,.int .i64 cv,.int .i64 ea]] w (Gives w (.int .i64 (bA br ea))):=by
 go_enter Tryz.func140,Tryz.ntmps140
 go_wp2;obtain ⟨W,hW,hp,hz,hl⟩:=zF w br b cv ea;rw [<-hW];have p0:=hp.cell 0 _ rfl;have p3:=hp.cell 3 _ rfl;have HP:=ab hp;have HZ:=ab hz;have hlz:=hz.lt;clear hp hz hW
 go_loopw [4] (fun i wr=>∃ k:Nat,k<=7/\i=.int .i64 k/\Hid (∀ j,j<k->br≠zeroL.getD j 0)/\Below W.heap.size W wr) (fun i _=>7 - (intOf i).toNat)
 case atStart=>exact ⟨0,Nat.zero_le _,rfl,ab (fun j hj=>by omega),Below.refl _ _⟩
 case round =>
  obtain ⟨k,hk,rfl,HN,zN⟩:=hrel;have p0:=(zN.cell (p:=⟨w.heap.size,0,none⟩) HP.out.lt).trans p0;have p3:=(zN.cell (p:=⟨w.heap.size,3,none⟩) HP.out.lt).trans p3
  by_cases hlt:k<7
  ·have hz:=(zN.cell (p:=⟨w.heap.size+1,k,none⟩) HZ.out.lt).trans (HZ.out.cell k (.int .i64 (zeroL.getD k 0)) (by
    have hk7:k<zeroL.length:=hlt
    simp [List.getElem?_eq_getElem hk7]))
   by_cases he:br=zeroL.getD k 0
   ·have HV:=ab (wO (ea:=ea) hlt he);rw [<-he] at hz;clear he HN;go_wp2
    go_quiet (fail)
    have Ax:=hl.trans ((zN.drewN nq).mono hl.size);go_wp2;go_ret;exact ⟨al (by rw [HV.out];rfl),Ax⟩
   ·have FG:=ab (show ∀ j,j<k+1->br≠zeroL.getD j 0 from fun j hj=>by
     by_cases h:j=k
     ·subst h;exact he
     ·exact HN.out j (by omega))
    have he':(br == zeroL.getD k 0)=false:=by simpa using he
    generalize zeroL.getD k 0=z at hz he he';go_wp2
    go_quiet (fail)
    have zN:=zN.drewN nq;go_wp2
    go_roundw
    case rel=>exact ⟨k+1,by omega,by go_num,FG,zN⟩
    case measure=>simp [intOf] <;> omega
  ·have hm:=tW (br:=br) (ea:=ea) (fun j hj=>HN.out j (by omega));have Ax:=hl.trans (zN.mono hl.size);clear HN
   rcases hm with ⟨rfl,hs⟩ | ⟨h1,rfl,hs⟩ | ⟨h1,h2,hs⟩
   all_goals
    have HS:=ab hs;clear hs;go_wp2;go_ret;exact ⟨al (by rw [HS.out];rfl),Ax⟩
def gE(ps:List Pr):Nat->Bool
 | 0=>false
 | k+1=>(ps.getD k Pr.none).pc
def ee(xs:List Int)(ps:List Pr)(i:Nat):Bool:=dz (decide (0<i)) (gE ps i) (xs.getD i 0) (ps.getD i Pr.none).br (ps.getD i Pr.none).pc (ps.getD i Pr.none).ea
def iS(xs:List Int)(ps:List Pr):Nat->Bool
 | 0=>false
 | k+1=>iS xs ps k || ee xs ps k
def j7(xs:List Int)(ps:List Pr)(n:Nat):Int:=if iS xs ps n=true then 2 else 1
theorem tU{xs:List Int}{ps:List Pr}{k n:Nat}(h:k<=n)(ha:iS xs ps k=true):iS xs ps n=true:=by
 induction n with
 |zero =>
  obtain rfl:k=0:=by omega
  exact ha
 |succ n ih =>
  by_cases e:k=n+1
  ·subst e;exact ha
  ·show (iS xs ps n || ee xs ps n)=true;rw [ih (by omega)];rfl
theorem wM{xs:List Int}{ps:List Pr}{k n:Nat}(h:k<n)(hc:ee xs ps k=true):j7 xs ps n=2:=by
 unfold j7;rw [if_pos (tU (k:=k+1) (by omega) (by show (iS xs ps k || ee xs ps k)=true;rw [hc];simp))]
theorem tV(xs:List Int)(ps:List Pr):ee xs ps 0=(bA (ps.getD 0 Pr.none).br (ps.getD 0 Pr.none).ea == 2):=by
 unfold ee dz gE
 simp
theorem ro(r br:Int)(pic pc:Bool)(ea:Int):((bA br ea == 2)=true/\dz true pic r br pc ea=true)\/((bA br ea == 2)=false/\(r == 65039)=true/\pic=true/\dz true pic r br pc ea=true)
  \/ ((bA br ea == 2)=false/\((r == 65039)=true/\pic=false\/(r == 65039)=false)/\pc=true/\dz true pic r br pc ea=true)\/((bA br ea == 2)=false/\((r == 65039)=true/\pic=false\/(r == 65039)=false)/\pc=false/\(br == 6)=true/\dz true pic r br pc ea=true)
  \/ ((bA br ea == 2)=false/\((r == 65039)=true/\pic=false\/(r == 65039)=false)/\pc=false/\(br == 6)=false/\dz true pic r br pc ea=false):=by
 unfold dz
 cases h1:(bA br ea == 2) <;> cases h2:(r == 65039) <;> cases pic <;> cases h3:(br == 6) <;> cases pc <;> simp
theorem wN(v u:Value)(xs:List Int)(ps:List Pr)(w:World)(hx:Held .i32 w v xs)(hp:HeldP w u ps)(hl:ps.length=xs.length)(hn:xs.length<=1000000) :
  Calls Tryz.prog 76 #[v,u] w (Gives w (.int .i64 (j7 xs ps xs.length))):=by
 obtain ⟨ao,ca,rfl,hc⟩:=hx.view;obtain ⟨bo,cb,rfl,_⟩:=id hp;obtain ⟨_,hd⟩:=hp.at;have HC:=ab hc;have HD:=ab hd;rw [hl] at *;clear hc hd hx hp
 go_enter Tryz.func76,Tryz.ntmps76
 go_wp2
 go_loopw [5] (fun i wr=>∃ k:Nat,k<=xs.length/\i=.int .i64 k/\Hid (iS xs ps k=false)/\Below w.heap.size w wr) (fun i _=>xs.length - (intOf i).toNat)
 case atStart=>exact ⟨0,Nat.zero_le _,rfl,ab rfl,Below.refl _ _⟩
 case round =>
  obtain ⟨k,hk,rfl,HN,zN⟩:=hrel
  by_cases hlt:k<xs.length
  ·obtain ⟨b1,o1,rfl,hb1,AX⟩:=HC.out k hlt;obtain ⟨b2,o2,rfl,hb2,d0,d1,d2,d3⟩:=HD.out k hlt;have hstep:iS xs ps (k+1)=ee xs ps k:=by show (iS xs ps k || ee xs ps k)=_;rw [HN.out];rfl
   have DO:ee xs ps k=true->j7 xs ps xs.length=2:=wM hlt;have HR:=ab (fun w=>wP (ps.getD k Pr.none).br (ps.getD k Pr.none).pc (ps.getD k Pr.none).cv (ps.getD k Pr.none).ea w)
   cases k with
   |zero =>
    rw [tV] at hstep DO;simp only [Nat.zero_mul,Nat.add_zero] at d0 d1 d2 d3 AX;obtain ⟨q,hq⟩:=ae (ps.getD 0 Pr.none);rw [<-hq] at d0 d1 d2 d3 hstep DO HR;clear hq AX;generalize bA q.br q.ea=x at *;have d0:=(zN.cell (p:=⟨b2,o2,none⟩) hb2).trans d0;have d1:=(zN.cell (p:=⟨b2,o2+1,none⟩) hb2).trans d1;have d2:=(zN.cell (p:=⟨b2,o2+2,none⟩) hb2).trans d2;have d3:=(zN.cell (p:=⟨b2,o2+3,none⟩) hb2).trans d3
    cases Bj:(x == 2) with
    |true =>
     have HV:=ab (DO Bj);clear hstep DO HN
     go_wp2_with fail
     refine (HR.out _).mono ?_;rintro e w2 ⟨rfl,bb⟩;have Ax:=zN.trans (bb.mono zN.size);clear d0 d1 d2 d3;go_wp2;go_ret;exact ⟨al (by rw [HV.out];rfl),Ax⟩
    |false =>
     rw [Bj] at hstep;have FG:=ab hstep;clear hstep DO HN
     go_wp2_with fail
     refine (HR.out _).mono ?_;rintro e w2 ⟨rfl,bb⟩;have Ax:=zN.trans (bb.mono zN.size);clear d0 d1 d2 d3;go_wp2
     go_roundw
     case rel=>exact ⟨1,by omega,by go_num,FG,Ax⟩
     case measure=>simp [intOf] <;> omega
   |succ m =>
    obtain ⟨b3,o3,e3,hb3,_,p1,_,_⟩:=HD.out m (by omega)
    cases e3
    have hcond:ee xs ps (m+1)=dz true (ps.getD m Pr.none).pc (xs.getD (m+1) 0) (ps.getD (m+1) Pr.none).br (ps.getD (m+1) Pr.none).pc (ps.getD (m+1) Pr.none).ea:=by
     unfold ee gE;rw [decide_eq_true (show 0<m+1 by omega)]
    rw [hcond] at hstep DO;have hcs:=ro (xs.getD (m+1) 0) (ps.getD (m+1) Pr.none).br (ps.getD m Pr.none).pc (ps.getD (m+1) Pr.none).pc (ps.getD (m+1) Pr.none).ea;obtain ⟨q,hq⟩:=ae (ps.getD (m+1) Pr.none);rw [<-hq] at d0 d1 d2 d3 hstep DO HR hcs;obtain ⟨pic,hpic⟩:=ae ((ps.getD m Pr.none).pc);rw [<-hpic] at p1 hstep DO hcs;obtain ⟨r,hr⟩:=ae (xs.getD (m+1) 0);rw [<-hr] at AX hstep DO hcs;obtain ⟨br,pc,cv,ea⟩:=q;simp only at d0 d1 d2 d3 hstep DO HR hcs;clear hcond hq hpic hr HN;have HF:=ab (show ∀ w2,Below w.heap.size w w2->w2.cell? ⟨b1,o1+(m+1),none⟩=some (.int .i32 r)/\w2.cell? ⟨b2,o2+m * 4+1,none⟩=some (.bool pic)/\w2.cell? ⟨b2,o2+(m+1) * 4,none⟩=some (.int .i64 br)/\w2.cell? ⟨b2,o2+(m+1) * 4+1,none⟩=some (.bool pc)/\w2.cell? ⟨b2,o2+(m+1) * 4+2,none⟩=some (.int .i64 cv)/\w2.cell? ⟨b2,o2+(m+1) * 4+3,none⟩=some (.int .i64 ea) from fun w2 h =>
     ⟨(h.cell (p:=⟨b1,o1+(m+1),none⟩) hb1).trans AX,(h.cell (p:=⟨b2,o2+m * 4+1,none⟩) hb2).trans p1,(h.cell (p:=⟨b2,o2+(m+1) * 4,none⟩) hb2).trans d0,(h.cell (p:=⟨b2,o2+(m+1) * 4+1,none⟩) hb2).trans d1,(h.cell (p:=⟨b2,o2+(m+1) * 4+2,none⟩) hb2).trans d2,(h.cell (p:=⟨b2,o2+(m+1) * 4+3,none⟩) hb2).trans d3⟩)
    generalize bA br ea=x at *;clear AX p1 d0 d1 d2 d3;have hw0:(m:Int)+1 - 1=(m:Int):=by omega
    have HST:=ab hstep;have O5:=ab DO;clear hstep DO
    rcases hcs with ⟨h1,hs⟩ | ⟨h1,h2,rfl,hs⟩ | ⟨h1,⟨h2,rfl⟩ | h2,rfl,hs⟩ | ⟨h1,⟨h2,rfl⟩ | h2,rfl,h4,hs⟩ | ⟨h1,⟨h2,rfl⟩ | h2,rfl,h4,hs⟩
    all_goals
     have HS:=ab hs;clear hs;obtain ⟨c0,c1,c2,c3,c4,c5⟩:=HF.out wr zN
     go_wp2_with fail
     refine (HR.out _).mono ?_;rintro e w2 ⟨rfl,bb⟩;have Ax:=zN.trans (bb.mono zN.size);clear c0 c1 c2 c3 c4 c5;obtain ⟨c0,c1,c2,c3,c4,c5⟩:=HF.out w2 Ax;go_wp2
    all_goals first
     |(go_ret;exact ⟨al (by rw [O5.out HS.out];rfl),Ax⟩)
     |(go_roundw
       case rel=>exact ⟨m+2,by omega,by go_num,ab (HST.out.trans HS.out),Ax⟩
       case measure=>simp [intOf] <;> omega)
  ·obtain rfl:k=xs.length:=by omega
   have HV:=ab (show j7 xs ps xs.length=1 by unfold j7;rw [HN.out];rfl);clear HN;go_wp2;go_ret;exact ⟨al (by rw [HV.out];rfl),zN⟩
theorem tX(v:Value)(xs:List Int)(w:World)(hx:Held .i32 w v xs)(hn:xs.length<=1000000)(hr:∀ i,i<xs.length -> -2147483648<=xs.getD i 0/\xs.getD i 0<=2147483647) :
  Calls Tryz.prog 161 #[v] w (Gives w (.int .i64 (j7 xs (aq xs) xs.length))):=by
 obtain ⟨ao,ca,rfl,hc⟩:=hx.view;have HC:=ab hc;have HX:=ab hx;have HR:=ab hr;clear hc hx hr
 go_enter Tryz.func161,Tryz.ntmps161
 go_wp2
 go_loopw [3,4] (fun p i wr=>∃ k:Nat,k<=xs.length/\i=.int .i64 k/\wr.ownsRow w.heap.size 33 4 p k (bV ((aq xs).take k))/\Below w.heap.size w wr) (fun _ i _=>xs.length - (intOf i).toNat)
 case atStart=>exact ⟨0,Nat.zero_le _,rfl,World.ownsRow_nil _ _ _ _,Below.refl _ _⟩
 case round =>
  obtain ⟨k,hk,rfl,hown,zN⟩:=hrel
  by_cases hlt:k<xs.length
  ·obtain ⟨b,off,rfl,hb,AX⟩:=HC.out k hlt;have AX:=(zN.cell (p:=⟨b,off+k,none⟩) hb).trans AX;obtain ⟨r0,r1⟩:=HR.out k hlt;have CT:=oV (aq xs) k (by rw [cS];exact hlt);rw [mz hlt] at CT;obtain ⟨r,hr⟩:=ae (xs.getD k 0);rw [<-hr] at AX r0 r1 CT;have Gf:=ab CT;have HOW:=ab hown;clear hr CT hown
   go_wp2_with fail
   refine (lg r _ r0 r1).mono ?_;rintro e w1 ⟨rfl,b1⟩;have hown1:=aN HOW.out b1;have hb1:=zN.trans (b1.mono zN.size);rw [show gJ r=.agg #[.int .i64 (bQ r),.bool (aL tPict r),.int .i64 (du r),.int .i64 (eL r)] from rfl];clear AX
   go_wp2_with (at_builtin;refine fe w1 rfl (.tmp 11) (.tmp 17) 28 rfl w.heap.size 33 (.agg #[.int .i64 0,.bool false,.int .i64 0,.int .i64 0]) 4 32 Tryz.underlying28 mA rfl (by decide) u3 k (bV ((aq xs).take k)) rfl hown1 [.int .i64 (bQ r),.bool (aL tPict r),.int .i64 (du r),.int .i64 (eL r)] 1 1 rfl rfl (by intro u hu;simp at hu;rcases hu with rfl | rfl | rfl | rfl <;> rfl) (by omega) (by omega) hb1.size ?_)
   intro v' w' hown' hb';have hown2:w'.ownsRow w.heap.size 33 4 v' (k+1) (bV ((aq xs).take (k+1))):=by rw [Gf.out];exact hown'
   have Mj:=hb1.trans hb';clear hown1 hown';go_wp2
   go_roundw
   case rel=>exact ⟨k+1,by omega,by go_num,hown2,Mj⟩
   case measure=>simp [intOf] <;> omega
  ·obtain rfl:k=xs.length:=by omega
   rw [List.take_of_length_le (by rw [cS];exact Nat.le_refl _)] at hown;have hp:=ix hown;obtain ⟨po,pc,rfl,_⟩:=id hp;have HP:=ab hp;clear hp hown
   go_wp2_with fail
   refine (wN _ _ xs (aq xs) _ (HX.out.below zN) HP.out (cS xs) hn).mono ?_;rintro e w2 ⟨rfl,b2⟩;have Ax:=zN.trans (b2.mono zN.size);go_wp2;go_ret;exact ⟨af,Ax⟩
theorem kC{P:Program}{ρ:Operand->Value}{o:Oper}{s x:Operand}{t:TypeId}{w w':World}{v u v':Value}(ho:o.op=.call { callee:=.builtin .append,args:=#[s,x],argTypes:=#[t,t] })(hs:ρ s=v)(hx:ρ x=u)
  (hr:(Builtin.append_ #[t,t] o.type #[v,u]).run P w=.ok v' w'):(execOp ρ o).run P w=.ok (.value v') w':=by
 unfold execOp;simp only [ho,resolve,invoke,builtin,Sem.run_bind,Sem.run_pure,Result.andThen_ok,List.map_toArray,List.map_cons,List.map_nil,hs,hx,hr]
def wdC(T:List Int):Int:=if bL (T.getD 0 0)=true then 0 else j7 (T.take 16) (aq (T.take 16)) (T.take 16).length
theorem yn(xs:List Int)(ps:List Pr)(n:Nat):j7 xs ps n=1\/j7 xs ps n=2:=by unfold j7;split <;> simp
theorem yZ(T:List Int):(bL (T.getD 0 0)=true/\wdC T=0)\/(bL (T.getD 0 0)=false/\1<=wdC T/\wdC T<=2):=by
 unfold wdC
 cases h:bL (T.getD 0 0) with
 |true=>exact .inl ⟨rfl,by simp⟩
 |false =>
  right
  refine ⟨rfl,?_⟩;rw [if_neg (by simp)]
  rcases yn (T.take 16) (aq (T.take 16)) (T.take 16).length with h | h <;> omega
theorem iW(Z:an)(v:Value)(xs:List Int)(w:World)(hv:HeldE (aE .i32) Z w v xs)(hZ:∀ b,Z b->b<w.heap.size)(h0:0<xs.length)(hl:xs.length<=1000000):Calls Tryz.prog 92 #[v] w (iI 21 .i32 w (xs.take 16)):=by
 obtain ⟨ao,ca,rfl,Bi,hmx,_⟩:=id hv;obtain ⟨b,off,rfl,hb,_⟩:=hv.ints.spots 0 h0;obtain ⟨K,hK⟩:=ae (min xs.length 16);have HP:=ab (show HeldE (aE .i32) Z w (.slice (some ⟨b,off,none⟩) K ca) (xs.take K) from by
  have hp:=hv.part 0 K (Nat.zero_le _) (by omega) (some ⟨b,off,none⟩) ca (fun h=>by cases h) (fun b' o' h _=>by cases h;simp) (fun _ _=>by simp) (by omega) hmx
  simpa using hp)
 have HT:=ab (show xs.take K=xs.take 16 from by
  rw [hK]
  by_cases h:xs.length<=16
  ·rw [Nat.min_eq_left h,List.take_of_length_le (Nat.le_refl _),List.take_of_length_le h]
  ·rw [Nat.min_eq_right (by omega)])
 have M7:=ab (show (xs.take K).length=K from by rw [List.length_take];omega);obtain ⟨n,hn⟩:=ae (xs.length);rw [<-hn] at Bi hK h0 hl ⊢;have hmin:min (n:Int) 16=(K:Int):=by omega
 have MQ:K<=ca:=by omega
 have hKi:(K:Int)<=(ca:Int):=by omega
 have hK16:K<=16:=by omega
 have HZ:=ab hZ;obtain ⟨XK,IE⟩:=ae (xs.take K);rw [<-IE] at HP HT M7;have hb1:=zI w (.cells #[] 21);have AA:OwnE (aE .i32) (fun _=>True) (w.alloc (.cells #[] 21)) w.heap.size 21 (.slice (some ⟨w.heap.size,0,none⟩) 0 0) []:=OwnE.empty (World.ownsRow_lit w #[] 0 (Nat.le_refl _) (by decide) rfl);have A4:=ab AA;have Mz:=ab (show HeldE (aE .i32) (fun b9=>True/\(Value.slice (some ⟨w.heap.size,0,none⟩) 0 0).ownBlock≠some b9) (w.alloc (.cells #[] 21)) _ XK from (HP.out.below hb1).zone (fun b9 _ h=>⟨trivial,fun e=>by have h9:=(A4.out.lt _ e).1;have:=HZ.out b9 h;omega⟩));have Ag:=ab hb1;clear hv hn hK IE hZ hb1 AA hmx hb
 go_enter Tryz.func92,Tryz.ntmps92
 go_wp2_with (at_builtin;refine aw (E:=aE .i32) (Z:=fun _=>True) rfl (.tmp 3) (.tmp 8) 27 rfl (.int .i32 0) 4 Tryz.underlying27 fw rfl (by decide) rfl rfl A4.out Mz.out (by rw [M7.out];simp only [List.length_nil];omega) (by rw [M7.out];simp only [List.length_nil];omega) Ag.out.size ?_)
 intro v2 w2 Ap b2 _ _
 try rw [List.nil_append] at Ap
 have HR:=ab (show iI 21 .i32 w (xs.take 16) (.returned v2) w2 from by rw [<-HT.out];exact ⟨v2,rfl,Ap.ints,Ag.out.trans b2⟩);clear Ap b2;go_wp2;go_ret;exact HR.out
theorem qf(Z:an)(v:Value)(T:List Int)(w:World)(hv:HeldE (aE .i32) Z w v T)(hZ:∀ b,Z b->b<w.heap.size)(h0:0<T.length)(hl:T.length<=1000000)(hr:bI T):Calls Tryz.prog 97 #[v] w (Gives w (.int .i64 (wdC T))):=by
 obtain ⟨ao,ca,rfl⟩:=hv.len;obtain ⟨b,off,rfl,_,c0⟩:=hv.ints.spots 0 h0;rw [Nat.add_zero] at c0;have HF:=ab (fun w' (h:Below w.heap.size w w')=>iW Z _ T w' (hv.below h) (fun b hb=>Nat.lt_of_lt_of_le (hZ b hb) h.size) h0 hl);have HS:=ab (ek (T.getD 0 0));have FA:=yZ T;have HW:=ab (show bL (T.getD 0 0)=false->j7 (T.take 16) (aq (T.take 16)) (T.take 16).length=wdC T from fun h=>by unfold wdC;rw [if_neg (by rw [h];decide)]);have HT:=ab (show (T.take 16).length<=1000000 by rw [List.length_take];omega);have HR:=ab (show bI (T.take 16) from fun i hi=>by
  rw [List.length_take] at hi;have:=hr i (by omega);rw [show (T.take 16).getD i 0=T.getD i 0 from by simp [List.getD,List.getElem?_take,show i<16 by omega]];exact this)
 obtain ⟨x,hx⟩:=ae (T.getD 0 0);rw [<-hx] at c0 HS FA HW;obtain ⟨n,hn⟩:=ae (T.length);rw [<-hn] at HF h0 hl ⊢;obtain ⟨F,hF⟩:=ae (T.take 16);rw [<-hF] at HF HW HT HR;obtain ⟨W,hW⟩:=ae (wdC T);rw [<-hW] at FA HW ⊢;clear hv hx hn hF hW hZ hr
 rcases FA with ⟨hs,hw0⟩ | ⟨hs,Ce,hw2⟩
 ·have HZ:=ab hw0;rw [hs] at HS;clear hs hw0
  go_enter Tryz.func97,Tryz.ntmps97
  go_wp2_with fail
  refine (HS.out w).mono ?_;rintro e w1 ⟨rfl,b1⟩;have HB:=ab b1;clear b1;go_wp2;go_ret;exact ⟨al (by rw [HZ.out];try rfl),HB.out⟩
 ·have HE:=ab (HW.out hs);rw [hs] at HS;clear hs Ce hw2
  go_enter Tryz.func97,Tryz.ntmps97
  go_wp2_with fail
  refine (HS.out w).mono ?_;rintro e w1 ⟨rfl,b1⟩;have HB:=ab b1;clear b1 c0
  go_wp2_with fail
  refine (HF.out w1 HB.out).mono ?_;rintro e w2 ⟨v2,rfl,Ap,b2⟩;have hc:=tX v2 F w2 (dO Ap) HT.out HR.out;rw [HE.out] at hc;have AM:=ab (HB.out.trans (b2.mono HB.out.size));clear Ap b2
  go_wp2_with fail
  refine hc.mono ?_;rintro e w3 ⟨rfl,b3⟩;have BC:=ab (AM.out.trans (b3.mono AM.out.size));clear b3 hc;go_wp2;go_ret;exact ⟨af,BC.out⟩
end Go.Proofs.YtoeggiplcaegoaaGreatDoor
