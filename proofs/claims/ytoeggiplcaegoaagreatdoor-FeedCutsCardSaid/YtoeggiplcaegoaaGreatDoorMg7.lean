import Derived.Test.YtoeggiplcaegoaaGreatDoorZ0
import Derived.Test.YtoeggiplcaegoaaGreatDoorMg6
import Derived.Test.YtoeggiplcaegoaaGreatDoorMg5
import Derived.Test.YtoeggiplcaegoaaGreatDoorMg1
import Derived.Test.YtoeggiplcaegoaaGreatDoorRowQ
import Derived.Lib.MinMax
import Derived.Deep.Cut
import Derived.Test.YtoeggiplcaegoaaGreatDoorRowR
import Derived.Test.YtoeggiplcaegoaaGreatDoorCellP
import Derived.Test.YtoeggiplcaegoaaGreatDoorMg4
import Derived.Lib.AppendZeros
set_option maxRecDepth 100000
set_option linter.unusedVariables false
set_option linter.unusedSimpArgs false
set_option maxHeartbeats 6000000
namespace Go.Proofs.YtoeggiplcaegoaaGreatDoor
open Go.RowKit Go.ChangeShapes Go.WideShapes
section
variable {Yo : an}
abbrev Ln:=List Cl × Bool
abbrev zl:Ln:=([],false)
def lineE:Elem Ln:=prE Ac Ax
theorem line_rep{Z:an}{w:World}{C:List Value}{x:Ln}:lineE.rep Z w C x↔∃ v,C=[v,.bool x.2]/\HeldE cellE Z w v x.1:=by
 constructor
 ·rintro ⟨C1,C2,rfl,⟨v,rfl,h⟩,rfl⟩;exact ⟨v,rfl,h⟩
 ·rintro ⟨v,rfl,h⟩;exact ⟨[v],[_],rfl,⟨v,rfl,h⟩,rfl⟩
theorem fo{Z:an}{w:World}{ao:Option Addr}{n cap:Nat}{L:List Ln}(h:HeldE lineE Z w (.slice ao n cap) L):n=L.length/\n<=cap/\∀ i,i<L.length->∃ b off v,ao=some ⟨b,off,none⟩/\b<w.heap.size/\Z b /\
  w.cell? ⟨b,off+i * 2,none⟩=some v/\w.cell? ⟨b,off+i * 2+1,none⟩=some (.bool (L.getD i zl).2)/\HeldE cellE Z w v (L.getD i zl).1:=by
 obtain ⟨h1,h2,h3⟩:=h.spots;refine ⟨h1,h2,fun i hi=>?_⟩;obtain ⟨b,off,rfl,hb,hz,C,hC,hr⟩:=h3 i hi;obtain ⟨v,rfl,ht⟩:=line_rep.1 hr;exact ⟨b,off,v,rfl,hb,hz,hC 0 (by decide),hC 1 (by decide),ht⟩
theorem bS:(Tryz.prog.info? 104).map (fun i=>(i.zero,i.size,i.bytes))=some (some (.agg #[.slice none 0 0,.bool false]),lineE.size,32):=by kernel_rfl
def cM(x:Option Nat):Value:=.pointer (x.map fun g=>⟨g,0,none⟩)
def ptrE:Elem (Option Nat) where
 size:=1
 zero:=none
 rep:=fun _ _ C x=>C=[cM x]
 len:=by rintro _ _ _ _ rfl;rfl
 one:=by
  rintro _ _ _ _ rfl u hu
  simp at hu
  subst hu;rfl
 keep:=fun _ _ h=>h
theorem fZ:(Tryz.prog.info? 113).map (fun i=>(i.zero,i.size,i.bytes))=some (some (.pointer none),ptrE.size,8):=by kernel_rfl
theorem lX:∀ xs:List (Option Nat),(xs.map fun x=>[cM x]).flatten=xs.map cM
 | []=>rfl
 | x :: xs=>by rw [List.map_cons,List.flatten_cons,lX xs];rfl
theorem cS{Z:an}{w:World}{B n:Nat}{ty:TypeId}{v:Value}{xs:List (Option Nat)}(h:w.ownsRow B ty 1 v n (xs.map cM)):OwnE ptrE Z w B ty v xs:=by
 have hn:xs.length=n:=by have:=h.1;simpa using this
 subst hn;refine ⟨xs.map fun x=>[cM x],?_,by simp,fun i hi=>?_⟩
 ·rw [lX];exact h
 ·show _=_
  simp [List.getD,List.getElem?_eq_getElem hi]
theorem OwnE.ptrs{Z:an}{w:World}{B:Nat}{ty:TypeId}{v:Value}{xs:List (Option Nat)}(h:OwnE ptrE Z w B ty v xs):w.ownsRow B ty 1 v xs.length (xs.map cM):=by
 obtain ⟨CS,h1,h2,h3⟩:=h;have e:CS.flatten=xs.map cM:=by
  apply List.ext_getElem?
  intro i;have Fb:∀ C ∈ CS,C.length=1:=fR h2 h3
  by_cases hi:i<xs.length
  ·have:=gm Fb i 0 (by omega) (by omega);rw [Nat.mul_one,Nat.add_zero] at this;rw [this,show CS.getD i []=[cM (xs.getD i none)] from h3 i hi]
   simp [List.getD,List.getElem?_eq_getElem hi]
  ·rw [List.getElem?_eq_none (by rw [ew Fb];omega),List.getElem?_eq_none (by simp;omega)]
 rw [<-e];exact h1
theorem OwnE.zoneP{Z Y:an}{w:World}{B:Nat}{ty:TypeId}{v:Value}{xs:List (Option Nat)}(h:OwnE ptrE Z w B ty v xs):OwnE ptrE Y w B ty v xs:=cS h.ptrs
theorem sJ{Z:an}{w:World}{B g n cap:Nat}{ty:TypeId}{xs:List (Option Nat)}(h:OwnE ptrE Z w B ty (.slice (some ⟨g,0,none⟩) n cap) xs):n=xs.length:=by
 rcases h.ptrs.2 with ⟨e,_⟩ | ⟨g',cap',cur,e,_⟩
 ·cases e
 ·simp only [Value.slice.injEq] at e;exact e.2.1
theorem jy{Z:an}{w:World}{B g n cap:Nat}{ty:TypeId}{xs:List (Option Nat)}(h:OwnE ptrE Z w B ty (.slice (some ⟨g,0,none⟩) n cap) xs)(i:Nat)(hi:i<xs.length):w.cell? ⟨g,i,none⟩=some (cM (xs.getD i none))/\w.frozen? ⟨g,i,none⟩=false:=by
 have hr:=h.ptrs;obtain rfl:=sJ h;refine ⟨?_,hr.frozenAt i⟩;rw [hr.cellAt i (by omega)]
 simp [List.getD,List.getElem?_eq_getElem hi]
theorem oR{Z:an}{w:World}{B g n cap:Nat}{ty:TypeId}{xs:List (Option Nat)}(h:OwnE ptrE Z w B ty (.slice (some ⟨g,0,none⟩) n cap) xs)(i:Nat)(_:i<xs.length)(x:Option Nat):OwnE ptrE Z (w.setCell ⟨g,i,none⟩ (cM x)) B ty (.slice (some ⟨g,0,none⟩) n cap) (xs.set i x):=by
 have hr:=h.ptrs;obtain rfl:=sJ h;have hst:=(hr.stored i (cM x)).1;rw [<-List.map_set] at hst;exact cS hst
structure Rw where
 g:Nat
 gc:Nat
 L:List Cl
 wrap:Bool
def r0:Rw:=⟨0,0,[],false⟩
def aO(r:Rw):Ln:=(r.L,r.wrap)
def ptrs(Rs:List Rw):List (Option Nat):=Rs.map fun r=>some r.g
theorem bn(Rs:List Rw):(ptrs Rs).length=Rs.length:=by simp [ptrs]
theorem gD(Rs:List Rw)(i:Nat)(h:i<Rs.length):(ptrs Rs).getD i none=some (Rs.getD i r0).g:=by simp [ptrs,List.getD,List.getElem?_eq_getElem h]
theorem RowAt.tight{Z:an}{w:World}{B g gc:Nat}{L:List Cl}{wrap:Bool}(h:RowAt Z w B g gc L wrap):RowAt (fun b=>Z b/\b<w.heap.size/\b≠g/\b≠gc) w B g gc L wrap:=by
 obtain ⟨cap,h1,h2,h3,⟨CS,k1,k2,k3⟩,h5⟩:=h;exact ⟨cap,h1,h2,h3,⟨CS,k1,k2,fun i hi=>cellE.keep (.refl _ _) (fun b hb hz=>⟨⟨⟨hz.1.1,hb,hz.1.2,fun e=>hz.2 (by subst e;rfl)⟩,hz.1.2⟩,hz.2⟩) (k3 i hi)⟩,h5⟩
theorem RowAt.types{Z:an}{w:World}{B g gc:Nat}{L:List Cl}{wrap:Bool}(h:RowAt Z w B g gc L wrap):(∃ C,w.heap[g]? = some (.cells C 187 (0,0)))/\∃ C,w.heap[gc]? = some (.cells C 147 (0,0)):=by
 obtain ⟨cap,h1,h2,h3,⟨CS,⟨_,k1⟩,k2,k3⟩,h5,_⟩:=h;refine ⟨⟨_,h1⟩,?_⟩
 rcases k1 with ⟨e,_⟩ | ⟨g',cap',cur,e,_,hg,_⟩
 ·cases e
 ·simp only [Value.slice.injEq,Option.some.injEq,Addr.mk.injEq] at e;obtain ⟨⟨rfl,_⟩,_⟩:=e;exact ⟨cur,hg⟩
structure RowsAt (Z:an) (w:World) (B:Nat) (Rs:List Rw):Prop where
 row:∀ i,i<Rs.length->RowAt Z w B (Rs.getD i r0).g (Rs.getD i r0).gc (Rs.getD i r0).L (Rs.getD i r0).wrap
 out:∀ i,i<Rs.length->¬ Z (Rs.getD i r0).g/\¬ Z (Rs.getD i r0).gc
 apart:∀ i j,i<Rs.length->j<Rs.length->i≠j->(Rs.getD i r0).g≠(Rs.getD j r0).g/\(Rs.getD i r0).gc≠(Rs.getD j r0).gc
section
variable {Z Y S : an} {w w' : World} {B : Nat} {Rs : List Rw}
theorem RowsAt.nil(Z:an)(w:World)(B:Nat):RowsAt Z w B []:=⟨fun i hi=>absurd hi (Nat.not_lt_zero _),fun i hi=>absurd hi (Nat.not_lt_zero _),fun i j hi=>absurd hi (Nat.not_lt_zero _)⟩
theorem RowsAt.cross(h:RowsAt Z w B Rs)(i j:Nat)(hi:i<Rs.length)(hj:j<Rs.length):(Rs.getD i r0).g≠(Rs.getD j r0).gc:=by
 intro e;obtain ⟨⟨C,h1⟩,_⟩:=(h.row i hi).types;obtain ⟨_,D,h2⟩:=(h.row j hj).types;rw [e,h2] at h1;simp only [Option.some.injEq,Obj.cells.injEq] at h1;exact absurd h1.2.1 (by decide)
theorem RowsAt.upd(h:RowsAt Z w B Rs)(hu:Upd S w w')(hz:∀ b,Z b->¬ S b)(hs:∀ i,i<Rs.length->¬ S (Rs.getD i r0).g/\¬ S (Rs.getD i r0).gc):RowsAt Z w' B Rs :=
 ⟨fun i hi=>(h.row i hi).upd hu hz (hs i hi).1 (hs i hi).2,h.out,h.apart⟩
theorem RowsAt.below(h:RowsAt Z w B Rs)(hb:Below w.heap.size w w'):RowsAt Z w' B Rs:=⟨fun i hi=>(h.row i hi).below hb,h.out,h.apart⟩
theorem RowsAt.lt(h:RowsAt Z w B Rs):∀ i,i<Rs.length->(Rs.getD i r0).g<w.heap.size/\(Rs.getD i r0).gc<w.heap.size/\B<=(Rs.getD i r0).gc/\B<=(Rs.getD i r0).g:=fun i hi=>(h.row i hi).lt
theorem RowsAt.snoc(h:RowsAt Z w B Rs)(hz:∀ b,Z b->b<w.heap.size){g gc B':Nat}{L:List Cl}{wrap:Bool}(hB:B<=B')(hB':w.heap.size<=B')(hr:RowAt (fun b=>w.heap.size<=b) w' B' g gc L wrap)(hb:Below w.heap.size w w') :
  RowsAt (fun b=>Z b\/(w.heap.size<=b/\b<w'.heap.size/\b≠g/\b≠gc)) w' B (Rs++[⟨g,gc,L,wrap⟩]):=by
 have hlt:=hr.lt;have hat:∀ i,i<(Rs++[(⟨g,gc,L,wrap⟩ : Rw)]).length->(i<Rs.length/\(Rs++[(⟨g,gc,L,wrap⟩ : Rw)]).getD i r0=Rs.getD i r0)\/(i=Rs.length/\(Rs++[(⟨g,gc,L,wrap⟩ : Rw)]).getD i r0=⟨g,gc,L,wrap⟩):=fun i hi=>by
  rw [bU];rw [List.length_append,List.length_singleton] at hi
  by_cases e:i<Rs.length
  ·exact .inl ⟨e,if_pos e⟩
  ·have:i=Rs.length:=by omega
   subst this;exact .inr ⟨rfl,by rw [if_neg e,Nat.sub_self];rfl⟩
 refine ⟨fun i hi=>?_,fun i hi=>?_,fun i j hi hj Nl=>?_⟩
 ·rcases hat i hi with ⟨hl,e⟩ | ⟨_,e⟩
  ·rw [e];exact ((h.row i hl).below hb).keep (.refl _ _) fun b _ hz=>.inl hz
  ·rw [e];exact (hr.tight.base hB).keep (.refl _ _) fun b _ hz=>.inr hz
 ·rcases hat i hi with ⟨hl,e⟩ | ⟨_,e⟩
  ·rw [e];have:=h.lt i hl;have:=h.out i hl;exact ⟨fun hz=>by rcases hz with hz | hz;exact this.1 hz;omega,fun hz=>by rcases hz with hz | hz;exact this.2 hz;omega⟩
  ·rw [e];exact ⟨fun hzz=>by rcases hzz with hzz | hzz;have:=hz _ hzz;simp only at this;omega;exact hzz.2.2.1 rfl,fun hzz=>by rcases hzz with hzz | hzz;have:=hz _ hzz;simp only at this;omega;exact hzz.2.2.2 rfl⟩
 ·rcases hat i hi with ⟨hl,e⟩ | ⟨hl,e⟩ <;> rcases hat j hj with ⟨hl',e'⟩ | ⟨hl',e'⟩ <;> rw [e,e']
  ·exact h.apart i j hl hl' Nl
  ·have:=h.lt i hl;exact ⟨by simp only;omega,by simp only;omega⟩
  ·have:=h.lt j hl';exact ⟨by simp only;omega,by simp only;omega⟩
  ·omega
end
def GridY(Yo:an)(w:World)(B gg gr wd:Nat)(Rs:List Rw):Prop :=
 ∃ (Z:an) (cap:Nat),(∀ b,Z b->B<=b/\b<w.heap.size)/\Has w gg [.int .i64 wd,.slice (some ⟨gr,0,none⟩) Rs.length cap] 119/\B<=gg/\OwnE ptrE (fun _=>True) w B 113 (.slice (some ⟨gr,0,none⟩) Rs.length cap) (ptrs Rs)/\¬ Z gg/\¬ Z gr/\RowsAt Z w B Rs/\(∀ i,i<Rs.length->(Rs.getD i r0).L.length=wd)/\0<Rs.length/\Rs.length<=1024/\∀ b,(Z b\/w.heap.size<=b)->Yo b
abbrev lY(w:World)(B gg gr wd:Nat)(Rs:List Rw):Prop:=GridY (fun _=>True) w B gg gr wd Rs
section
variable {S : an} {w w' : World} {B gg gr wd : Nat} {Rs : List Rw}
theorem GridY.lt(h:GridY Yo w B gg gr wd Rs):B<=gg/\gg<w.heap.size/\B<=gr/\gr<w.heap.size/\gg≠gr/\∀ i,i<Rs.length->(Rs.getD i r0).g<w.heap.size/\(Rs.getD i r0).gc<w.heap.size/\B<=(Rs.getD i r0).gc/\B<=(Rs.getD i r0).g:=by
 obtain ⟨Z,cap,h1,h2,h3,h4,h5,h6,h7,h8⟩:=h;refine ⟨h3,h2.lt,(h4.lt gr rfl).1,(h4.lt gr rfl).2,fun e=>?_,h7.lt⟩;obtain ⟨_,k⟩:=h4.ptrs
 rcases k with ⟨e',_⟩ | ⟨g',cap',cur,e',_,hg,_⟩
 ·cases e'
 ·simp only [Value.slice.injEq,Option.some.injEq,Addr.mk.injEq] at e';obtain ⟨⟨rfl,_⟩,_⟩:=e';rw [<-e] at hg;unfold Has at h2;rw [h2] at hg;simp only [Option.some.injEq,Obj.cells.injEq] at hg;exact absurd hg.2.1 (by decide)
theorem GridY.keep(h:GridY Yo w B gg gr wd Rs)(hu:Upd S w w')(hs:∀ b,B<=b->b<w.heap.size->¬ S b):GridY Yo w' B gg gr wd Rs:=by
 have hlt:=h.lt;obtain ⟨Z,cap,h1,h2,h3,h4,h5,h6,h7,h8,h9,h10,hY⟩:=h;have hk:=hu.keep;refine ⟨Z,cap,fun b hb=>⟨(h1 b hb).1,Nat.lt_of_lt_of_le (h1 b hb).2 hu.size⟩,hk.has h2 (hs _ hlt.1 hlt.2.1),h3,?_,h5,h6,h7.upd hu (fun b hz=>hs b (h1 b hz).1 (h1 b hz).2) (fun i hi=>⟨hs _ (hlt.2.2.2.2.2 i hi).2.2.2 (hlt.2.2.2.2.2 i hi).1,hs _ (hlt.2.2.2.2.2 i hi).2.2.1 (hlt.2.2.2.2.2 i hi).2.1⟩),h8,h9,h10,fun b hb=>hY b (hb.imp id (Nat.le_trans hu.size))⟩;exact cS (hk.own h4.ptrs fun b hb=>by
  have:gr=b:=by simpa [Value.ownBlock] using hb
  subst this;exact hs _ hlt.2.2.1 hlt.2.2.2.1)
theorem GridY.below(h:GridY Yo w B gg gr wd Rs)(hb:Below w.heap.size w w'):GridY Yo w' B gg gr wd Rs:=h.keep (S:=fun b=>w.heap.size<=b) (.ofBelow hb) fun b _ h1 h2=>by omega
theorem GridY.row(h:GridY Yo w B gg gr wd Rs){i:Nat}(hi:i<Rs.length):RowAt (fun _=>True) w B (Rs.getD i r0).g (Rs.getD i r0).gc (Rs.getD i r0).L (Rs.getD i r0).wrap:=by
 obtain ⟨Z,cap,h1,h2,h3,h4,h5,h6,h7,h8⟩:=h;exact (h7.row i hi).keep (.refl _ _) fun _ _ _=>trivial
theorem GridY.sizes(h:GridY Yo w B gg gr wd Rs):0<Rs.length/\Rs.length<=1024/\0<wd/\wd<=1024/\∀ i,i<Rs.length->(Rs.getD i r0).L.length=wd:=by
 obtain ⟨Z,cap,h1,h2,h3,h4,h5,h6,h7,h8,h9,h10⟩:=h;obtain ⟨k1,k2,_⟩:=(h7.row 0 h9).len;rw [h8 0 h9] at k1 k2;exact ⟨h9,h10.1,k1,k2,h8⟩
theorem GridY.any(h:GridY Yo w B gg gr wd Rs):lY w B gg gr wd Rs:=by
 obtain ⟨Z,cap,h1,h2,h3,h4,h5,h6,h7,h8,h9,h10,hY⟩:=h;exact ⟨Z,cap,h1,h2,h3,h4,h5,h6,h7,h8,h9,h10,fun _ _=>trivial⟩
theorem GridY.new(h:GridY Yo w B gg gr wd Rs)(o:Obj):GridY (fun b=>b≠w.heap.size) (w.alloc o) B gg gr wd Rs:=by
 have hb:=AU w o;have hlt:=h.lt;obtain ⟨Z,cap,h1,h2,h3,h4,h5,h6,h7,h8,h9,h10,hY⟩:=h.below hb;obtain ⟨Z',cap',k1,k2,k3,k4,k5,k6,k7,k8,k9,k10,kY⟩:=h;have hs:(w.alloc o).heap.size=w.heap.size+1:=by simp
 refine ⟨Z',cap',fun b hz=>⟨(k1 b hz).1,by have:=(k1 b hz).2;omega⟩,k2.below hb k2.lt,k3,k4.below hb,k5,k6,k7.below hb,k8,k9,k10,fun b hz=>?_⟩
 rcases hz with hz | hz
 ·have:=(k1 b hz).2;omega
 ·omega
theorem GridY.cells(h:GridY Yo w B gg gr wd Rs):∃ cap,w.cell? ⟨gg,0,none⟩=some (.int .i64 wd)/\w.cell? ⟨gg,1,none⟩=some (.slice (some ⟨gr,0,none⟩) Rs.length cap)/\Rs.length<=cap/\∀ i,i<Rs.length->w.cell? ⟨gr,i,none⟩=some (.pointer (some ⟨(Rs.getD i r0).g,0,none⟩)):=by
 obtain ⟨Z,cap,h1,h2,h3,h4,h5,h6,h7,h8,h9,h10⟩:=h;refine ⟨cap,h2.cell 0 _ rfl,h2.cell 1 _ rfl,?_,fun i hi=>?_⟩
 ·obtain ⟨_,k⟩:=h4.ptrs
  rcases k with ⟨e,_⟩ | ⟨g',cap',cur,e,_,_,hn,_⟩
  ·cases e
  ·simp only [Value.slice.injEq] at e;obtain ⟨_,_,rfl⟩:=e;rw [bn] at hn;exact hn
 ·have:=(jy h4 i (by rw [bn];exact hi)).1;rw [gD Rs i hi] at this;exact this
end
theorem ng(n:Int)(w:World):Calls Tryz.prog 154 #[.int .i64 n] w fun e w'=>e=.returned (.int .i64 (df n))/\w=w':=by
 have HE:=ab (show min (max n 1) 1024=(df n:Int) by unfold df;omega)
 go_enter Tryz.func154,Tryz.ntmps154
 go_wp2;go_ret;exact ⟨al (by rw [<-HE.out];try rfl),rfl⟩
theorem eZ(B gg gr wd:Nat)(Rs:List Rw)(w:World)(h:GridY Yo w B gg gr wd Rs):Calls Tryz.prog 106 #[.pointer (some ⟨gg,0,none⟩)] w fun e w'=>e=.returned (.int .i64 wd)/\w=w':=by
 obtain ⟨cap,c0,c1,_⟩:=h.cells;clear h
 go_enter Tryz.func106,Tryz.ntmps106
 go_wp2;go_ret;exact ⟨af,rfl⟩
theorem di(B gg gr wd:Nat)(Rs:List Rw)(w:World)(h:GridY Yo w B gg gr wd Rs):Calls Tryz.prog 95 #[.pointer (some ⟨gg,0,none⟩)] w fun e w'=>e=.returned (.int .i64 Rs.length)/\w=w':=by
 obtain ⟨cap,c0,c1,_⟩:=h.cells;clear h
 go_enter Tryz.func95,Tryz.ntmps95
 go_wp2;go_ret;exact ⟨af,rfl⟩
theorem it(B gg gr wd:Nat)(Rs:List Rw)(i:Nat)(w:World)(h:GridY Yo w B gg gr wd Rs)(hi:i<Rs.length):Calls Tryz.prog 62 #[.pointer (some ⟨gg,0,none⟩),.int .i64 i] w fun e w'=>e=.returned (.pointer (some ⟨(Rs.getD i r0).g,0,none⟩))/\w=w':=by
 obtain ⟨cap,c0,c1,Cd,hc⟩:=h.cells;have cr:=hc i hi;obtain ⟨p,hp⟩:=ae ((Rs.getD i r0).g);rw [<-hp] at cr ⊢;have HH:=ab (di B gg gr wd Rs w h);have hsz:=h.sizes;obtain ⟨n,hn⟩:=ae (Rs.length);rw [<-hn] at c1 HH Cd hi hsz;have Ff:decide ((i:Int)<0)=false:=ai (by omega);have Gh:decide ((n:Int)<=i)=false:=ai (by omega);have Jl:decide (n<=i)=false:=ai (by omega);have QK:n<=1024:=hsz.2.1;clear h hc hn hp hsz
 go_enter Tryz.func62,Tryz.ntmps62
 go_wp2_with fail
 refine HH.out.mono ?_;rintro e w1 ⟨rfl,rfl⟩;go_wp2;go_ret;exact ⟨af,rfl⟩
theorem xA(B gg gr wd:Nat)(Rs:List Rw)(i:Int)(w:World)(h:GridY Yo w B gg gr wd Rs)(hi:i<0\/(Rs.length:Int)<=i):Calls Tryz.prog 62 #[.pointer (some ⟨gg,0,none⟩),.int .i64 i] w fun e w'=>e=.returned (.pointer none)/\w=w':=by
 have HH:=ab (di B gg gr wd Rs w h);obtain ⟨n,hn⟩:=ae (Rs.length);rw [<-hn] at HH hi;clear h hn
 by_cases h0:i<0
 ·have Ff:decide (i<0)=true:=by rw [decide_eq_true_eq];exact h0
  clear h0 hi
  go_enter Tryz.func62,Tryz.ntmps62
  go_wp2;go_ret;exact ⟨af,rfl⟩
 ·have Ff:decide (i<0)=false:=by rw [decide_eq_false_iff_not];exact h0
  have Gh:decide ((n:Int)<=i)=true:=ah (by omega);clear h0 hi
  go_enter Tryz.func62,Tryz.ntmps62
  go_wp2_with fail
  refine HH.out.mono ?_;rintro e w1 ⟨rfl,rfl⟩;go_wp2;go_ret;exact ⟨af,rfl⟩
end
def fE{α:Type}(f:Nat->α)(z:α)(n k:Nat):List α:=(List.range n).map fun i=>if i<k then f i else z
theorem fY{α:Type}(f:Nat->α)(z:α)(n k:Nat):(fE f z n k).length=n:=by simp [fE]
theorem uA{α:Type}(f:Nat->α)(z:α)(n:Nat):fE f z n 0=List.replicate n z:=by
 apply List.ext_getElem?
 intro i
 by_cases h:i<n
 ·simp [fE,List.getElem?_replicate,h]
 ·rw [List.getElem?_eq_none (by rw [fY];omega),List.getElem?_eq_none (by simp;omega)]
theorem xy{α:Type}(f:Nat->α)(z:α)(n k:Nat)(h:k<n):(fE f z n k).set k (f k)=fE f z n (k+1):=by
 apply List.ext_getElem?
 intro i
 by_cases hi:i<n
 ·by_cases e:i=k
  ·subst e;rw [List.getElem?_set_self (by rw [fY];exact hi)]
   simp [fE,hi]
  ·rw [List.getElem?_set_ne (Ne.symm e)]
   simp [fE,hi]
   by_cases h2:i<k
   ·rw [if_pos h2,if_pos (by omega)]
   ·rw [if_neg h2,if_neg (by omega)]
 ·rw [List.getElem?_eq_none (by rw [List.length_set,fY];omega),List.getElem?_eq_none (by rw [fY];omega)]
theorem xz{α β:Type}(g:α->β)(d:α)(z:β)(l:List α):fE (fun i=>g (l.getD i d)) z l.length l.length=l.map g:=by
 apply List.ext_getElem?
 intro i
 by_cases hi:i<l.length
 ·simp [fE,hi,List.getD,List.getElem?_eq_getElem hi]
 ·rw [List.getElem?_eq_none (by rw [fY];omega),List.getElem?_eq_none (by simp;omega)]
theorem uB(Z:an)(w:World):lineE.rep Z w [.slice none 0 0,.bool false] zl:=line_rep.2 ⟨_,rfl,HeldE.nil _ _ _⟩
theorem uC{Z:an}{w:World}{B n:Nat}{v:Value}(h:w.ownsRow B 104 2 v n (madeCells (Value.agg #[.slice none 0 0,.bool false]).cells (n * 2)).toList):OwnE lineE Z w B 104 v (List.replicate n zl):=by
 have hc:(Value.agg #[.slice none 0 0,.bool false]).cells=[Value.slice none 0 0,.bool false].toArray:=by kernel_rfl
 have he:=kh [Value.slice none 0 0,.bool false] (by decide) n;rw [hc,show n * 2=n * [Value.slice none 0 0,.bool false].length from rfl,he] at h;refine ⟨List.replicate n [.slice none 0 0,.bool false],by rw [List.length_replicate];exact h,by simp,fun i hi=>?_⟩;rw [List.length_replicate] at hi;have e1:(List.replicate n [Value.slice none 0 0,.bool false]).getD i []=[.slice none 0 0,.bool false]:=by simp [List.getD,List.getElem?_replicate,hi]
 have e2:(List.replicate n zl).getD i lineE.zero=zl:=by simp [List.getD,List.getElem?_replicate,hi]
 rw [e1,e2];exact uB _ _
theorem lW{Yo:an}(B gg gr wd:Nat)(Rs:List Rw)(w:World)(h:GridY Yo w B gg gr wd Rs):Calls Tryz.prog 41 #[.pointer (some ⟨gg,0,none⟩)] w (fp lineE (fun b=>w.heap.size<=b) 104 w (Rs.map aO)):=by
 have HG:=ab h;have HH:=ab (di B gg gr wd Rs w h);have DF:=ab h.sizes;have Ml:=ab h.lt;have Qa:=xz aO r0 zl Rs;obtain ⟨i0,hi,hz0,hz1,hz2⟩:=info_parts bS;obtain ⟨n,hn⟩:=ae (Rs.length);have HN:=ab hn;rw [<-hn] at HH Qa;have HFA:=ab Qa;have QK:n<=1024:=by rw [hn];exact h.sizes.2.1
 clear h hn Qa
 go_enter Tryz.func41,Tryz.ntmps41
 go_wp2_with fail
 refine HH.out.mono ?_;rintro e w1 ⟨rfl,rfl⟩
 go_wp2_with (at_make;refine wpList_make_full w rfl (.tmp 6) (.tmp 6) 22 rfl w.heap.size 104 i0 (.agg #[.slice none 0 0,.bool false]) 2 Tryz.underlying22 hi hz0 hz1 .i64 .i64 _ _ n rfl rfl rfl rfl (by rw [hz2];omega) (by unfold maxLen;omega) (Nat.le_refl _) ?_)
 intro w1 hown1 hg1;have hb1:Below w.heap.size w w1:=(Below.refl _ _).grown hg1 (Nat.le_refl _) (by intro k hk;cases hk);have BX:OwnE lineE (fun b=>w.heap.size<=b) w1 w.heap.size 104 (.slice (some ⟨w.heap.size,0,none⟩) n n) (fE (fun i=>aO (Rs.getD i r0)) zl n 0):=by rw [uA];exact uC hown1
 have Cg:=ab BX;have Bt:=ab hb1;generalize hgn:w.heap.size=g at Cg;have Qw:=ab hgn;clear hown1 hg1 hb1 BX hi hz0 hz1 hz2 hgn HH;go_wp2
 go_loopw [10] (fun i wr=>∃ k:Nat,k<=n/\i=.int .i64 k/\OwnE lineE (fun b=>g<=b) wr g 104 (.slice (some ⟨g,0,none⟩) n n) (fE (fun i=>aO (Rs.getD i r0)) zl n k)/\Below w.heap.size w wr) (fun i _=>n - (intOf i).toNat)
 case atStart=>exact ⟨0,Nat.zero_le _,rfl,Cg.out,Bt.out⟩
 case round =>
  obtain ⟨k,hk,rfl,hown,AY⟩:=hrel;have Bf:=ab AY;have HO:=ab hown;clear AY hown
  by_cases hlt:k<n
  ·have hg:=HG.out.below Bf.out;obtain ⟨cap,c0,c1,Cd,hc⟩:=hg.cells;have cr:=hc k (by rw [<-HN.out];exact hlt);have hr:=hg.row (i:=k) (by rw [<-HN.out];exact hlt);rw [<-HN.out] at c1 Cd;have Iv:=xy (fun i=>aO (Rs.getD i r0)) zl n k hlt;obtain ⟨r,DO⟩:=ae (Rs.getD k r0);rw [<-DO] at cr hr
   try simp only at Iv
   rw [<-DO] at Iv;obtain ⟨p,pc,L,wrap⟩:=r;simp only at cr hr;have Pd:=ab Iv;have HR:=ab hr;have NE:gg<wr.heap.size/\gr<wr.heap.size:=⟨hg.lt.2.1,hg.lt.2.2.2.1⟩;have GE:g<wr.heap.size/\g<=wr.heap.size:=⟨(HO.out.lt g rfl).2,Nat.le_of_lt (HO.out.lt g rfl).2⟩;have LI:=ab (show ∀ w2,Below wr.heap.size wr w2->w2.cell? ⟨gg,1,none⟩=some (.slice (some ⟨gr,0,none⟩) n cap) from fun w2 b=>(b.cell (p:=⟨gg,1,none⟩) NE.1).trans c1);have HCR:=ab (show ∀ w2,Below wr.heap.size wr w2->w2.cell? ⟨gr,k,none⟩=some (.pointer (some ⟨p,0,none⟩)) from fun w2 b=>(b.cell (p:=⟨gr,k,none⟩) NE.2).trans cr);have Jf:=ab (fY (fun i=>aO (Rs.getD i r0)) zl n k);obtain ⟨F,hF⟩:=ae (fE (fun i=>aO (Rs.getD i r0)) zl n k);rw [<-hF] at HO Pd Jf;clear hc hg cr c0 c1 hr DO Iv hF;go_wp2;obtain ⟨AZ,A6⟩ : ∃ CC:Array Bool->World->Prop,CC=fun L8 w'=>(Mix.one L8 20=0->Below wr.heap.size wr w')/\(Mix.one L8 20≠0->OwnE lineE (fun b=>g<=b) w' g 104 (.slice (some ⟨g,0,none⟩) n n) (fE (fun i=>aO (Rs.getD i r0)) zl n (k+1))/\Below w.heap.size w w'):=⟨_,rfl⟩
   obtain ⟨BA,Bh⟩ : ∃ XX:World->World->Prop,XX=fun x y=>Upd (fun b=>b=g) x y:=⟨_,rfl⟩
   obtain ⟨Bw,Bn,A2,A3,A4,A5,Bc,A9,Ba,A1,A7,Be,A0,Bg,Bk,Bj,Bq,Bo,Bs,CE,Cz,CD,D7,_,_,_⟩:=Reg.e24 BA
    (fun xx _=>xx=.slice (some ⟨g,0,none⟩) n n)
    (fun xx _=>xx=.int .i64 k)
    (fun xx _=>xx=.pointer (some ⟨gg,0,none⟩))
    (fun xx _=>xx=.pointer (some ⟨gg,0,none⟩))
    (fun xx _=>xx=.pointer (some ⟨gg,1,none⟩))
    (fun xx _=>xx=.slice (some ⟨gr,0,none⟩) n cap)
    (fun xx _=>xx=.int .i64 k)
    (fun xx _=>xx=.pointer (some ⟨gr,k,none⟩))
    (fun xx _=>xx=.pointer (some ⟨p,0,none⟩))
    (fun x w'=>HeldE cellE (fun b=>wr.heap.size<=b) w' x L)
    (fun xx _=>xx=.pointer (some ⟨gg,0,none⟩))
    (fun xx _=>xx=.pointer (some ⟨gg,0,none⟩))
    (fun xx _=>xx=.pointer (some ⟨gg,1,none⟩))
    (fun xx _=>xx=.slice (some ⟨gr,0,none⟩) n cap)
    (fun xx _=>xx=.int .i64 k)
    (fun xx _=>xx=.pointer (some ⟨gr,k,none⟩))
    (fun xx _=>xx=.pointer (some ⟨p,0,none⟩))
    (fun xx _=>xx=.bool wrap)
    (fun x w'=>∃ v9,x=.agg #[v9,.bool wrap]/\HeldE cellE (fun b=>wr.heap.size<=b) w' v9 L)
    (fun xx _=>xx=.pointer (some ⟨g,k * 2,none⟩))
    (fun xx _=>xx=undef)
    (fun _ _=>True) (fun _ _=>True) (fun _ _=>True)
    (s9:=fun x w w1 hx h=>by rw [Bh] at hx;first | exact HeldE.upd h hx (fun b hb e=>by omega) | (obtain ⟨v9,e9,h9⟩:=h;exact ⟨v9,e9,HeldE.upd h9 hx (fun b hb e=>by omega)⟩))
    (s18:=fun x w w1 hx h=>by rw [Bh] at hx;first | exact HeldE.upd h hx (fun b hb e=>by omega) | (obtain ⟨v9,e9,h9⟩:=h;exact ⟨v9,e9,HeldE.upd h9 hx (fun b hb e=>by omega)⟩))
   have Bd:Hid (∀ i L w,(i == 20)=false ->  AZ L w->AZ (L.setIfInBounds i true) w):=ab (by
    intro i L w q h;simp only [Bool.or_eq_false_iff,beq_eq_false_iff_ne] at q;rw [A6] at h ⊢;simp only [Mix.one_ne q];exact h)
   have Bv:Hid (∀ L w w1,AZ L w->Below w.heap.size w w1->AZ L w1):=ab (by
    intro L w w1 h hb;rw [A6] at h ⊢;exact ⟨fun e=>(h.1 e).trans (hb.mono (h.1 e).size),fun e=>⟨(h.2 e).1.below hb,(h.2 e).2.trans (hb.mono (h.2 e).2.size)⟩⟩)
   have Bm:=ab (show ∀ w,BA w w from fun w=>by rw [Bh];exact Upd.refl _ _);have Bl:=ab (show ∀ w w1,Below w.heap.size w w1->BA w w1 from fun w w1 hb=>by rw [Bh];exact .ofBelow hb);have By:=ab (show AZ (Array.replicate 21 false) wr.drew from by rw [A6];exact ⟨fun _=>(Below.refl _ _).drew,fun e=>absurd (Mix.one_none _ _) e⟩);have AX:=ab (fun (i:Nat) L w v q (h:AZ L w) (e:Bw i v w)=>Reg.hk (Bd.out i L w q h) e (Bm.out w));have AW:=ab A6;have Bi:=ab Bh;clear A6 Bh
   go_wp2_with fail
   refine Reg.regionF Bw AZ BA Bn.out (by kernel_rfl) (by kernel_rfl) (by kernel_rfl) By.out (fun GC AV=>?_);simp only [Reg.frame,Reg.dsts,List.map_cons,List.map_nil,Mix.put_lit,Reg.put_none,List.set_cons_succ,List.set_cons_zero,Nat.zero_add,Nat.reduceAdd] at AV;refine ⟨⟨?_,?_,?_,?_,?_,?_,?_,?_,?_,?_,?_,?_,?_,?_,?_,?_,?_,?_,?_,?_,?_,trivial⟩,?_⟩
   ·intro Lq wq xq hh;simp only [AV];refine Reg.go rfl ?_;have HK:=AX.out 0 _ _ _ rfl hh.cls ((A2.out _ _).mpr rfl);go_simp;exact HK.out
   ·intro Lq wq xq hh;simp only [AV];refine Reg.go rfl ?_;have HK:=AX.out 1 _ _ _ rfl hh.cls ((A3.out _ _).mpr rfl);go_simp;exact HK.out
   ·intro Lq wq xq hh;simp only [AV];refine Reg.go rfl ?_;have HK:=AX.out 2 _ _ _ rfl hh.cls ((A4.out _ _).mpr rfl);go_simp;exact HK.out
   ·intro Lq wq xq hh;simp only [AV,(A4.out _ _).mp (hh.v 2)];refine Reg.go rfl ?_;have HK:=AX.out 3 _ _ _ rfl hh.cls ((A5.out _ _).mpr rfl);go_simp;exact HK.out
   ·intro Lq wq xq hh;simp only [AV,(A5.out _ _).mp (hh.v 3)];refine Reg.go rfl ?_;have HK:=AX.out 4 _ _ _ rfl hh.cls ((Bc.out _ _).mpr rfl);go_simp;exact HK.out
   ·intro Lq wq xq hh;simp only [AV,(Bc.out _ _).mp (hh.v 4)];refine Reg.go rfl ?_;have hc:AZ Lq wq:=hh.cls;rw [AW.out] at hc;have q5:=LI.out wq (hc.1 (Mix.one_un (hh.notYet 20 (by kernel_rfl))));clear hc;have HK:=AX.out 5 _ _ _ rfl hh.cls ((A9.out _ _).mpr rfl);go_simp;exact HK.out
   ·intro Lq wq xq hh;simp only [AV];refine Reg.go rfl ?_;have HK:=AX.out 6 _ _ _ rfl hh.cls ((Ba.out _ _).mpr rfl);go_simp;exact HK.out
   ·intro Lq wq xq hh;simp only [AV,(A9.out _ _).mp (hh.v 5),(Ba.out _ _).mp (hh.v 6)];refine Reg.go rfl ?_;have HK:=AX.out 7 _ _ _ rfl hh.cls ((A1.out _ _).mpr rfl);go_simp;exact HK.out
   ·intro Lq wq xq hh;simp only [AV,(A1.out _ _).mp (hh.v 7)];refine Reg.go rfl ?_;have hc:AZ Lq wq:=hh.cls;rw [AW.out] at hc;have q8:=HCR.out wq (hc.1 (Mix.one_un (hh.notYet 20 (by kernel_rfl))));clear hc;have HK:=AX.out 8 _ _ _ rfl hh.cls ((A7.out _ _).mpr rfl);go_simp;exact HK.out
   ·intro Lq wq xq hh;simp only [AV,(A7.out _ _).mp (hh.v 8)];refine Reg.go rfl ?_;unfold Reg.upon;have hc:AZ Lq wq:=hh.cls;rw [AW.out] at hc;have LJ:=hc.1 (Mix.one_un (hh.notYet 20 (by kernel_rfl)));go_simp;refine (rP _ B p pc L wrap wq (HR.out.below LJ)).mono ?_;rintro e w2 ⟨v2,rfl,ho,hb⟩;refine ⟨_,rfl,Bd.out 9 Lq w2 (by decide) (Bv.out Lq wq w2 hh.cls hb),?_,Bl.out wq w2 hb⟩;rw [Be.out];exact (ho.held (fun b h _=>h)).zone (fun b _ h=>Nat.le_trans LJ.size h)
   ·intro Lq wq xq hh;simp only [AV];refine Reg.go rfl ?_;have HK:=AX.out 10 _ _ _ rfl hh.cls ((A0.out _ _).mpr rfl);go_simp;exact HK.out
   ·intro Lq wq xq hh;simp only [AV,(A0.out _ _).mp (hh.v 10)];refine Reg.go rfl ?_;have HK:=AX.out 11 _ _ _ rfl hh.cls ((Bg.out _ _).mpr rfl);go_simp;exact HK.out
   ·intro Lq wq xq hh;simp only [AV,(Bg.out _ _).mp (hh.v 11)];refine Reg.go rfl ?_;have HK:=AX.out 12 _ _ _ rfl hh.cls ((Bk.out _ _).mpr rfl);go_simp;exact HK.out
   ·intro Lq wq xq hh;simp only [AV,(Bk.out _ _).mp (hh.v 12)];refine Reg.go rfl ?_;have hc:AZ Lq wq:=hh.cls;rw [AW.out] at hc;have q5:=LI.out wq (hc.1 (Mix.one_un (hh.notYet 20 (by kernel_rfl))));clear hc;have HK:=AX.out 13 _ _ _ rfl hh.cls ((Bj.out _ _).mpr rfl);go_simp;exact HK.out
   ·intro Lq wq xq hh;simp only [AV];refine Reg.go rfl ?_;have HK:=AX.out 14 _ _ _ rfl hh.cls ((Bq.out _ _).mpr rfl);go_simp;exact HK.out
   ·intro Lq wq xq hh;simp only [AV,(Bj.out _ _).mp (hh.v 13),(Bq.out _ _).mp (hh.v 14)];refine Reg.go rfl ?_;have HK:=AX.out 15 _ _ _ rfl hh.cls ((Bo.out _ _).mpr rfl);go_simp;exact HK.out
   ·intro Lq wq xq hh;simp only [AV,(Bo.out _ _).mp (hh.v 15)];refine Reg.go rfl ?_;have hc:AZ Lq wq:=hh.cls;rw [AW.out] at hc;have q8:=HCR.out wq (hc.1 (Mix.one_un (hh.notYet 20 (by kernel_rfl))));clear hc;have HK:=AX.out 16 _ _ _ rfl hh.cls ((Bs.out _ _).mpr rfl);go_simp;exact HK.out
   ·intro Lq wq xq hh;simp only [AV,(Bs.out _ _).mp (hh.v 16)];refine Reg.go rfl ?_;unfold Reg.upon;have hc:AZ Lq wq:=hh.cls;rw [AW.out] at hc;have hc17:=hc.1 (Mix.one_un (hh.notYet 20 (by kernel_rfl)));go_simp;refine (uD _ B p pc L wrap wq (HR.out.below hc17)).mono ?_;rintro e w2 ⟨rfl,rfl⟩;exact ⟨_,rfl,Bd.out 17 Lq wq (by decide) hh.cls,(by rw [CE.out]),Bm.out _⟩
   ·intro Lq wq xq hh;have d9:=(Be.out _ _).mp (hh.v 9);simp only [AV,(CE.out _ _).mp (hh.v 17)];refine Reg.go rfl ?_;unfold Reg.upon;obtain ⟨a9,c9,e9⟩:=d9.len;rw [e9] at d9 ⊢;go_simp;exact ⟨Bd.out 18 Lq wq (by decide) hh.cls,(by rw [Cz.out];exact ⟨_,rfl,d9⟩),Bm.out _⟩
   ·intro Lq wq xq hh;simp only [AV,(A2.out _ _).mp (hh.v 0),(A3.out _ _).mp (hh.v 1)];refine Reg.go rfl ?_;have HK:=AX.out 19 _ _ _ rfl hh.cls ((CD.out _ _).mpr rfl);go_simp;exact HK.out
   ·intro Lq wq xq hh;have d18:=(Cz.out _ _).mp (hh.v 18);simp only [AV,(CD.out _ _).mp (hh.v 19)];refine Reg.go rfl ?_;unfold Reg.upon;obtain ⟨v9,e9,h9⟩:=d18;obtain ⟨a9,c9,e8⟩:=h9.len;rw [e9];subst e8;have hc20:AZ Lq wq:=hh.cls;rw [AW.out] at hc20;have hcb:=hc20.1 hh.un;have hown:=HO.out.below hcb;have J5:k<F.length:=by rw [Jf.out];exact hlt
    have Mo:lineE.rep (fun b=>g<=b/\b≠g) wq [.slice a9 L.length c9,.bool wrap] (L,wrap):=line_rep.2 ⟨_,rfl,h9.zone (fun b _ hz=>⟨by omega,by omega⟩)⟩;have Qm:=hown.each.there J5;obtain ⟨Cf,Og⟩:=hown.each.put (Y:=fun b=>g<=b) J5 _ (L,wrap) Mo;rw [ia (b:=g) (off:=k * 2) rfl rfl [.slice a9 L.length c9,.bool wrap] rfl Qm (by kernel_rfl) (lineE.one Mo)];refine ⟨?_,(by rw [D7.out]),(by rw [Bi.out];exact Og)⟩;rw [AW.out];refine ⟨fun e=>(by rw [Mix.one_set (by rw [hh.size];decide)] at e;cases e),fun _=>⟨?_,?_⟩⟩;rw [<-Pd.out];exact OwnI.all Cf (fun j b _ _ q=>by split at q <;> exact q);exact (Bf.out.trans (hcb.mono Bf.out.size)).upd Og (Bf.out.trans (hcb.mono Bf.out.size)).size (fun x e=>by have:=Qw.out;omega)
   intro xq DY Bp BD;rw [AW.out] at Bp;simp only [AV];clear BD AV AX Bd Bm Bn By AW Bi Bv Bl A2 A3 A4 A5 Bc A9 Ba A1 A7 Be A0 Bg Bk Bj Bq Bo Bs CE Cz CD D7;have NB:=ab (Bp.2 (by rw [Mix.one_all (by decide)];decide));clear Bp;go_wp2
   go_roundw
   case rel=>exact ⟨k+1,by omega,by go_num,NB.out.1,NB.out.2⟩
   case measure=>simp [intOf] <;> omega
  ·obtain rfl:k=n:=by omega
   rw [HFA.out] at HO;go_wp2;go_ret;exact ⟨_,rfl,by rw [Qw.out];exact HO.out,Bf.out⟩
section
theorem lV{P:Program}{ρ:Operand->Value}{o:Oper}{w:World}{ty:TypeId}{x y:Operand}{b off:Nat}(ho:o.op=.store ty x y)(hx:ρ x=.pointer (some ⟨b,off,none⟩))(p:Option Nat)(hy:ρ y=cM p)(u:Value)(hc:w.cell? ⟨b,off,none⟩=some u)(hf:w.frozen? ⟨b,off,none⟩=false)(hi:(P.info? ty).map (·.size)=some 1):(execOp ρ o).run P w=.ok .skip (w.setCell ⟨b,off,none⟩ (cM p)):=by
 obtain ⟨i,hi1,hi2⟩:=Option.map_eq_some_iff.1 hi;have hce:1=P.cellsOf ty:=by unfold Program.cellsOf;rw [hi1];exact hi2.symm
 unfold execOp;unfold cM at hy ⊢
 simp [ho,hx,hy,go_sem,hc,hf,run_sizeOf,hi1,hi2]
 exact hce
def PartAt(w:World)(B gg wd:Nat)(v:Value)(Xs:List (Option Nat))(Rs:List Rw):Prop :=
 ∃ Z:an,(∀ b,Z b->B<=b/\b<w.heap.size)/\Has w gg [.int .i64 wd,v] 119/\B<=gg/\OwnE ptrE (fun _=>True) w B 113 v Xs/\¬ Z gg/\(∀ b,v.ownBlock=some b->¬ Z b)/\RowsAt Z w B Rs/\∀ i,i<Rs.length->(Rs.getD i r0).L.length=wd
section
variable {w w' : World} {B gg wd : Nat} {v : Value} {Xs : List (Option Nat)} {Rs : List Rw}
theorem gZ{Z:an}{ty:TypeId}(h:OwnE ptrE Z w B ty v Xs){b:Nat}(hb:v.ownBlock=some b):∃ C,w.heap[b]? = some (.cells C ty (0,0)):=by
 rcases h.ptrs.2 with ⟨rfl,_⟩ | ⟨g',cap',cur,rfl,_,hg,_⟩
 ·cases hb
 ·have:g'=b:=by simpa [Value.ownBlock] using hb
  subst this;exact ⟨cur,hg⟩
theorem aH{b:Nat}{C D:Array Value}{t u:TypeId}(h:w.heap[b]? = some (.cells C t (0,0)))(k:w.heap[b]? = some (.cells D u (0,0)))(hn:t≠u):False:=by
 rw [h] at k;simp only [Option.some.injEq,Obj.cells.injEq] at k;exact hn k.2.1
theorem PartAt.apart(h:PartAt w B gg wd v Xs Rs){b:Nat}(hb:v.ownBlock=some b):gg≠b/\∀ i,i<Rs.length->(Rs.getD i r0).g≠b/\(Rs.getD i r0).gc≠b:=by
 obtain ⟨Z,h1,h2,h3,h4,h5,h6,h7,h8⟩:=h;obtain ⟨C,hC⟩:=gZ h4 hb;refine ⟨fun e=>by subst e;exact aH h2 hC (by decide),fun i hi=>?_⟩;obtain ⟨⟨D,hD⟩,D',Kx⟩:=(h7.row i hi).types;exact ⟨fun e=>by rw [<-e] at hC;exact aH hD hC (by decide),fun e=>by rw [<-e] at hC;exact aH Kx hC (by decide)⟩
theorem PartAt.gapart(h:PartAt w B gg wd v Xs Rs):∀ i,i<Rs.length->(Rs.getD i r0).g≠gg/\(Rs.getD i r0).gc≠gg:=by
 obtain ⟨Z,h1,h2,h3,h4,h5,h6,h7,h8⟩:=h;intro i hi;obtain ⟨⟨D,hD⟩,D',Kx⟩:=(h7.row i hi).types;exact ⟨fun e=>by rw [e] at hD;exact aH hD h2 (by decide),fun e=>by rw [e] at Kx;exact aH Kx h2 (by decide)⟩
theorem PartAt.below(h:PartAt w B gg wd v Xs Rs)(hb:Below w.heap.size w w'):PartAt w' B gg wd v Xs Rs:=by
 obtain ⟨Z,h1,h2,h3,h4,h5,h6,h7,h8⟩:=h;exact ⟨Z,fun b hz=>⟨(h1 b hz).1,Nat.lt_of_lt_of_le (h1 b hz).2 hb.size⟩,h2.below hb h2.lt,h3,h4.below hb,h5,h6,h7.below hb,h8⟩
theorem PartAt.lt(h:PartAt w B gg wd v Xs Rs):B<=gg/\gg<w.heap.size/\∀ b,v.ownBlock=some b->B<=b/\b<w.heap.size:=by
 obtain ⟨Z,h1,h2,h3,h4,h5,h6,h7,h8⟩:=h;exact ⟨h3,h2.lt,h4.lt⟩
theorem PartAt.next(h:PartAt w B gg wd v Xs Rs){g gc:Nat}{L:List Cl}{wrap:Bool}(hr:RowAt (fun b=>w.heap.size<=b) w' w.heap.size g gc L wrap)(hl:L.length=wd)(hb:Below w.heap.size w w'):PartAt w' B gg wd v Xs (Rs++[⟨g,gc,L,wrap⟩]):=by
 obtain ⟨Z,h1,h2,h3,h4,h5,h6,h7,h8⟩:=h;have hlt:=h2.lt;refine ⟨_,fun b hz=>?_,h2.below hb h2.lt,h3,h4.below hb,?_,fun b De=>?_,h7.snoc (fun b hz=>(h1 b hz).2) (by omega) (Nat.le_refl _) hr hb,fun i hi=>?_⟩
 ·rcases hz with hz | hz
  ·have:=h1 b hz;have:=hb.size;omega
  ·omega
 ·rintro (hz | hz)
  ·exact h5 hz
  ·omega
 ·have:=h4.lt b De;rintro (hz | hz)
  ·exact h6 b De hz
  ·omega
 ·rw [bU];rw [List.length_append,List.length_singleton] at hi
  by_cases e:i<Rs.length
  ·rw [if_pos e];exact h8 i e
  ·rw [if_neg e,show i - Rs.length=0 by omega];exact hl
theorem PartAt.put{gr n cap:Nat}(h:PartAt w B gg wd (.slice (some ⟨gr,0,none⟩) n cap) Xs Rs)(k:Nat)(hk:k<Xs.length)(x:Option Nat):PartAt (w.setCell ⟨gr,k,none⟩ (cM x)) B gg wd (.slice (some ⟨gr,0,none⟩) n cap) (Xs.set k x) Rs/\Upd (fun b=>b=gr) w (w.setCell ⟨gr,k,none⟩ (cM x)):=by
 have hu:=(Upd.refl (fun b=>b=gr) w).setCell (p:=⟨gr,k,none⟩) (.inl rfl) (cM x);have ha:=h.apart (b:=gr) rfl;obtain ⟨Z,h1,h2,h3,h4,h5,h6,h7,h8⟩:=h;refine ⟨⟨Z,fun b hz=>⟨(h1 b hz).1,Nat.lt_of_lt_of_le (h1 b hz).2 hu.size⟩,hu.keep.has h2 ha.1,h3,oR h4 k hk x,h5,h6,h7.upd hu (fun b hz e=>h6 gr rfl (e ▸ hz)) ha.2,h8⟩,hu⟩
theorem PartAt.full(h:PartAt w B gg wd v (ptrs Rs) Rs)(h0:0<Rs.length)(h1:Rs.length<=1024):∃ gr,lY w B gg gr wd Rs:=by
 obtain ⟨Z,k1,k2,k3,k4,k5,k6,k7,k8⟩:=h;obtain ⟨gr,cap,rfl,hg1,hg2⟩:=k4.some (by rw [bn];exact h0);rw [bn] at k2 k4 k6;exact ⟨gr,Z,cap,k1,k2,k3,k4,k5,k6 gr rfl,k7,k8,h0,h1,fun _ _=>trivial⟩
end
def xu(w:World)(wd:Nat)(Ls:List Ln)(e:Ending)(w':World):Prop:=∃ gg gr Rs,e=.returned (.pointer (some ⟨gg,0,none⟩))/\lY w' w.heap.size gg gr wd Rs/\Rs.map aO=Ls/\Below w.heap.size w w'
def NewInv(w:World)(B gg gr W N:Nat)(Ls:List Ln)(k:Nat)(wr:World):Prop:=∃ Rs:List Rw,Rs.length=k/\PartAt wr B gg W (.slice (some ⟨gr,0,none⟩) N N) (ptrs Rs++List.replicate (N - k) none) Rs/\Rs.map aO=Ls.take k/\Below B w wr
theorem NewInv.step{w wr ws:World}{B gg gr W N:Nat}{Ls:List Ln}{k:Nat}(h:NewInv w B gg gr W N Ls k wr)(hk:k<N)(Fb:Ls.length=N){g gc:Nat}{L:List Cl}{wrap:Bool}(hl:L.length=W)(DA:Ls.getD k zl=(L,wrap))(hr:RowAt (fun b=>wr.heap.size<=b) ws wr.heap.size g gc L wrap)(hb:Below wr.heap.size wr ws):NewInv w B gg gr W N Ls (k+1) (ws.setCell ⟨gr,k,none⟩ (cM (some g)))/\Upd (fun b=>b=gr) ws (ws.setCell ⟨gr,k,none⟩ (cM (some g)))/\(∃ u,ws.cell? ⟨gr,k,none⟩=some u)/\ws.frozen? ⟨gr,k,none⟩=false:=by
 obtain ⟨Rs,hn,hp,hm,AY⟩:=h;have LH:=hp.lt;have KY:=hp.next hr hl hb;have N2:k<(ptrs Rs++List.replicate (N - k) none).length:=by rw [List.length_append,bn,List.length_replicate];omega
 obtain ⟨h3,hu⟩:=KY.put k N2 (some g);have hpc:OwnE ptrE (fun _=>True) ws B 113 (.slice (some ⟨gr,0,none⟩) N N) (ptrs Rs++List.replicate (N - k) none):=by
  obtain ⟨Z,k1,k2,k3,k4,_⟩:=KY;exact k4
 have hcc:=jy hpc k N2;refine ⟨⟨Rs++[⟨g,gc,L,wrap⟩],by simp [hn],?_,?_,?_⟩,hu,⟨_,hcc.1⟩,hcc.2⟩
 ·have e:(ptrs Rs++List.replicate (N - k) none).set k (some g)=ptrs (Rs++[⟨g,gc,L,wrap⟩])++List.replicate (N - (k+1)) none:=by
   rw [List.set_append_right _ _ (by rw [bn];omega),bn,hn,Nat.sub_self,show N - k=(N - (k+1))+1 by omega,List.replicate_succ]
   simp [ptrs]
  rw [<-e];exact h3
 ·rw [List.map_append,hm,List.take_succ_eq_append_getElem (by omega)];have:Ls[k]'(by omega)=(L,wrap):=by rw [<-DA];simp [List.getD,List.getElem?_eq_getElem (show k<Ls.length by omega)]
  rw [this]
  rfl
 ·have GE:=LH.2.2 gr rfl;have De:=AY.trans (hb.mono (show B<=wr.heap.size by omega));exact De.upd hu (by have:=hb.size;omega) (fun x e=>by omega)
theorem xw(a b:Int)(w:World):Calls Tryz.prog 86 #[.int .i64 a,.int .i64 b] w (xu w (df a) (List.replicate (df b) (List.replicate (df a) zc,false))):=by
 have HA:=ab (ng a w);have LR:=ab (ng b w);have hN:0<df b/\df b<=1024:=by unfold df;omega
 have hW:0<df a/\df a<=1024:=by unfold df;omega
 have QI:df (df a:Int)=df a:=by unfold df;omega
 obtain ⟨i0,hi,hz0,hz1,hz2⟩:=info_parts fZ;obtain ⟨N,hNe⟩:=ae (df b);obtain ⟨W,hWe⟩:=ae (df a);rw [<-hNe] at LR hN ⊢;rw [<-hWe] at HA hW QI ⊢;have KO:=ab QI;clear hNe hWe QI;obtain ⟨Ls,PD⟩:=ae (List.replicate N (List.replicate W zc,false));rw [<-PD];have E3:=ab (show Ls.length=N by rw [PD];simp);have Qs:=ab (show ∀ k,k<N->Ls.getD k zl=(List.replicate W zc,false) from fun k hk=>by rw [PD];simp [List.getD,List.getElem?_replicate,hk]);clear PD
 go_enter Tryz.func86,Tryz.ntmps86
 go_wp2_with fail
 refine HA.out.mono ?_;rintro e w1 ⟨rfl,rfl⟩
 go_wp2_with fail
 refine LR.out.mono ?_;rintro e w1 ⟨rfl,rfl⟩
 go_wp2_with (at_make;refine wpList_make_full w rfl (.tmp 10) (.tmp 10) 117 rfl w.heap.size 113 i0 (.pointer none) 1 Tryz.underlying117 hi hz0 hz1 .i64 .i64 _ _ N rfl rfl rfl rfl (by rw [hz2];omega) (by unfold maxLen;omega) (Nat.le_refl _) ?_)
 intro w1 hown1 hg1;have hb1:Below w.heap.size w w1:=(Below.refl _ _).grown hg1 (Nat.le_refl _) (by intro k hk;cases hk);have BX:OwnE ptrE (fun _=>True) w1 w.heap.size 113 (.slice (some ⟨w.heap.size,0,none⟩) N N) (List.replicate N none):=cS (by
  have e:=kh [Value.pointer none] (by decide) N;have e2:(List.replicate N [Value.pointer none]).flatten=(List.replicate N (none:Option Nat)).map cM:=by rw [<-lX,List.map_replicate];rfl
  rw [<-e2,<-e]
  simpa using hown1)
 have hb2:Below w1.heap.size w1 (w1.alloc (.cells #[.int .i64 W,.slice (some ⟨w.heap.size,0,none⟩) N N] 119)):=AU _ _;have E5:=Has.new w1 [.int .i64 W,.slice (some ⟨w.heap.size,0,none⟩) N N] 119;have Ll:NewInv w w.heap.size w1.heap.size w.heap.size W N Ls 0 (w1.alloc (.cells #[.int .i64 W,.slice (some ⟨w.heap.size,0,none⟩) N N] 119)):=⟨[],rfl,⟨fun _=>False,fun b h=>h.elim,E5,hb1.size,BX.below hb2,fun h=>h,fun b _ h=>h,RowsAt.nil _ _ _,fun i hi=>absurd hi (Nat.not_lt_zero _)⟩,rfl,hb1.trans (hb2.mono hb1.size)⟩;have Nk:w.heap.size<w1.heap.size:=(BX.lt _ rfl).2;obtain ⟨gr,hgr⟩:=ae (w.heap.size);obtain ⟨gg,K8⟩:=ae (w1.heap.size);have Ou:=ab Ll;have d1:=E5.cell 1 _ rfl;rw [<-K8] at d1 Nk;have Jn:=ab K8;have HGR:=ab hgr;obtain ⟨w2,hw2⟩:=ae (w1.alloc (.cells #[.int .i64 W,.slice (some ⟨w.heap.size,0,none⟩) N N] 119));rw [<-hw2] at Ou d1;have IG:=ab hw2;clear hown1 hg1 hb1 BX hb2 E5 Ll hi hz0 hz1 hz2 HA LR hgr K8 hw2
 go_upto_region 2 with fail
 rw [<-Jn.out,<-IG.out];rw [<-Jn.out] at Ou;go_wp2;clear d1
 go_loopw [19] (fun i wr=>∃ k:Nat,k<=N/\i=.int .i64 k/\NewInv w w.heap.size gg w.heap.size W N Ls k wr) (fun i _=>N - (intOf i).toNat)
 case atStart=>exact ⟨0,Nat.zero_le _,rfl,Ou.out⟩
 case round =>
  obtain ⟨k,hk,rfl,hinv⟩:=hrel;have HI:=ab hinv;have hp:=hinv;clear hinv;obtain ⟨Rs,hRl,hp,OX,AY⟩:=hp
  by_cases hlt:k<N
  ·obtain ⟨Z,k1,k2,k3,k4,_⟩:=hp;have NE:gg<wr.heap.size/\w.heap.size<wr.heap.size:=⟨k2.lt,(k4.lt _ rfl).2⟩;have Pj:=ab (show ∀ w9,Below wr.heap.size wr w9->w9.cell? ⟨gg,0,none⟩=some (.int .i64 W)/\w9.cell? ⟨gg,1,none⟩=some (.slice (some ⟨w.heap.size,0,none⟩) N N) from fun w9 b=>⟨(b.cell (p:=⟨gg,0,none⟩) NE.1).trans (k2.cell 0 _ rfl),(b.cell (p:=⟨gg,1,none⟩) NE.1).trans (k2.cell 1 _ rfl)⟩);have DA:=Qs.out k hlt;have Ch:=ab DA;clear k1 k2 k3 k4 hRl OX AY DA;obtain ⟨gr',Mx⟩:=ae (w.heap.size);rw [<-Mx] at NE Pj HI ⊢;have Pu:=ab Mx;clear Mx;go_wp2;obtain ⟨AZ,A6⟩ : ∃ CC:Array Bool->World->Prop,CC=fun L8 w'=>(Mix.one L8 11=0->Below wr.heap.size wr w')/\(Mix.one L8 11≠0->NewInv w gr' gg gr' W N Ls (k+1) w'):=⟨_,rfl⟩
   obtain ⟨BA,Bh⟩ : ∃ XX:World->World->Prop,XX=fun x y=>Upd (fun b=>b=gr') x y:=⟨_,rfl⟩
   obtain ⟨Bw,Bn,A2,A3,A4,A5,Bc,A9,Ba,A1,A7,Be,A0,Bg⟩:=Reg.e12 BA
    (fun xx _=>xx=.pointer (some ⟨gg,0,none⟩))
    (fun xx _=>xx=.pointer (some ⟨gg,0,none⟩))
    (fun xx _=>xx=.pointer (some ⟨gg,1,none⟩))
    (fun xx _=>xx=.slice (some ⟨gr',0,none⟩) N N)
    (fun xx _=>xx=.int .i64 k)
    (fun xx _=>xx=.pointer (some ⟨gg,0,none⟩))
    (fun xx _=>xx=.pointer (some ⟨gg,0,none⟩))
    (fun xx _=>xx=.pointer (some ⟨gg,0,none⟩))
    (fun xx _=>xx=.int .i64 W)
    (fun x w'=>∃ g9 gc9,x=.pointer (some ⟨g9,0,none⟩)/\RowAt (fun b=>wr.heap.size<=b) w' wr.heap.size g9 gc9 (List.replicate W zc) false)
    (fun xx _=>xx=.pointer (some ⟨gr',k,none⟩))
    (fun xx _=>xx=undef)
    (s9:=fun x w w1 hx h=>by rw [Bh] at hx;(obtain ⟨g9,gc9,e9,h9⟩:=h;have:=h9.lt;exact ⟨g9,gc9,e9,h9.upd hx (fun b hb e=>by omega) (fun e=>by omega) (fun e=>by omega)⟩))
   have Bd:Hid (∀ i L w,(i == 11)=false ->  AZ L w->AZ (L.setIfInBounds i true) w):=ab (by
    intro i L w q h;simp only [Bool.or_eq_false_iff,beq_eq_false_iff_ne] at q;rw [A6] at h ⊢;simp only [Mix.one_ne q];exact h)
   have Bv:Hid (∀ L w w1,AZ L w->Below w.heap.size w w1->AZ L w1):=ab (by
    intro L w w1 h hb;rw [A6] at h ⊢;exact ⟨fun e=>(h.1 e).trans (hb.mono (h.1 e).size),fun e=>by obtain ⟨R9,q1,q2,q3,q4⟩:=h.2 e;exact ⟨R9,q1,q2.below hb,q3,q4.trans (hb.mono (by have:=q2.lt;omega))⟩⟩)
   have Bm:=ab (show ∀ w,BA w w from fun w=>by rw [Bh];exact Upd.refl _ _);have Bl:=ab (show ∀ w w1,Below w.heap.size w w1->BA w w1 from fun w w1 hb=>by rw [Bh];exact .ofBelow hb);have By:=ab (show AZ (Array.replicate 12 false) wr.drew from by rw [A6];exact ⟨fun _=>(Below.refl _ _).drew,fun e=>absurd (Mix.one_none _ _) e⟩);have AX:=ab (fun (i:Nat) L w v q (h:AZ L w) (e:Bw i v w)=>Reg.hk (Bd.out i L w q h) e (Bm.out w));have AW:=ab A6;have Bi:=ab Bh;clear A6 Bh
   go_wp2_with fail
   refine Reg.regionF Bw AZ BA Bn.out (by kernel_rfl) (by kernel_rfl) (by kernel_rfl) By.out (fun GC AV=>?_);simp only [Reg.frame,Reg.dsts,List.map_cons,List.map_nil,Mix.put_lit,Reg.put_none,List.set_cons_succ,List.set_cons_zero,Nat.zero_add,Nat.reduceAdd] at AV;refine ⟨⟨?_,?_,?_,?_,?_,?_,?_,?_,?_,?_,?_,?_,trivial⟩,?_⟩
   ·intro Lq wq xq hh;simp only [AV];refine Reg.go rfl ?_;have HK:=AX.out 0 _ _ _ rfl hh.cls ((A2.out _ _).mpr rfl);go_simp;exact HK.out
   ·intro Lq wq xq hh;simp only [AV,(A2.out _ _).mp (hh.v 0)];refine Reg.go rfl ?_;have HK:=AX.out 1 _ _ _ rfl hh.cls ((A3.out _ _).mpr rfl);go_simp;exact HK.out
   ·intro Lq wq xq hh;simp only [AV,(A3.out _ _).mp (hh.v 1)];refine Reg.go rfl ?_;have HK:=AX.out 2 _ _ _ rfl hh.cls ((A4.out _ _).mpr rfl);go_simp;exact HK.out
   ·intro Lq wq xq hh;simp only [AV,(A4.out _ _).mp (hh.v 2)];refine Reg.go rfl ?_;have hc:AZ Lq wq:=hh.cls;rw [AW.out] at hc;have q3:=(Pj.out wq (hc.1 (Mix.one_un (hh.notYet 11 (by kernel_rfl))))).2;clear hc;have HK:=AX.out 3 _ _ _ rfl hh.cls ((A5.out _ _).mpr rfl);go_simp;exact HK.out
   ·intro Lq wq xq hh;simp only [AV];refine Reg.go rfl ?_;have HK:=AX.out 4 _ _ _ rfl hh.cls ((Bc.out _ _).mpr rfl);go_simp;exact HK.out
   ·intro Lq wq xq hh;simp only [AV];refine Reg.go rfl ?_;have HK:=AX.out 5 _ _ _ rfl hh.cls ((A9.out _ _).mpr rfl);go_simp;exact HK.out
   ·intro Lq wq xq hh;simp only [AV,(A9.out _ _).mp (hh.v 5)];refine Reg.go rfl ?_;have HK:=AX.out 6 _ _ _ rfl hh.cls ((Ba.out _ _).mpr rfl);go_simp;exact HK.out
   ·intro Lq wq xq hh;simp only [AV,(Ba.out _ _).mp (hh.v 6)];refine Reg.go rfl ?_;have HK:=AX.out 7 _ _ _ rfl hh.cls ((A1.out _ _).mpr rfl);go_simp;exact HK.out
   ·intro Lq wq xq hh;simp only [AV,(A1.out _ _).mp (hh.v 7)];refine Reg.go rfl ?_;have hc:AZ Lq wq:=hh.cls;rw [AW.out] at hc;have q8:=(Pj.out wq (hc.1 (Mix.one_un (hh.notYet 11 (by kernel_rfl))))).1;clear hc;have HK:=AX.out 8 _ _ _ rfl hh.cls ((A7.out _ _).mpr rfl);go_simp;exact HK.out
   ·intro Lq wq xq hh;simp only [AV,(A7.out _ _).mp (hh.v 8)];refine Reg.go rfl ?_;unfold Reg.upon;have hc:AZ Lq wq:=hh.cls;rw [AW.out] at hc;have LJ:=hc.1 (Mix.one_un (hh.notYet 11 (by kernel_rfl)));go_simp;refine (qf (fun b=>wr.heap.size<=b) (W:Int) wq).mono ?_;rintro e w2 ⟨g9,gc9,rfl,h9,hb⟩;rw [KO.out] at h9;refine ⟨_,rfl,Bd.out 9 Lq w2 (by decide) (Bv.out Lq wq w2 hh.cls hb),?_,Bl.out wq w2 hb⟩;rw [Be.out];exact ⟨g9,gc9,rfl,h9.base LJ.size⟩
   ·intro Lq wq xq hh;simp only [AV,(A5.out _ _).mp (hh.v 3),(Bc.out _ _).mp (hh.v 4)];refine Reg.go rfl ?_;have HK:=AX.out 10 _ _ _ rfl hh.cls ((A0.out _ _).mpr rfl);go_simp;exact HK.out
   ·intro Lq wq xq hh;have d9:=(Be.out _ _).mp (hh.v 9);simp only [AV,(A0.out _ _).mp (hh.v 10)];refine Reg.go rfl ?_;unfold Reg.upon;obtain ⟨g9,gc9,e9,h9⟩:=d9;have hc11:AZ Lq wq:=hh.cls;rw [AW.out] at hc11;obtain ⟨hst,Io,⟨q,hq⟩,hfz⟩:=NewInv.step HI.out hlt E3.out (by simp) Ch.out h9 (hc11.1 hh.un);rw [lV (b:=gr') (off:=k) rfl rfl (some g9) e9 q hq hfz (by kernel_rfl)];refine ⟨?_,(by rw [Bg.out]),(by rw [Bi.out];exact Io)⟩;rw [AW.out];exact ⟨fun e=>(by rw [Mix.one_set (by rw [hh.size];decide)] at e;cases e),fun _=>hst⟩
   intro xq DY Bp BD;rw [AW.out] at Bp;simp only [AV];clear BD AV AX Bd Bm Bn By AW Bi Bv Bl A2 A3 A4 A5 Bc A9 Ba A1 A7 Be A0 Bg;have NB:=ab (Bp.2 (by rw [Mix.one_all (by decide)];decide));clear Bp;go_wp2
   go_roundw
   case rel=>exact ⟨k+1,by omega,by go_num,NB.out⟩
   case measure=>simp [intOf] <;> omega
  ·obtain rfl:k=N:=by omega
   rw [Nat.sub_self,List.replicate_zero,List.append_nil] at hp;obtain ⟨gr2,hg2⟩:=hp.full (by omega) (by omega);rw [List.take_of_length_le (by rw [E3.out];exact Nat.le_refl _)] at OX;have HF:=ab (And.intro hg2 (And.intro OX AY));clear hp hg2 OX AY hRl;go_wp2;go_ret;exact ⟨gg,gr2,Rs,rfl,HF.out.1,HF.out.2.1,HF.out.2.2⟩
end
section
variable {Yo : an}
theorem cy{α:Type}(l:List α)(d x:α)(i j:Nat)(hi:i<l.length):(l.set i x).getD j d=if j=i then x else l.getD j d:=by
 by_cases e:j=i
 ·subst e;rw [if_pos rfl]
  simp [List.getD,List.getElem?_set_self hi]
 ·rw [if_neg e]
  simp [List.getD,List.getElem?_set_ne (Ne.symm e)]
theorem RowsAt.put{Z Y:an}{w w':World}{B i:Nat}{Rs:List Rw}(_:RowsAt Z w B Rs)(hi:i<Rs.length){g gc:Nat}{L:List Cl}{wrap:Bool}(hr:RowAt Y w' B g gc L wrap)(ho:¬ Y g/\¬ Y gc)
  (hk:∀ j,j<Rs.length->j≠i->RowAt Y w' B (Rs.getD j r0).g (Rs.getD j r0).gc (Rs.getD j r0).L (Rs.getD j r0).wrap) (BE:∀ j,j<Rs.length->j≠i->¬ Y (Rs.getD j r0).g/\¬ Y (Rs.getD j r0).gc) (ha:∀ j,j<Rs.length->j≠i->g≠(Rs.getD j r0).g/\gc≠(Rs.getD j r0).gc)
  (hb:∀ j k,j<Rs.length->k<Rs.length->j≠k->(Rs.getD j r0).g≠(Rs.getD k r0).g/\(Rs.getD j r0).gc≠(Rs.getD k r0).gc):RowsAt Y w' B (Rs.set i ⟨g,gc,L,wrap⟩):=by
 refine ⟨fun j hj=>?_,fun j hj=>?_,fun j k hj EU hjk=>?_⟩
 ·rw [List.length_set] at hj;rw [cy _ _ _ _ _ hi]
  by_cases e:j=i
  ·rw [if_pos e];exact hr
  ·rw [if_neg e];exact hk j hj e
 ·rw [List.length_set] at hj;rw [cy _ _ _ _ _ hi]
  by_cases e:j=i
  ·rw [if_pos e];exact ho
  ·rw [if_neg e];exact BE j hj e
 ·rw [List.length_set] at hj EU;rw [cy _ _ _ _ _ hi,cy _ _ _ _ _ hi]
  by_cases e:j=i
  ·have e2:k≠i:=fun e2=>hjk (e.trans e2.symm)
   rw [if_pos e,if_neg e2];exact ha k EU e2
  ·rw [if_neg e]
   by_cases e2:k=i
   ·rw [if_pos e2];exact ⟨Ne.symm (ha j hj e).1,Ne.symm (ha j hj e).2⟩
   ·rw [if_neg e2];exact hb j k hj EU hjk
theorem GridY.part{w:World}{B gg gr wd:Nat}{Rs:List Rw}(h:GridY Yo w B gg gr wd Rs):∃ cap,PartAt w B gg wd (.slice (some ⟨gr,0,none⟩) Rs.length cap) (ptrs Rs) Rs:=by
 obtain ⟨Z,cap,h1,h2,h3,h4,h5,h6,h7,h8,_⟩:=h;exact ⟨cap,Z,h1,h2,h3,h4,h5,(fun b e=>by
  have:gr=b:=by simpa [Value.ownBlock] using e
  subst this;exact h6),h7,h8⟩
theorem GridY.put{w w':World}{B gg gr wd i:Nat}{Rs:List Rw}(h:GridY Yo w B gg gr wd Rs)(hi:i<Rs.length)(hb:Below w.heap.size w w'){g gc:Nat}{L:List Cl}{wrap:Bool}(hr:RowAt (fun b=>w.heap.size<=b) w' w.heap.size g gc L wrap)(hl:L.length=wd):GridY Yo (w'.setCell ⟨gr,i,none⟩ (cM (some g))) B gg gr wd (Rs.set i ⟨g,gc,L,wrap⟩)/\(∃ u,w'.cell? ⟨gr,i,none⟩=some u)/\w'.frozen? ⟨gr,i,none⟩=false:=by
 obtain ⟨cap',hp⟩:=h.part;have hap:=hp.apart (b:=gr) rfl;have hlt:=h.lt;obtain ⟨Z,cap,h1,h2,h3,h4,h5,h6,h7,h8,h9,h10⟩:=h;have DB:=hr.lt;have hu:=(Upd.refl (fun b=>b=gr) w').setCell (p:=⟨gr,i,none⟩) (.inl rfl) (cM (some g));have h4':=h4.below hb;have hcc:=jy h4' i (by rw [bn];exact hi);refine ⟨?_,⟨_,hcc.1⟩,hcc.2⟩;have hpt:=oR h4' i (by rw [bn];exact hi) (some g);have he:(ptrs Rs).set i (some g)=ptrs (Rs.set i ⟨g,gc,L,wrap⟩):=by unfold ptrs;rw [List.map_set]
 rw [he] at hpt;have E5:=hu.keep.has (h2.below hb h2.lt) (fun e=>hap.1 e);refine ⟨fun b=>Z b\/(w.heap.size<=b/\b<w'.heap.size/\b≠g/\b≠gc),cap,fun b hz=>?_,by rw [List.length_set];exact E5,h3,by rw [List.length_set];exact hpt,?_,?_,?_,fun j hj=>?_,by rw [List.length_set];exact h9,by rw [List.length_set];exact h10.1,fun x hx=>h10.2 x (by
  have:=hb.size;have:=hu.size
  rcases hx with (hz | hz) | hz
  ·exact .inl hz
  ·exact .inr hz.1
  ·exact .inr (by omega))⟩
 ·have:=hu.size
  rcases hz with hz | hz
  ·have:=h1 b hz;have:=hb.size;omega
  ·omega
 ·rintro (hz | hz)
  ·exact h5 hz
  ·omega
 ·rintro (hz | hz)
  ·exact h6 hz
  ·omega
 ·refine h7.put hi ((hr.tight.base (B':=B) (by omega)).keep (hu.keep.mono fun b _ hz=>?_) fun b _ hz=>.inr hz) ?_ (fun j hj hne=>?_) (fun j hj hne=>?_) (fun j hj hne=>?_) h7.apart
  ·rcases hz with hz | hz | hz <;> omega
  ·exact ⟨fun hz=>by rcases hz with hz | hz;have:=h1 _ hz;omega;exact hz.2.2.1 rfl,fun hz=>by rcases hz with hz | hz;have:=h1 _ hz;omega;exact hz.2.2.2 rfl⟩
  ·exact ((h7.row j hj).below hb).keep (hu.keep.mono fun b _ hz=>by
    rcases hz with hz | rfl | rfl
    ·exact fun e=>h6 (e ▸ hz)
    ·exact (hap.2 j hj).1
    ·exact (hap.2 j hj).2) fun b _ hz=>.inl hz
  ·have:=h7.lt j hj;exact ⟨fun hz=>by rcases hz with hz | hz;exact (h7.out j hj).1 hz;omega,fun hz=>by rcases hz with hz | hz;exact (h7.out j hj).2 hz;omega⟩
  ·have:=h7.lt j hj;exact ⟨by omega,by omega⟩
 ·rw [List.length_set] at hj;rw [cy _ _ _ _ _ hi]
  by_cases e:j=i
  ·rw [if_pos e];exact hl
  ·rw [if_neg e];exact h8 j hj
theorem nd(B gg gr wd i:Nat)(Rs:List Rw)(b:Bool)(w:World)(h:GridY Yo w B gg gr wd Rs)(hi:i<Rs.length):Calls Tryz.prog 71 #[.pointer (some ⟨(Rs.getD i r0).g,0,none⟩),.bool b] w fun e w'=>e=.returned (.tuple #[])/\GridY Yo w' B gg gr wd (Rs.set i ⟨(Rs.getD i r0).g,(Rs.getD i r0).gc,(Rs.getD i r0).L,b⟩)/\Upd (fun x=>x=(Rs.getD i r0).g\/x=(Rs.getD i r0).gc) w w':=by
 obtain ⟨cap',hp⟩:=h.part;have hap:=hp.apart (b:=gr) rfl;have Na:=hp.gapart;obtain ⟨Z,cap,h1,h2,h3,h4,h5,h6,h7,h8,h9,h10⟩:=h;refine (uF Z B _ _ _ _ b w (h7.row i hi)).mono ?_;rintro e w' ⟨rfl,hr,hu⟩;refine ⟨rfl,⟨Z,cap,fun b hz=>⟨(h1 b hz).1,Nat.lt_of_lt_of_le (h1 b hz).2 hu.size⟩,?_,h3,?_,h5,h6,?_,fun j hj=>?_,by rw [List.length_set];exact h9,by rw [List.length_set];exact h10.1,fun x hx=>h10.2 x (hx.imp id (Nat.le_trans hu.size))⟩,hu⟩
 ·rw [List.length_set];exact hu.keep.has h2 (fun e=>by rcases e with e | e;exact (Na i hi).1 e.symm;exact (Na i hi).2 e.symm)
 ·have he:ptrs (Rs.set i ⟨(Rs.getD i r0).g,(Rs.getD i r0).gc,(Rs.getD i r0).L,b⟩)=ptrs Rs:=by
   unfold ptrs;rw [List.map_set]
   apply List.ext_getElem?
   intro j
   by_cases e:j=i
   ·subst e;rw [List.getElem?_set_self (by rw [List.length_map];exact hi)]
    simp [List.getD,List.getElem?_eq_getElem hi]
   ·rw [List.getElem?_set_ne (Ne.symm e)]
  rw [he,List.length_set];exact cS (hu.keep.own h4.ptrs fun b hb e=>by
   have:gr=b:=by simpa [Value.ownBlock] using hb
   subst this
   rcases e with e | e
   ·exact (hap.2 i hi).1 e.symm
   ·exact (hap.2 i hi).2 e.symm)
 ·refine h7.put hi hr (h7.out i hi) (fun j hj hne=>(h7.row j hj).upd hu (fun b hz e=>by rcases e with e | e;exact (h7.out i hi).1 (e ▸ hz);exact (h7.out i hi).2 (e ▸ hz)) (fun e=>by rcases e with e | e;exact (h7.apart j i hj hi hne).1 e;exact h7.cross j i hj hi e) (fun e=>by rcases e with e | e;exact h7.cross i j hi hj e.symm;exact (h7.apart j i hj hi hne).2 e)) (fun j hj _=>h7.out j hj) (fun j hj hne=>h7.apart i j hi hj (Ne.symm hne)) h7.apart
 ·rw [List.length_set] at hj;rw [cy _ _ _ _ _ hi]
  by_cases e:j=i
  ·rw [if_pos e];exact h8 i hi
  ·rw [if_neg e];exact h8 j hj
theorem uz(gg:Nat)(v:Option Addr)(n cap:Nat)(w:World)(c1:w.cell? ⟨gg,1,none⟩=some (.slice v n cap)):Calls Tryz.prog 95 #[.pointer (some ⟨gg,0,none⟩)] w fun e w'=>e=.returned (.int .i64 n)/\w=w':=by
 go_enter Tryz.func95,Tryz.ntmps95
 go_wp2;go_ret;exact ⟨af,rfl⟩
theorem xt(gg gr wd n cap i:Nat)(Zr:an)(Br g gc:Nat)(L:List Cl)(wrap:Bool)(w:World)(c0:w.cell? ⟨gg,0,none⟩=some (.int .i64 wd))(c1:w.cell? ⟨gg,1,none⟩=some (.slice (some ⟨gr,0,none⟩) n cap))(Cd:n<=cap)(u:Value)(cr:w.cell? ⟨gr,i,none⟩=some u)(fr:w.frozen? ⟨gr,i,none⟩=false)(hi:i<n)(hn:n<=1024)(hr:RowAt Zr w Br g gc L wrap)(hl:L.length=wd) :
  Calls Tryz.prog 174 #[.pointer (some ⟨gg,0,none⟩),.int .i64 i,.pointer (some ⟨g,0,none⟩)] w fun e w'=>e=.returned (.bool true)/\∃ w1,Below w.heap.size w w1/\w'=w1.setCell ⟨gr,i,none⟩ (cM (some g)):=by
 have HH:=ab (fun u:Growth w=>uz gg _ n cap (ext w u) (aj c1 u));have HW:=ab (fun u:Growth w=>nh _ _ g gc L wrap (ext w u) (hr.below u.ok));rw [hl] at HW;have hgr:=World.block_lt_of_cell? w ⟨gr,i,none⟩ cr;have d0:=aj c0;have d1:=aj c1;have d2:=aj cr;have d3:=aD hgr fr;have Ff:decide ((i:Int)<0)=false:=ai (by omega);have Gh:decide ((n:Int)<=i)=false:=ai (by omega);have Jl:decide (n<=i)=false:=ai (by omega);have hne:((wd:Int) != (wd:Int))=false:=by simp
 clear hr hl c0 c1 cr fr hgr
 go_enter Tryz.func174,Tryz.ntmps174
 go_wp2;refine aJ (by kernel_rfl) (by kernel_rfl) ?_
 repeat (go_big_quiet_step (((first | (go_at_call 95;exact aG (HH.out _)) | (go_at_call 70;exact aG (HW.out _))))))
 refine wpQuiet_nil ?_;intro _ hw';obtain ⟨u,hw''⟩:=hw';subst hw'';have hb:=u.ok;have e1:=d1 u;have e2:=d2 u;have e3:=d3 u;obtain ⟨w1,Da⟩:=ae (ext w u);have HB:=ab (show Below w.heap.size w w1 by rw [Da];exact u.ok);rw [<-Da] at e1 e2 e3 ⊢;clear Da hb d0 d1 d2 d3 Gh Jl hne;go_wp2;go_ret;exact ⟨af,w1,HB.out,rfl⟩
end
theorem dq{w:World}{B g n c:Nat}(h:w.ownsRow B 147 2 (.slice (some ⟨g,0,none⟩) n c) n (madeCells (Value.agg #[.int .i64 0,.slice none 0 0]).cells (n * 2)).toList):HeldE cellE (fun b=>b=g) w (.slice (some ⟨g,0,none⟩) n c) (List.replicate n zc):=by
 have h2:=(nk (Z:=fun _=>True) h).held (Z:=fun _=>True) (fun _ _ _=>trivial);obtain ⟨ao,cap,e,h3,h4,h5,h6⟩:=h2;refine ⟨ao,cap,e,h3,h4,h5,fun i hi=>?_⟩;obtain ⟨b,off,e1,hb,_,C,hC,hr⟩:=h6 i hi;subst e1;simp only [Value.slice.injEq,Option.some.injEq,Addr.mk.injEq] at e;obtain ⟨⟨rfl,rfl,_⟩,_⟩:=e;rw [List.length_replicate] at hi;rw [show (List.replicate n zc).getD i cellE.zero=zc from by simp [List.getD,List.getElem?_replicate,hi]] at hr ⊢;obtain ⟨tv,rfl,ht⟩:=cell_rep.1 hr;refine ⟨g,0,rfl,hb,rfl,_,hC,cell_rep.2 ⟨tv,rfl,?_⟩⟩;obtain ⟨a,c2,rfl,k1,k2,k3,_⟩:=ht;exact ⟨a,c2,rfl,k1,k2,k3,fun j hj=>absurd hj (Nat.not_lt_zero _)⟩
def jB(a b:List Ln):Bool:=decide (a=b)
theorem rU(a:List Ln):jB a a=true:=by simp [jB]
theorem xI{a b:List Ln}(hl:b.length=a.length)(h:∀ j,j<a.length->a.getD j zl=b.getD j zl):jB a b=true:=by
 unfold jB;rw [decide_eq_true_eq]
 apply List.ext_getElem hl.symm
 intro i h1 h2;have:=h i h1
 simpa [List.getD,List.getElem?_eq_getElem h1,List.getElem?_eq_getElem h2] using this
theorem uL{a b:List Ln}(j:Nat)(h:a.getD j zl≠b.getD j zl):jB a b=false:=by
 unfold jB;rw [decide_eq_false_iff_not];rintro rfl;exact h rfl
theorem uM{a b:List Ln}(h:¬ b.length=a.length):jB a b=false:=by
 unfold jB;rw [decide_eq_false_iff_not];rintro rfl;exact h rfl
def AlikeL(a b:List Ln)(k:Nat):Prop:=∀ j,j<k->a.getD j zl=b.getD j zl
theorem AlikeL.next{a b:List Ln}{k:Nat}(h:AlikeL a b k)(e:a.getD k zl=b.getD k zl):AlikeL a b (k+1):=by
 intro j hj
 by_cases e':j=k
 ·subst e';exact e
 ·exact h j (by omega)
theorem rV(Z Y:an)(v u:Value)(a b:List Ln)(w:World)(hx:HeldE lineE Z w v a)(hy:HeldE lineE Y w u b):Calls Tryz.prog 78 #[v,u] w (Gives w (.bool (jB a b))):=by
 have Pa:=hx.max;obtain ⟨ao,ca,rfl⟩:=hx.len;obtain ⟨bo,cb,rfl⟩:=hy.len;obtain ⟨_,_,hc⟩:=fo hx;obtain ⟨_,_,hd⟩:=fo hy;have HC:=ab hc;have HD:=ab hd;clear hc hd hx hy
 by_cases hl:b.length=a.length
 ·have HL:=ab hl;rw [hl];clear hl
  go_enter Tryz.func78,Tryz.ntmps78
  go_wp2
  go_loopw [5] (fun i wr=>∃ k:Nat,k<=a.length/\i=.int .i64 k/\AlikeL a b k/\Below w.heap.size w wr) (fun i _=>a.length - (intOf i).toNat)
  case atStart=>exact ⟨0,Nat.zero_le _,rfl,(fun j hj=>by omega),Below.refl _ _⟩
  case round =>
   obtain ⟨k,hk,rfl,J4,AY⟩:=hrel;have HA:=ab J4;have Bf:=ab AY;clear J4 AY
   by_cases hlt:k<a.length
   ·obtain ⟨b1,o1,tv,rfl,hb1,_,c0,c1,hh⟩:=HC.out k hlt;obtain ⟨b2,o2,tu,rfl,hb2,_,d0,d1,hi⟩:=HD.out k (by rw [HL.out];exact hlt);have c0:=(Bf.out.cell (p:=⟨b1,o1+k * 2,none⟩) hb1).trans c0;have c1:=(Bf.out.cell (p:=⟨b1,o1+k * 2+1,none⟩) hb1).trans c1;have d0:=(Bf.out.cell (p:=⟨b2,o2+k * 2,none⟩) hb2).trans d0;have d1:=(Bf.out.cell (p:=⟨b2,o2+k * 2+1,none⟩) hb2).trans d1;have Jw:=HA.out.next;have hno:=uL (a:=a) (b:=b) k;obtain ⟨⟨T,K⟩,EV⟩ : ∃ y,y=a.getD k zl:=⟨_,rfl⟩;obtain ⟨⟨T',K'⟩,J0⟩ : ∃ y,y=b.getD k zl:=⟨_,rfl⟩;rw [<-EV] at c1 hh Jw hno;rw [<-J0] at d1 hi Jw hno;simp only at c1 hh d1 hi;have HH:=ab (hh.below Bf.out);have HI:=ab (hi.below Bf.out);have Co:=ab Jw;have OA:=ab hno;clear EV J0 hh hi Jw hno;obtain ⟨wk,Kt⟩:=ae (wr);subst Kt;have c0:=aj c0;have c1:=aj c1;have d0:=aj d0;have d1:=aj d1
    by_cases hk:K=K'
    ·subst hk;have EU:(K != K)=false:=by simp
     have HQ:=ab (fun u:Growth wk=>rT _ _ tv tu T T' (ext wk u) (HH.out.below u.ok) (HI.out.below u.ok))
     cases hs:kC T T' with
     |true =>
      have HS:=ab hs;rw [hs] at HQ;clear hs EU
      cases K
      all_goals
       go_wp2;refine aJ (by kernel_rfl) (by kernel_rfl) ?_
       repeat (go_big_quiet_step (((go_at_call 146;exact ei (HQ.out _)))))
       refine wpQuiet_nil ?_;intro _ hw';obtain ⟨u,hw''⟩:=hw';subst hw'';have HE:=ab (aU Bf.out u);go_wp2
       go_roundw
       case rel=>exact ⟨k+1,by omega,by go_num,Co.out (by have:=of_decide_eq_true HS.out;rw [this]),HE.out⟩
       case measure=>simp [intOf];omega
     |false =>
      have HS:=ab hs;rw [hs] at HQ;clear hs EU
      cases K
      all_goals
       go_wp2;refine aJ (by kernel_rfl) (by kernel_rfl) ?_
       repeat (go_big_quiet_step (((go_at_call 146;exact ei (HQ.out _)))))
       refine wpQuiet_nil ?_;intro _ hw';obtain ⟨u,hw''⟩:=hw';subst hw'';have HE:=ab (aU Bf.out u);go_wp2;go_ret;exact ⟨al (by rw [OA.out (fun e=>of_decide_eq_false HS.out (congrArg Prod.fst e))];try rfl),HE.out⟩
    ·have HK:=ab hk;clear hk
     cases K <;> cases K' <;> first | exact absurd rfl HK.out | skip
     all_goals
      go_wp2;refine aJ (by kernel_rfl) (by kernel_rfl) ?_
      repeat (go_big_quiet_step ((fail)))
      refine wpQuiet_nil ?_;intro _ hw';obtain ⟨u,hw''⟩:=hw';subst hw'';have HE:=ab (aU Bf.out u);go_wp2;go_ret;exact ⟨al (by rw [OA.out (fun e=>HK.out (congrArg Prod.snd e))];try rfl),HE.out⟩
   ·obtain rfl:k=a.length:=by omega
    have E:=ab (xI HL.out HA.out);go_wp2;go_ret;exact ⟨al (by rw [E.out];try rfl),Bf.out⟩
 ·have E:=ab (uM hl);have hl2:¬ a.length=b.length:=fun h=>hl h.symm
  go_enter Tryz.func78,Tryz.ntmps78
  go_wp2;go_ret;exact ⟨al (by rw [E.out];try rfl),Below.refl _ _⟩
def fM(n0:Nat)(l:Ln):Nat:=if l.1.length=0\/1024<l.1.length then 3 else if bz l.1=false then 5 else if l.1.length≠n0 then 3 else 0
def ft(Ls:List Ln):Nat:=(Ls.getD 0 zl).1.length
def sK(Ls:List Ln):Prop:=∀ k,k<Ls.length->fM (ft Ls) (Ls.getD k zl)=0
def ma(Ls:List Ln)(i c:Nat):Prop:=i<Ls.length/\(∀ j,j<i->fM (ft Ls) (Ls.getD j zl)=0)/\fM (ft Ls) (Ls.getD i zl)=c/\c≠0
theorem np{Ls:List Ln}{k i c:Nat}(hk:k<Ls.length)(h:∀ j,j<k->fM (ft Ls) (Ls.getD j zl)=0)(hn:fM (ft Ls) (Ls.getD k zl)≠0)(hb:ma Ls i c):i=k/\c=fM (ft Ls) (Ls.getD k zl):=by
 obtain ⟨h1,h2,h3,h4⟩:=hb
 rcases Nat.lt_trichotomy i k with hl | rfl | hl
 ·exact absurd (h3.symm.trans (h i hl)) h4
 ·exact ⟨rfl,h3.symm⟩
 ·exact absurd (h2 k hl) hn
def WrongTold(w:World)(Ls:List Ln)(e:Ending)(w':World):Prop:=(sK Ls->e=.returned (.tuple #[.int .i64 (-1),.int .i64 0]))/\(∀ i c:Nat,ma Ls i c->e=.returned (.tuple #[.int .i64 i,.int .i64 c]))/\Below w.heap.size w w'
theorem WrongTold.bad{w w':World}{Ls:List Ln}{k c:Nat}(hk:k<Ls.length)(h:∀ j,j<k->fM (ft Ls) (Ls.getD j zl)=0)(hc:fM (ft Ls) (Ls.getD k zl)=c)(hn:c≠0)(hb:Below w.heap.size w w'):WrongTold w Ls (.returned (.tuple #[.int .i64 k,.int .i64 c])) w':=by
 refine ⟨fun hg=>absurd (hc.symm.trans (hg k hk)) hn,fun i c' hf=>?_,hb⟩;obtain ⟨rfl,rfl⟩:=np hk h (by rw [hc];exact hn) hf;rw [hc]
theorem zw(W N:Nat)(hW:W<=1024)(hN:N<=1024)(w:World):Calls Tryz.prog 87 #[.int .i64 W,.int .i64 N] w (fp lineE (fun b=>w.heap.size<=b) 104 w (List.replicate N (List.replicate W zc,false))):=by
 obtain ⟨i0,hi,hz0,hz1,hz2⟩:=info_parts cF;have HI:=ab (And.intro hi (And.intro hz0 (And.intro hz1 hz2)));clear hi hz0 hz1 hz2
 go_enter Tryz.func87,Tryz.ntmps87
 go_wp2
 go_loopw [5,6] (fun t i wr=>∃ k:Nat,k<=N/\i=.int .i64 k/\OwnE lineE (fun b=>w.heap.size<=b) wr w.heap.size 104 t (List.replicate k (List.replicate W zc,false))/\Below w.heap.size w wr) (fun _ i _=>N - (intOf i).toNat)
 case atStart=>exact ⟨0,Nat.zero_le _,rfl,OwnE.nil _ _ _ _ _,Below.refl _ _⟩
 case round =>
  obtain ⟨k,hk,rfl,hown,AY⟩:=hrel;have Bf:=ab AY;have HO:=ab hown;clear AY hown;obtain ⟨t,NN⟩:=ae (u5);rw [<-NN] at HO ⊢;clear NN
  by_cases hlt:k<N
  ·go_wp2_with (at_make;refine wpList_make_full wr rfl (.tmp 13) (.tmp 13) 102 rfl w.heap.size 147 i0 (.agg #[.int .i64 0,.slice none 0 0]) 2 Tryz.underlying102 HI.out.1 HI.out.2.1 HI.out.2.2.1 .i64 .i64 _ _ W rfl rfl rfl rfl (by rw [HI.out.2.2.2];omega) (by unfold maxLen;omega) Bf.out.size ?_)
   intro w1 hown1 hg1;have b1:Below wr.heap.size wr w1:=(Below.refl _ _).grown hg1 (Nat.le_refl _) (by intro k hk;cases hk);have hw0:=Bf.out.size;have hc1:HeldE cellE (fun b=>b=wr.heap.size) w1 (.slice (some ⟨wr.heap.size,0,none⟩) W W) (List.replicate W zc):=dq hown1;have BJ:=HO.out.lt;have hs:List.replicate (k+1) ((List.replicate W zc,false):Ln)=List.replicate k (List.replicate W zc,false)++[(List.replicate W zc,false)]:=List.replicate_succ';obtain ⟨P0,hP⟩:=ae (List.replicate k ((List.replicate W zc,false):Ln));have hpl:P0.length<=1024:=by rw [hP,List.length_replicate];omega
   rw [<-hP] at HO hs;obtain ⟨Q,hQ⟩:=ae (List.replicate (k+1) ((List.replicate W zc,false):Ln));rw [<-hQ] at hs;have HS:=ab hs;have HQ:=ab hQ;have b2:=AU w1 (.cells [Value.slice (some ⟨wr.heap.size,0,none⟩) W W,.bool false].toArray 104);have HX:=ab (show HeldE lineE (fun b=>w.heap.size<=b/\t.ownBlock≠some b) (w1.alloc (.cells [Value.slice (some ⟨wr.heap.size,0,none⟩) W W,.bool false].toArray 104)) (.slice (some ⟨w1.heap.size,0,none⟩) 1 1) [(List.replicate W zc,false)] from aT (Y:=fun b=>b=wr.heap.size) [Value.slice (some ⟨wr.heap.size,0,none⟩) W W,.bool false] (List.replicate W zc,false) (line_rep.2 ⟨_,rfl,hc1⟩) (fun b _ e=>⟨by first | omega | (have h9:=b1.size;omega) | (have e9:b=wr.heap.size:=‹_›;omega) | (subst_vars;omega),fun e2=>by have:=(BJ _ e2).2;omega⟩) ⟨by first | omega | (have h9:=b1.size;omega) | (have e9:b=wr.heap.size:=‹_›;omega) | (subst_vars;omega),fun e2=>by have:=(BJ _ e2).2;have:=b1.size;omega⟩);have Hm:=ab ((HO.out.below b1).below b2);have BY:=ab ((Bf.out.trans (b1.mono Bf.out.size)).trans (b2.mono (Nat.le_trans Bf.out.size b1.size)));clear hown1 hg1 b1 b2 hc1 BJ hP hQ hs HO
   go_wp2_with (at_builtin;refine ax (E:=lineE) (Z:=fun b=>w.heap.size<=b) rfl (.tmp 12) (.tmp 16) 22 rfl (.agg #[.slice none 0 0,.bool false]) 32 Tryz.underlying22 bS rfl (by decide) rfl rfl Hm.out HX.out (by simp only [List.length_singleton];omega) (by simp only [List.length_singleton];omega) BY.out.size ?_)
   intro v3 w3 Fi hb3 _ _;rw [<-HS.out,HQ.out] at Fi;have H2:=ab Fi;have H3:=ab (BY.out.trans hb3);clear Fi hb3;go_wp2
   go_roundw
   case rel=>exact ⟨k+1,by omega,by go_num,H2.out,H3.out⟩
   case measure=>simp [intOf] <;> omega
  ·obtain rfl:k=N:=by omega
   go_wp2;go_ret;exact ⟨_,rfl,HO.out,Bf.out⟩
def iW(n at_:Int)(p:List Cl):Int:=if at_<0\/n<at_\/n - at_<p.length then 3 else if bz p=true then 0 else 5
theorem kH(Z Y:an)(B g gc:Nat)(L p:List Cl)(wrap:Bool)(v:Value)(w:World)(h:RowAt Z w B g gc L wrap)(hv:HeldE cellE Y w v p)(hY:∀ b,Y b->b≠g/\b≠gc)(hZ:∀ b,w.heap.size<=b->Z b)(a:Nat)(hle:a+p.length<=L.length)(hp:bz p=true) :
  Calls Tryz.prog 188 #[.pointer (some ⟨g,0,none⟩),.int .i64 a,v] w (jA Z B g gc w (aN L p a) (wrap && !a8 L p a)):=by
 cases p with
 |nil =>
  rw [rz,oI,Bool.not_false,Bool.and_true];exact qi Z Y B g gc L wrap v w h hv a (by simpa using hle)
 |cons c p=>exact uK Z Y B g gc L (c :: p) wrap v w h hv hY hZ a hle hp (by simp)
theorem rY{n:Nat}{at_:Int}{p:List Cl}(h:iW n at_ p=0):∃ a:Nat,at_=a/\a+p.length<=n/\bz p=true:=by
 unfold iW at h
 split at h
 ·cases h
 ·rename_i h1
  split at h
  ·rename_i h2
   obtain ⟨a,rfl⟩:=Int.eq_ofNat_of_zero_le (show 0<=at_ by omega);exact ⟨a,rfl,by omega,h2⟩
  ·cases h
theorem Ad(Z Y:an)(B g gc:Nat)(L:List Cl)(wrap:Bool)(col wide:Int)(v:Value)(xs:List Int)(w:World)(hZ:∀ b,w.heap.size<=b->Z b)(h:RowAt Z w B g gc L wrap)(hv:HeldE (aF .i32) Y w v xs)(hg:iW L.length col (ofC wide xs)=0) :
  Calls Tryz.prog 115 #[.pointer (some ⟨g,0,none⟩),.int .i64 col,.int .i64 wide,v] w (jA Z B g gc w (aN L (ofC wide xs) col.toNat) (wrap && !a8 L (ofC wide xs) col.toNat)):=by
 obtain ⟨a,rfl,Pa,hsp⟩:=rY hg;rw [Int.toNat_natCast];have hlt:=h.lt;have HGL:=ab hlt;have HR:=ab h;have HO:=ab (zq (fun b=>b≠g/\b≠gc) Y wide v xs w (fun b hb=>by omega) hv);have Qs:=ab Pa;have HZ:=ab hZ;have NQ:=ab hsp;have hvm:=hv.max;obtain ⟨ao,ca,rfl⟩:=hv.len;clear h hg hlt Pa hsp hv hZ
 go_enter Tryz.func115,Tryz.ntmps115
 go_wp2_with fail
 refine HO.out.mono ?_;rintro e w1 ⟨v1,rfl,BX,b1⟩;have HH:=ab (BX.held (fun b hb _=>by have:=HGL.out;exact ⟨by omega,by omega⟩));have HU:=ab (Upd.ofBelow (S:=fun b=>b=g\/b=gc) b1);have LG:=ab (HR.out.below b1);have Fd:=ab b1.size;clear BX b1
 go_wp2_with fail
 refine (kH _ _ _ g gc L _ wrap _ w1 LG.out HH.out (fun _ h=>h) (fun b hb=>HZ.out b (Nat.le_trans Fd.out hb)) a Qs.out NQ.out).mono ?_;rintro e w2 ⟨rfl,hr2,u2⟩;have HE:=ab (And.intro hr2 (HU.out.trans u2));clear hr2 u2;go_wp2;go_ret;exact ⟨rfl,HE.out.1,HE.out.2⟩
theorem rW{n:Nat}{a:Nat}{p:List Cl}(h:a+p.length<=n)(hs:bz p=true):iW n (a:Int) p=0:=by
 unfold iW;rw [if_neg (by omega),if_pos hs]
def Turned3Z(Z:an)(w:World)(B g gc:Nat)(r:List Cl × Bool × Bool)(e:Ending)(w':World):Prop:=e=.returned (.bool r.2.2)/\RowAt Z w' B g gc r.1 r.2.1/\Upd (fun b=>b=g\/b=gc) w w'
def Turned3(w:World)(B g gc:Nat)(r:List Cl × Bool × Bool)(e:Ending)(w':World):Prop:=e=.returned (.bool r.2.2)/\RowAt (fun _=>True) w' B g gc r.1 r.2.1/\Upd (fun b=>b=g\/b=gc) w w'
theorem Turned3Z.same{Z:an}{w w':World}{B g gc:Nat}{L:List Cl}{wrap:Bool}(h:RowAt Z w B g gc L wrap)(b:Below w.heap.size w w'):Turned3Z Z w B g gc (L,wrap,false) (.returned (.bool false)) w':=⟨rfl,h.below b,.ofBelow b⟩
theorem Turned3.same{w w':World}{B g gc:Nat}{L:List Cl}{wrap:Bool}(h:RowAt (fun _=>True) w B g gc L wrap)(b:Below w.heap.size w w'):Turned3 w B g gc (L,wrap,false) (.returned (.bool false)) w':=⟨rfl,h.below b,.ofBelow b⟩
theorem RowAt.lower{Z:an}{w:World}{B g gc:Nat}{L:List Cl}{wrap:Bool}(h:RowAt Z w B g gc L wrap):RowAt (fun b=>b<w.heap.size) w B g gc L wrap:=h.keep (.refl _ _) fun b hb _=>hb
theorem RowAt.any{Z:an}{w:World}{B g gc:Nat}{L:List Cl}{wrap:Bool}(h:RowAt Z w B g gc L wrap):RowAt (fun _=>True) w B g gc L wrap:=h.keep (.refl _ _) fun b hb _=>trivial
section
section
variable {w w' : World} {B gg wd : Nat} {v v' : Value} {Xs Xs' : List (Option Nat)} {Rs : List Rw}
theorem PartAt.grow(h:PartAt w B gg wd v Xs Rs)(ho:OwnE ptrE (fun _=>True) w' B 113 v' Xs')(hb:Below B w w')(hk:KeepZ (fun b=>v.ownBlock≠some b) w w')(hd:∀ b,b<w.heap.size->v.ownBlock≠some b->v'.ownBlock≠some b):PartAt (w'.setCell ⟨gg,1,none⟩ v') B gg wd v' Xs' Rs/\w'.cell? ⟨gg,1,none⟩=some v/\w'.frozen? ⟨gg,1,none⟩=false:=by
 have hlt:=h.lt;have hga:v.ownBlock≠some gg:=fun e=>(h.apart e).1 rfl
 have hro:∀ i,i<Rs.length->v.ownBlock≠some (Rs.getD i r0).g/\v.ownBlock≠some (Rs.getD i r0).gc:=fun i hi=>⟨fun e=>((h.apart e).2 i hi).1 rfl,fun e=>((h.apart e).2 i hi).2 rfl⟩
 have Na:=h.gapart;obtain ⟨Z,h1,h2,h3,h4,h5,h6,h7,h8⟩:=h;have Kf:=hk.has h2 hga;have hu:Upd (fun b=>v.ownBlock=some b) w w':=⟨hb.os,hb.tape,hb.output,hk.size,fun b hb' hn=>hk.block b hb' hn⟩;have h7':=h7.upd hu (fun b hz e=>h6 b e hz) (fun i hi=>hro i hi);have Fq:=(Upd.refl (fun b=>b=gg) w').setCell (p:=⟨gg,1,none⟩) (.inl rfl) v';have hvg:∀ b,v'.ownBlock=some b->b≠gg:=fun b e e2=>by
  obtain ⟨C,hC⟩:=gZ ho e;rw [e2] at hC;exact aH Kf hC (by decide)
 refine ⟨⟨Z,fun b hz=>⟨(h1 b hz).1,Nat.lt_of_lt_of_le (h1 b hz).2 (Nat.le_trans hk.size Fq.size)⟩,?_,h3,cS (Fq.keep.own ho.ptrs fun b e=>hvg b e),h5,fun b e hz=>?_,h7'.upd Fq (fun b hz e=>h5 (e ▸ hz)) (fun i hi=>Na i hi),h8⟩,Kf.cell 1 _ rfl,Kf.free 1⟩
 ·have:=Kf.set 1 v'
  simpa using this
 ·by_cases e2:v.ownBlock=some b
  ·exact h6 b e2 hz
  ·exact hd b (h1 b hz).2 e2 e
end
def OfTold(sa:Nat->Addr)(w:World)(Ls:List Ln)(e:Ending)(w':World):Prop:=(sK Ls->∃ gg gr Rs,e=.returned (.tuple #[.pointer (some ⟨gg,0,none⟩),.nilIface])/\lY w' w.heap.size gg gr (ft Ls) Rs/\Rs.map aO=Ls)/\(∀ i c:Nat,ma Ls i c->∃ u,e=.returned (.tuple #[.pointer none,u])/\F.IsErr sa w' u [(i:Int)] c)/\Below w.heap.size w w'
theorem OfTold.bad{sa:Nat->Addr}{w w':World}{Ls:List Ln}{k c:Nat}{u:Value}(hk:k<Ls.length)(h:∀ j,j<k->fM (ft Ls) (Ls.getD j zl)=0)(hc:fM (ft Ls) (Ls.getD k zl)=c)(hn:c≠0)(he:F.IsErr sa w' u [(k:Int)] c)(hb:Below w.heap.size w w'):OfTold sa w Ls (.returned (.tuple #[.pointer none,u])) w':=by
 refine ⟨fun hg=>absurd (hc.symm.trans (hg k hk)) hn,fun i c' hf=>?_,hb⟩;obtain ⟨rfl,rfl⟩:=np hk h (by rw [hc];exact hn) hf;exact ⟨u,rfl,by rw [hc];exact he⟩
end
def GridM(M:Nat)(w:World)(B gg gr wd:Nat)(Rs:List Rw):Prop :=
 M<=w.heap.size/\∃ (Z:an) (cap:Nat),(∀ b,Z b->B<=b/\b<M)/\gg<M/\gr<M/\(∀ i,i<Rs.length->(Rs.getD i r0).g<M/\(Rs.getD i r0).gc<M)/\Has w gg [.int .i64 wd,.slice (some ⟨gr,0,none⟩) Rs.length cap] 119/\B<=gg/\OwnE ptrE (fun _=>True) w B 113 (.slice (some ⟨gr,0,none⟩) Rs.length cap) (ptrs Rs)/\¬ Z gg/\¬ Z gr/\RowsAt Z w B Rs/\(∀ i,i<Rs.length->(Rs.getD i r0).L.length=wd)/\0<Rs.length/\Rs.length<=1024
theorem GridM.at{M:Nat}{w:World}{B gg gr wd:Nat}{Rs:List Rw}(h:GridM M w B gg gr wd Rs):lY w B gg gr wd Rs:=by
 obtain ⟨hM,Z,cap,h1,k1,k2,k3,h2,h3,h4,h5,h6,h7,h8,h9,h10⟩:=h;exact ⟨Z,cap,fun b hz=>⟨(h1 b hz).1,Nat.lt_of_lt_of_le (h1 b hz).2 hM⟩,h2,h3,h4,h5,h6,h7,h8,h9,h10,fun _ _=>trivial⟩
theorem GridM.keep{M:Nat}{S:an}{w w':World}{B gg gr wd:Nat}{Rs:List Rw}(h:GridM M w B gg gr wd Rs)(hu:Upd S w w')(hs:∀ b,B<=b->b<M->¬ S b):GridM M w' B gg gr wd Rs:=by
 obtain ⟨hM,Z,cap,h1,k1,k2,k3,h2,h3,h4,h5,h6,h7,h8⟩:=h;have hk:=hu.keep;refine ⟨Nat.le_trans hM hu.size,Z,cap,h1,k1,k2,k3,hk.has h2 (hs _ h3 k1),h3,?_,h5,h6,h7.upd hu (fun b hz=>hs b (h1 b hz).1 (h1 b hz).2) (fun i hi=>⟨hs _ (h7.lt i hi).2.2.2 (k3 i hi).1,hs _ (h7.lt i hi).2.2.1 (k3 i hi).2⟩),h8⟩;exact cS (hk.own h4.ptrs fun b hb=>by
  have:gr=b:=by simpa [Value.ownBlock] using hb
  subst this;exact hs _ (h4.lt gr rfl).1 k2)
theorem GridM.below{M:Nat}{w w':World}{B gg gr wd:Nat}{Rs:List Rw}(h:GridM M w B gg gr wd Rs)(hb:Below w.heap.size w w'):GridM M w' B gg gr wd Rs:=h.keep (S:=fun _=>False) (.ofBelow hb) fun _ _ _ e=>e
section
variable {Yo : an}
def bD(n:Nat)(a:Int):Nat:=(min (max a 0) n).toNat
theorem fm(n:Nat)(a:Int):bD n a<=n:=by unfold bD;omega
def cB(n:Nat)(a b k:Int):Int:=min k ((bD n b:Int) - bD n a)
theorem lU(p:Value)(n:Nat)(hn:n<=1024)(a b k:Int)(w:World)(hh:Calls Tryz.prog 95 #[p] w fun e w'=>e=.returned (.int .i64 n)/\w=w'):Calls Tryz.prog 263 #[p,.int .i64 a,.int .i64 b,.int .i64 k] w fun e w'=>e=.returned (.tuple #[.int .i64 (bD n a),.int .i64 (bD n b),.int .i64 (cB n a b k)])/\w=w':=by
 have HH:=ab hh;have h1:min (max a 0) (n:Int)=(bD n a:Int):=by unfold bD;omega
 have h2:min (max b 0) (n:Int)=(bD n b:Int):=by unfold bD;omega
 have E0:=fm n a;have hl2:=fm n b;have H3:=ab (show cB n a b k=min k ((bD n b:Int) - bD n a) from rfl);obtain ⟨f,hf⟩:=ae (bD n a);obtain ⟨t,ht⟩:=ae (bD n b);rw [<-hf] at h1 E0 H3;rw [<-ht] at h2 hl2 H3;have HF:=ab hf;have HT:=ab ht;have hw:IntKind.i64.wrap ((t:Int) - f)=(t:Int) - f:=by rw [IntKind.wrap_i64];omega
 clear hh hf ht
 go_enter Tryz.func263,Tryz.ntmps263
 go_wp2_with fail
 refine HH.out.mono ?_;rintro e w1 ⟨rfl,rfl⟩
 go_wp2_with fail
 refine HH.out.mono ?_;rintro e w1 ⟨rfl,rfl⟩;go_wp2;exact bodyPost_ret (v:=.tuple #[.int .i64 f,.int .i64 t,.int .i64 (min k ((t:Int) - f))]) (by simp [results,Tryz.results263,go_sem]) rfl ⟨al (by rw [<-HF.out,<-HT.out,H3.out]),rfl⟩
theorem qb(B gg gr wd f t:Nat)(Rs:List Rw)(w:World)(h:GridY Yo w B gg gr wd Rs)(I6:f<=t)(ht:t<=Rs.length):Calls Tryz.prog 264 #[.pointer (some ⟨gg,0,none⟩),.int .i64 f,.int .i64 t] w (fp ptrE (fun _=>True) 113 w (ptrs ((Rs.drop f).take (t - f)))):=by
 have HG:=ab h;have hsz:=h.sizes.2.1;clear h
 go_enter Tryz.func264,Tryz.ntmps264
 go_wp2
 go_loopw [7,8] (fun v i wr=>∃ k:Nat,f<=k/\k<=t/\i=.int .i64 k/\OwnE ptrE (fun _=>True) wr w.heap.size 113 v (ptrs ((Rs.drop f).take (k - f)))/\Below w.heap.size w wr) (fun _ i _=>t - (intOf i).toNat)
 case atStart=>exact ⟨f,Nat.le_refl _,I6,rfl,by rw [Nat.sub_self,List.take_zero];exact OwnE.nil _ _ _ _ _,Below.refl _ _⟩
 case round =>
  obtain ⟨k,hfk,hk,rfl,hown,AY⟩:=hrel;have Bf:=ab AY;clear AY;obtain ⟨v,hv⟩:=ae (u7);rw [<-hv] at hown ⊢;have HO:=ab hown;clear hv hown
  by_cases hlt:k<t
  ·have Fp:k<Rs.length:=by omega
   have hr:=it _ gg gr wd Rs k wr (HG.out.below Bf.out) Fp;obtain ⟨p,hp⟩:=ae ((Rs.getD k r0).g);rw [<-hp] at hr;have Db:ptrs ((Rs.drop f).take (k+1 - f))=ptrs ((Rs.drop f).take (k - f))++[some p]:=by
    have e:k+1 - f=(k - f)+1:=by omega
    rw [e,List.take_succ_eq_append_getElem (by rw [List.length_drop];omega)];unfold ptrs;rw [List.map_append];have:(Rs.drop f)[k - f]'(by rw [List.length_drop];omega)=Rs.getD k r0:=by
     rw [List.getElem_drop]
     simp [List.getD,show f+(k - f)=k by omega,List.getElem?_eq_getElem Fp]
    rw [List.map_singleton,this,hp]
   have Fc:=ab Db;have hlen:(ptrs ((Rs.drop f).take (k - f))).length<=1024:=by rw [bn,List.length_take,List.length_drop];omega
   obtain ⟨X0,hX⟩:=ae (ptrs ((Rs.drop f).take (k - f)));rw [<-hX] at HO Fc hlen;have BJ:=HO.out.lt;have b1:=AU wr (.cells [cM (some p)].toArray 113);have HU:=ab (show HeldE ptrE (fun b=>True/\v.ownBlock≠some b) (wr.alloc (.cells [cM (some p)].toArray 113)) (.slice (some ⟨wr.heap.size,0,none⟩) 1 1) [some p] from aT (Y:=fun _=>False) [cM (some p)] (some p) rfl (fun _ _ h=>h.elim) ⟨trivial,fun e=>by have:=(BJ _ e).2;omega⟩);have Cg:=ab (HO.out.below b1);have Bt:=ab (Bf.out.trans (b1.mono Bf.out.size));clear hX Db hp BJ b1 HO
   go_wp2_with fail
   refine hr.mono ?_;rintro e w1 ⟨rfl,rfl⟩;clear hr
   go_wp2_with (at_builtin;refine ax (E:=ptrE) (Z:=fun _=>True) rfl (.tmp 15) (.tmp 19) 117 rfl (.pointer none) 8 Tryz.underlying117 fZ rfl (by decide) rfl rfl Cg.out HU.out (by simp only [List.length_singleton];omega) (by simp only [List.length_singleton];omega) Bt.out.size ?_)
   intro v2 w2 BE b2 _ _;rw [<-Fc.out] at BE;have H2:=ab BE;have BY:=ab (Bt.out.trans b2);clear BE b2;go_wp2
   go_roundw
   case rel=>exact ⟨k+1,by omega,by omega,by go_num,H2.out,BY.out⟩
   case measure=>simp [intOf] <;> omega
  ·obtain rfl:k=t:=by omega
   go_wp2;go_ret;exact ⟨_,rfl,HO.out,Bf.out⟩
def PtrsAt(w:World)(B:Nat)(v:Value)(Rs:List Rw):Prop :=
 ∃ Z:an,(∀ b,Z b->B<=b/\b<w.heap.size)/\OwnE ptrE (fun _=>True) w B 113 v (ptrs Rs)/\(∀ b,v.ownBlock=some b->¬ Z b)/\RowsAt Z w B Rs
section
variable {w w' : World} {B : Nat} {v v' : Value} {Rs : List Rw}
theorem PtrsAt.apart(h:PtrsAt w B v Rs){b:Nat}(hb:v.ownBlock=some b):∀ i,i<Rs.length->(Rs.getD i r0).g≠b/\(Rs.getD i r0).gc≠b:=by
 obtain ⟨Z,h1,h4,h6,h7⟩:=h;obtain ⟨C,hC⟩:=gZ h4 hb;intro i hi;obtain ⟨⟨D,hD⟩,D',Kx⟩:=(h7.row i hi).types;exact ⟨fun e=>by rw [<-e] at hC;exact aH hD hC (by decide),fun e=>by rw [<-e] at hC;exact aH Kx hC (by decide)⟩
theorem PtrsAt.below(h:PtrsAt w B v Rs)(hb:Below w.heap.size w w'):PtrsAt w' B v Rs:=by
 obtain ⟨Z,h1,h4,h6,h7⟩:=h;exact ⟨Z,fun b hz=>⟨(h1 b hz).1,Nat.lt_of_lt_of_le (h1 b hz).2 hb.size⟩,h4.below hb,h6,h7.below hb⟩
theorem PtrsAt.next(h:PtrsAt w B v Rs){w2:World}{g gc:Nat}{L:List Cl}{wrap:Bool}(hBw:B<=w.heap.size)(hr:RowAt (fun b=>w.heap.size<=b) w' w.heap.size g gc L wrap)(hb:Below w.heap.size w w')(ho:OwnE ptrE (fun _=>True) w2 B 113 v' (ptrs Rs++[some g]))(hb2:Below B w' w2)(hk:KeepZ (fun b=>v.ownBlock≠some b) w' w2)(hd:∀ b,b<w'.heap.size->v.ownBlock≠some b->v'.ownBlock≠some b):PtrsAt w2 B v' (Rs++[⟨g,gc,L,wrap⟩]):=by
 have hap:=fun b (hb:v.ownBlock=some b)=>h.apart hb
 obtain ⟨Z,h1,h4,h6,h7⟩:=h;have hlt:=hr.lt;have hs:=h7.snoc (fun b hz=>(h1 b hz).2) hBw (Nat.le_refl _) hr hb;have hu:Upd (fun b=>v.ownBlock=some b) w' w2:=⟨hb2.os,hb2.tape,hb2.output,hk.size,fun b hb' hn=>hk.block b hb' hn⟩;have KU:∀ b,v.ownBlock=some b->b<w.heap.size:=fun b e=>(h4.lt b e).2
 have hat:∀ i,i<(Rs++[(⟨g,gc,L,wrap⟩ : Rw)]).length->(i<Rs.length/\(Rs++[(⟨g,gc,L,wrap⟩ : Rw)]).getD i r0=Rs.getD i r0)\/(Rs++[(⟨g,gc,L,wrap⟩ : Rw)]).getD i r0=⟨g,gc,L,wrap⟩:=fun i hi=>by
  rw [bU];rw [List.length_append,List.length_singleton] at hi
  by_cases e:i<Rs.length
  ·exact .inl ⟨e,if_pos e⟩
  ·right
   rw [if_neg e,show i - Rs.length=0 by omega]
   rfl
 refine ⟨_,fun b hz=>?_,?_,fun b e hz=>?_,hs.upd hu (fun b hz e=>?_) fun i hi=>?_⟩
 ·have:=hk.size
  rcases hz with hz | hz
  ·have:=h1 b hz;have:=hb.size;omega
  ·omega
 ·have:ptrs (Rs++[⟨g,gc,L,wrap⟩])=ptrs Rs++[some g]:=by simp [ptrs]
  rw [this];exact ho
 ·have hbl:b<w'.heap.size:=by
   rcases hz with hz | hz
   ·have:=h1 b hz;have:=hb.size;omega
   ·omega
  by_cases e2:v.ownBlock=some b
  ·rcases hz with hz | hz
   ·exact h6 b e2 hz
   ·have:=KU b e2;omega
  ·exact hd b hbl e2 e
 ·rcases hz with hz | hz
  ·exact h6 b e hz
  ·have:=KU b e;omega
 ·rcases hat i hi with ⟨hl,e⟩ | e
  ·rw [e];exact ⟨fun e2=>((hap _ e2) i hl).1 rfl,fun e2=>((hap _ e2) i hl).2 rfl⟩
  ·rw [e];exact ⟨fun e2=>by have:=KU _ e2;simp only at this;omega,fun e2=>by have:=KU _ e2;simp only at this;omega⟩
end
theorem oQ(B gg gr wd n:Nat)(Rs:List Rw)(w:World)(h:GridY Yo w B gg gr wd Rs)(hn:n<=1024):Calls Tryz.prog 267 #[.pointer (some ⟨gg,0,none⟩),.int .i64 n] w (fun e w'=>∃ v Ns,e=.returned v/\PtrsAt w' w.heap.size v Ns/\Ns.map aO=List.replicate n (List.replicate wd zc,false)/\Below w.heap.size w w'):=by
 have HG:=ab h;have hwd:=h.sizes.2.2;have KO:=ab (show df (wd:Int)=wd by unfold df;omega);clear h
 go_enter Tryz.func267,Tryz.ntmps267
 go_wp2
 go_loopw [5,7] (fun v i wr=>∃ (k:Nat) (Ns:List Rw),k<=n/\i=.int .i64 k/\PtrsAt wr w.heap.size v Ns/\Ns.map aO=List.replicate k (List.replicate wd zc,false)/\Below w.heap.size w wr) (fun _ i _=>n - (intOf i).toNat)
 case atStart=>exact ⟨0,[],Nat.zero_le _,rfl,⟨fun _=>False,fun b h=>h.elim,OwnE.nil _ _ _ _ _,(fun b e=>by cases e),RowsAt.nil _ _ _⟩,rfl,Below.refl _ _⟩
 case round =>
  obtain ⟨k,Ns,hk,rfl,hp,hm,AY⟩:=hrel;have Bf:=ab AY;have HM:=ab hm;clear AY hm;obtain ⟨v,hv⟩:=ae (u5);rw [<-hv] at hp ⊢;have HP:=ab hp;clear hv hp
  by_cases hlt:k<n
  ·have JD:=eZ _ gg gr wd Rs wr (HG.out.below Bf.out)
   go_wp2_with fail
   refine JD.mono ?_;rintro e w1 ⟨rfl,rfl⟩;have OF:=qf (fun b=>wr.heap.size<=b) (wd:Int) wr;rw [KO.out] at OF;clear JD
   go_wp2_with fail
   refine OF.mono ?_;rintro e w1 ⟨g,gc,rfl,hr1,b1⟩;have HR:=ab hr1;have Bt:=ab b1;have hlen:(ptrs Ns).length<=1024:=by
    have:=congrArg List.length HM.out;rw [List.length_map,List.length_replicate] at this;rw [bn];omega
   obtain ⟨JW,BJ⟩ : OwnE ptrE (fun _=>True) wr w.heap.size 113 v (ptrs Ns)/\∀ b,v.ownBlock=some b->w.heap.size<=b/\b<wr.heap.size:=by
    obtain ⟨Z,_,k4,_⟩:=HP.out;exact ⟨k4,k4.lt⟩
   have b2:=AU w1 (.cells [cM (some g)].toArray 113);have HU:=ab (show HeldE ptrE (fun b=>True/\v.ownBlock≠some b) (w1.alloc (.cells [cM (some g)].toArray 113)) (.slice (some ⟨w1.heap.size,0,none⟩) 1 1) [some g] from aT (Y:=fun _=>False) [cM (some g)] (some g) rfl (fun _ _ h=>h.elim) ⟨trivial,fun e=>by have:=(BJ _ e).2;have:=b1.size;omega⟩);have HO:=ab ((JW.below b1).below b2);have BY:=ab (b1.trans (b2.mono b1.size));have CJ:=ab (Bf.out.trans (BY.out.mono Bf.out.size));have Pp:=ab (hr1.below b2);clear OF hr1 b1 b2 JW BJ HR
   go_wp2_with (at_builtin;refine ax (E:=ptrE) (Z:=fun _=>True) rfl (.tmp 9) (.tmp 13) 117 rfl (.pointer none) 8 Tryz.underlying117 fZ rfl (by decide) rfl rfl HO.out HU.out (by simp only [List.length_singleton];omega) (by simp only [List.length_singleton];omega) CJ.out.size ?_)
   intro v4 w4 Ka b4 hk4 NC;have Jw:=HP.out.next Bf.out.size Pp.out BY.out Ka b4 hk4 (fun b hb hn=>NC b (by simpa using hb) hn);have H2:=ab (show PtrsAt w4 w.heap.size v4 (Ns++[⟨g,gc,List.replicate wd zc,false⟩])/\(Ns++[(⟨g,gc,List.replicate wd zc,false⟩ : Rw)]).map aO=List.replicate (k+1) (List.replicate wd zc,false) from ⟨Jw,by rw [List.map_append,HM.out,List.replicate_succ'];rfl⟩);have Ep:=ab (CJ.out.trans b4);clear Ka b4 hk4 NC Jw;go_wp2
   go_roundw
   case rel=>exact ⟨k+1,_,by omega,by go_num,H2.out.1,H2.out.2,Ep.out⟩
   case measure=>simp [intOf] <;> omega
  ·obtain rfl:k=n:=by omega
   go_wp2;go_ret;exact ⟨v,Ns,rfl,HP.out,HM.out,Bf.out⟩
end
theorem rN(Z:an)(N:Nat)(hN:N<=1000000)(w:World):Calls Tryz.prog 290 #[.slice none 0 0,.int .i64 N] w (fp ptrE Z 113 w []):=by
 rcases Nat.eq_zero_or_pos N with rfl | hp
 ·go_enter Tryz.func290,Tryz.ntmps290
  go_wp2;go_ret;exact ⟨_,rfl,OwnE.nil _ _ _ _ _,Below.refl _ _⟩
 ·obtain ⟨i0,hi,hz0,hz1,hz2⟩:=info_parts fZ;obtain ⟨C,hC⟩:=ae (grownCap w N 0 113);have hr:=Go.Lib.run_append_nil_zeros (P:=Tryz.prog) w 117 3 117 113 i0 (.pointer none) .i64 .i64 Tryz.underlying117 Tryz.underlying3 hi hz0 N hp (by rw [hz1];decide) (by omega) (by rw [hz2];omega);rw [<-hC] at hr;have K8:N<=C:=by rw [hC];exact grownCap_ge w N 0 113
  have hle:C<=maxLen:=by rw [hC];exact grownCap_le_maxLen w N 0 113 (by unfold maxLen;omega)
  have Np:=ab hle;have HO:=ab (show (w.drew.alloc (.cells (Builtin.zeroCells (Value.pointer none).cells N++Builtin.zeroCells (Value.pointer none).cells (C - N)) 113)).ownsRow w.heap.size 113 1 (.slice (some ⟨w.heap.size,0,none⟩) 0 C) 0 [] from by
   refine ⟨rfl,.inr ⟨w.heap.size,_,_,rfl,Nat.le_refl _,heap_alloc_new w.drew _,Nat.zero_le _,hle,?_,by simp⟩⟩
   simp [Builtin.zeroCells,Value.cells]
   omega)
  have HB:=ab ((Below.refl w.heap.size w).drew.alloc (Nat.le_refl _) (.cells (Builtin.zeroCells (Value.pointer none).cells N++Builtin.zeroCells (Value.pointer none).cells (C - N)) 113));generalize (w.drew.alloc (.cells (Builtin.zeroCells (Value.pointer none).cells N++Builtin.zeroCells (Value.pointer none).cells (C - N)) 113))=w1 at hr HO HB;clear hC hi hz0 hz1 hz2 hle
  go_enter Tryz.func290,Tryz.ntmps290
  go_wp2_with (at_builtin;refine Go.Lib.wpList_append_run _ rfl (.tmp 20) (.tmp 21) _ _ rfl _ _ rfl rfl _ _ hr ?_)
  go_wp2;go_ret;exact ⟨_,rfl,OwnE.empty HO.out,HB.out⟩
abbrev ptrsE:Elem (List (Option Nat)):=slE ptrE
theorem uy{Z:an}{w:World}{ao:Option Addr}{n cap:Nat}{L:List (List (Option Nat))}(h:HeldE ptrsE Z w (.slice ao n cap) L):n=L.length/\n<=cap/\∀ i,i<L.length->∃ b off u,ao=some ⟨b,off,none⟩/\b<w.heap.size/\w.cell? ⟨b,off+i,none⟩=some u/\HeldE ptrE Z w u (L.getD i []):=by
 obtain ⟨h1,h2,h3⟩:=h.spots;refine ⟨h1,h2,fun i hi=>?_⟩;obtain ⟨b,off,rfl,hb,hz,C,hC,u,rfl,hr⟩:=h3 i hi;have hc:=hC 0 (by decide);rw [show off+i * ptrsE.size+0=off+i from by show off+i * 1+0=_;omega] at hc;exact ⟨b,off,u,rfl,hb,hc,hr⟩
theorem qa(Z:an)(v:Value)(L:List (List (Option Nat)))(w:World)(hh:HeldE ptrsE Z w v L)(hl:L.length<=1000000)(ht:L.flatten.length<=1000000):Calls Tryz.prog 266 #[v] w (fp ptrE Z 113 w L.flatten):=by
 have hh:=hh.zone (Y:=fun b=>Z b/\b<w.heap.size) (fun b hb hz=>⟨hz,hb⟩);obtain ⟨ao,cap,rfl⟩:=hh.len;obtain ⟨_,_,hs⟩:=uy hh;have HH:=ab hs;have Np:=ab (xK L);have HFA:=ab (nr L);rw [<-nr L] at ht ⊢;clear hh hs
 go_enter Tryz.func266,Tryz.ntmps266
 go_wp2
 go_loopw [3,11] (fun sv iv wr=>∃ k s:Nat,k<=L.length/\iv=.int .i64 k/\sv=.int .i64 s/\Hid (s=(f8 L k).length)/\wr=w) (fun _ iv _=>L.length - (intOf iv).toNat)
 case atStart=>exact ⟨0,0,Nat.zero_le _,rfl,rfl,ab rfl,rfl⟩
 case round =>
  obtain ⟨k,s,hk,rfl,rfl,HS,rfl⟩:=hrel;obtain ⟨wo,QE⟩:=ae (wr);subst QE;have DG:s<=1000000:=by have:=Np.out k hk;have:=HS.out;omega
  by_cases hlt:k<L.length
  ·obtain ⟨b,off,u,rfl,hb,c0,hu⟩:=HH.out k hlt;have Iv:=iY L k hlt;have IY:=Np.out (k+1) (by omega);obtain ⟨T,hT⟩:=ae (L.getD k []);rw [<-hT] at hu Iv;obtain ⟨uo,uc,rfl⟩:=hu.len;rw [Iv,List.length_append] at IY;have hs2:s+T.length<=1000000:=by have:=HS.out;omega
   have hs3:s+T.length=(f8 L (k+1)).length:=by rw [Iv,List.length_append,HS.out]
   have LK:=ab hs3;have d1:decide ((s:Int)+(T.length:Int)<0)=false:=decide_eq_false (by omega);clear Iv hT hu hs3 IY;go_wp2
   go_roundw
   case rel=>exact ⟨k+1,s+T.length,by omega,by go_num,by go_num,LK,trivial⟩
   case measure=>simp [intOf] <;> omega
  ·obtain rfl:k=L.length:=by omega
   have HG:=ab (rN Z s DG wo)
   go_wp2_with fail
   refine HG.out.mono ?_;rintro e w1 ⟨v1,rfl,BX,b1⟩;have Cg:=ab BX;have Bt:=ab b1;clear BX b1 HG HS DG hlt;go_wp2
   go_loopw [6,27] (fun nv iv w2=>∃ k:Nat,k<=L.length/\iv=.int .i64 k/\OwnE ptrE Z w2 wo.heap.size 113 nv (f8 L k)/\Below wo.heap.size wo w2) (fun _ iv _=>L.length - (intOf iv).toNat)
   case atStart=>exact ⟨0,Nat.zero_le _,rfl,Cg.out,Bt.out⟩
   case round =>
    obtain ⟨k,hk,rfl,hown,AY⟩:=hrel;have HOW:=ab hown;have Bf:=ab AY;clear hown AY
    by_cases hlt:k<L.length
    ·obtain ⟨b,off,u,rfl,hb,c0,hu⟩:=HH.out k hlt;have c0:=(Bf.out.cell (p:=⟨b,off+k,none⟩) hb).trans c0;have Iv:=iY L k hlt;have IY:=Np.out (k+1) (by omega);obtain ⟨T,hT⟩:=ae (L.getD k []);rw [<-hT] at hu Iv;obtain ⟨uo,uc,rfl⟩:=hu.len;rw [Iv,List.length_append] at IY;obtain ⟨P0,hP⟩:=ae (f8 L k);rw [<-hP] at Iv HOW IY;have Pd:=ab Iv;have BJ:=HOW.out.lt;have HU:=ab (show HeldE ptrE (fun b=>Z b/\_≠some b) wr (.slice uo T.length uc) T from (hu.below Bf.out).zone fun b _ hz=>⟨hz.1,fun e=>by have:=(BJ b e).1;omega⟩);have hs2:P0.length+T.length<=1000000:=by omega
     clear Iv hT hu IY hP BJ
     go_wp2_with (at_builtin;refine ax (E:=ptrE) (Z:=Z) rfl (.tmp 31) (.tmp 32) 117 rfl (.pointer none) 8 Tryz.underlying117 fZ rfl (by decide) rfl rfl HOW.out HU.out (by omega) (by omega) Bf.out.size ?_)
     intro v2 w2 BE hb2 _ _;have hb3:=Bf.out.trans hb2;rw [<-Pd.out] at BE;have H2:=ab BE;have H3:=ab hb3;clear BE hb2 hb3;go_wp2
     go_roundw
     case rel=>exact ⟨k+1,by omega,by go_num,H2.out,H3.out⟩
     case measure=>simp [intOf] <;> omega
    ·obtain rfl:k=L.length:=by omega
     go_wp2;go_ret;exact ⟨_,rfl,HOW.out,Bf.out⟩
section
variable {Yo : an}
def oP(Xs:List (Option Nat))(f:Nat)(Ys:List (Option Nat)):Nat->List (Option Nat)
 | 0=>Xs
 | j+1=>(oP Xs f Ys j).set (f+j) (Ys.getD j none)
theorem fk(Xs:List (Option Nat))(f:Nat)(Ys:List (Option Nat)):∀ j,(oP Xs f Ys j).length=Xs.length
 | 0=>rfl
 | j+1=>by unfold oP;rw [List.length_set,fk]
theorem sI(Xs:List (Option Nat))(f:Nat)(Ys:List (Option Nat)):∀ j,f+j<=Xs.length->∀ i,(oP Xs f Ys j).getD i none=if f<=i/\i<f+j then Ys.getD (i - f) none else Xs.getD i none
 |0,_,i=>by rw [if_neg (by omega)];rfl
 |j+1,h,i=>by
  unfold oP;rw [cy _ _ _ _ _ (by rw [fk];omega),sI Xs f Ys j (by omega) i]
  by_cases e:i=f+j
  ·rw [if_pos e,if_pos (by omega),e,Nat.add_sub_cancel_left]
  ·rw [if_neg e]
   by_cases e2:f<=i/\i<f+j
   ·rw [if_pos e2,if_pos (by omega)]
   ·rw [if_neg e2,if_neg (by omega)]
theorem xr{Rs Ms:List Rw}{f:Nat}(h:f+Ms.length<=Rs.length):oP (ptrs Rs) f (ptrs Ms) Ms.length=ptrs (Rs.take f++Ms++Rs.drop (f+Ms.length)):=by
 have hl:(Rs.take f++Ms++Rs.drop (f+Ms.length)).length=Rs.length:=by simp;omega
 apply List.ext_getElem (by rw [fk,bn,bn,hl])
 intro i h1 h2;rw [fk,bn] at h1;have e:=sI (ptrs Rs) f (ptrs Ms) Ms.length (by rw [bn];exact h) i;have gd:∀ (xs:List (Option Nat)) (h:i<xs.length),xs[i]=xs.getD i none:=fun xs h=>by simp [List.getD,List.getElem?_eq_getElem h]
 rw [gd _ (by rw [fk,bn];exact h1),gd _ h2,e,gD (Rs.take f++Ms++Rs.drop (f+Ms.length)) i (by rw [hl];exact h1),bU,bU];simp only [List.length_append,List.length_take]
 by_cases c1:i<f
 ·rw [if_neg (by omega),gD Rs i h1,if_pos (by omega),if_pos (by omega)]
  congr 2
  simp [List.getD,List.getElem?_take,c1]
 ·by_cases c2:i<f+Ms.length
  ·rw [if_pos ⟨by omega,c2⟩,gD Ms _ (by omega),if_pos (by omega),if_neg (by omega)]
   congr 3
   omega
  ·rw [if_neg (by omega),gD Rs i h1,if_neg (by omega)]
   congr 2
   simp only [List.getD,List.getElem?_drop]
   congr 2
   omega
def kG(Rs:List Rw)(i:Nat):List Rw:=Rs.set i ⟨(Rs.getD i r0).g,(Rs.getD i r0).gc,(Rs.getD i r0).L,false⟩
def AQ(Yo:an)(B gg gr wd f:Nat)(Rs':List Rw)(w:World)(e:Ending)(w':World):Prop:=e=.returned (.tuple #[])/\GridY Yo w' B gg gr wd (if f=0 then Rs' else kG Rs' (f - 1))/\Upd (fun b=>b=gr\/(0<f/\(b=(Rs'.getD (f - 1) r0).g\/b=(Rs'.getD (f - 1) r0).gc))) w w'
theorem ux(B gg gr wd f cap:Nat)(Z:an)(Rs Ms:List Rw)(v:Value)(w:World)(hf:f+Ms.length<=Rs.length)(hM:0<Ms.length)(hn:Rs.length<=1024)
  (hz:∀ b,Z b->B<=b/\b<w.heap.size) (hYo:∀ b,(Z b\/w.heap.size<=b)->Yo b) (Nk:Has w gg [.int .i64 wd,.slice (some ⟨gr,0,none⟩) Rs.length cap] 119) (hB:B<=gg) (ho:OwnE ptrE (fun _=>True) w B 113 (.slice (some ⟨gr,0,none⟩) Rs.length cap) (ptrs Rs)) (z1:¬ Z gg) (z2:¬ Z gr)
  (hr:RowsAt Z w B (Rs.take f++Ms++Rs.drop (f+Ms.length))) (hw:∀ i,i<(Rs.take f++Ms++Rs.drop (f+Ms.length)).length->((Rs.take f++Ms++Rs.drop (f+Ms.length)).getD i r0).L.length=wd)
  (hv:HeldE ptrE (fun b=>b≠gr) w v (ptrs Ms)):Calls Tryz.prog 265 #[.pointer (some ⟨gg,0,none⟩),.int .i64 f,v] w (AQ Yo B gg gr wd f (Rs.take f++Ms++Rs.drop (f+Ms.length)) w):=by
 have hpl:=xr hf;obtain ⟨R',LA⟩:=ae (Rs.take f++Ms++Rs.drop (f+Ms.length));have hmat:∀ j,j<Ms.length->R'.getD (f+j) r0=Ms.getD j r0:=fun j hj=>by
  rw [LA,bU,if_pos (by simp;omega),bU,if_neg (by simp;omega),List.length_take,show f+j - min f Rs.length=j by omega]
 have DB:R'.length=Rs.length:=by rw [LA];simp;omega
 rw [<-LA] at hr hw hpl ⊢;have Jb:=ab hpl;have ID:=ab DB;have HR:=ab hr;have HW:=ab hw;have HZ:=ab (And.intro hz (And.intro z1 z2));have HYO:=ab hYo;clear hYo;have HMAT:=ab hmat
 -- the pointers' block is of its own type
 have hgt:gg≠gr/\∀ i,i<R'.length->(R'.getD i r0).g≠gr/\(R'.getD i r0).gc≠gr:=by
  obtain ⟨C,hC⟩:=gZ ho (b:=gr) rfl;refine ⟨fun e=>by subst e;exact aH Nk hC (by decide),fun i hi=>?_⟩;obtain ⟨⟨D,hD⟩,D',Kx⟩:=(hr.row i hi).types;exact ⟨fun e=>by rw [<-e] at hC;exact aH hD hC (by decide),fun e=>by rw [<-e] at hC;exact aH Kx hC (by decide)⟩
 have Ph:=ab hgt;have Jn:=ab Nk;have HO:=ab ho;have Cd:Rs.length<=cap:=by
  rcases ho.ptrs.2 with ⟨e,_⟩ | ⟨g',cap',cur,e,_,_,O3,_⟩
  ·cases e
  ·simp only [Value.slice.injEq] at e;obtain ⟨_,_,rfl⟩:=e;rw [bn] at O3;exact O3
 have KU:=hv.len;obtain ⟨va,vc,hve⟩:=KU;rw [bn] at hve;subst hve;have HV:=ab (show ∀ j,j<Ms.length->∃ b off,va=some ⟨b,off,none⟩/\b<w.heap.size/\b≠gr/\w.cell? ⟨b,off+j,none⟩=some (.pointer (some ⟨(Ms.getD j r0).g,0,none⟩)) from fun j hj=>by
  obtain ⟨b,off,e,hb,hz9,C,hC,Mo⟩:=hv.spots.2.2 j (by rw [bn];exact hj);have:=hC 0 (by decide);rw [show C=[cM ((ptrs Ms).getD j none)] from Mo,gD Ms j hj] at this;rw [show ptrE.size=1 from rfl,Nat.mul_one,Nat.add_zero] at this;exact ⟨b,off,e,hb,hz9,this⟩)
 obtain ⟨n,hne⟩:=ae (Rs.length);obtain ⟨q,Oy⟩:=ae (Ms.length);have HN:=ab hne;have HQ:=ab Oy;rw [<-Oy] at HV hf hM HMAT ⊢;rw [<-hne] at hf hn Cd Jn HO;clear hv hr hw hz z1 z2 Nk ho hgt hpl DB hmat LA hne Oy
 go_enter Tryz.func265,Tryz.ntmps265
 go_wp2
 go_loopw [10] (fun i wr=>∃ k:Nat,k<=q/\i=.int .i64 k/\OwnE ptrE (fun _=>True) wr B 113 (.slice (some ⟨gr,0,none⟩) n cap) (oP (ptrs Rs) f (ptrs Ms) k)/\Upd (fun b=>b=gr) w wr) (fun i _=>q - (intOf i).toNat)
 case atStart=>exact ⟨0,Nat.zero_le _,rfl,HO.out,Upd.refl _ _⟩
 case round =>
  obtain ⟨k,hk,rfl,hown,NK⟩:=hrel;have HOW:=ab hown;have K9:=ab NK;have hgx:=K9.out.keep.has Jn.out Ph.out.1;have Pu:=ab hgx;clear hown NK hgx;have c0:=Pu.out.cell 0 _ rfl;have c1:=Pu.out.cell 1 _ rfl
  by_cases hlt:k<q
  ·obtain ⟨b,off,rfl,hb,Iu,cv⟩:=HV.out k hlt;have cv:=(K9.out.keep.cell (o:=off+k) hb Iu).trans cv;have OU:=(HR.out.row (f+k) (by rw [ID.out,<-HN.out];omega)).upd K9.out (fun b hz e=>HZ.out.2.2 (e ▸ hz)) (Ph.out.2 (f+k) (by rw [ID.out,<-HN.out];omega)).1 (Ph.out.2 (f+k) (by rw [ID.out,<-HN.out];omega)).2;have JD:=HW.out (f+k) (by rw [ID.out,<-HN.out];omega);rw [HMAT.out k hlt] at OU JD;have Lw:=jy HOW.out (f+k) (by rw [fk,bn,<-HN.out];omega);have Nd:=xt gg gr wd n cap (f+k) _ _ _ _ _ _ wr c0 c1 Cd _ Lw.1 Lw.2 (by omega) hn OU JD;have hput:cM (some (Ms.getD k r0).g)=cM ((ptrs Ms).getD k none):=by rw [gD Ms k (by rw [<-HQ.out];exact hlt)]
   obtain ⟨p,hp⟩:=ae ((Ms.getD k r0).g);rw [<-hp] at cv Nd hput;have HFIT:=ab Nd;have Mj:=ab hput;have Da:IntKind.i64.wrap ((f:Int)+k)=(f:Int)+k:=by rw [IntKind.wrap_i64];omega
   have hcast:((f+k:Nat):Int)=(f:Int)+k:=by omega
   rw [hcast] at HFIT;clear OU JD Lw Nd hput hp c0 c1 hcast
   go_wp2_with fail
   refine HFIT.out.mono ?_;rintro e w2 ⟨rfl,w3,b3,hw2⟩;have Fi:=oR (HOW.out.below b3) (f+k) (by rw [fk,bn,<-HN.out];omega) ((ptrs Ms).getD k none);have DV:=(Upd.refl (fun b=>b=gr) w3).setCell (p:=⟨gr,f+k,none⟩) (.inl rfl) (cM ((ptrs Ms).getD k none));rw [Mj.out] at hw2;rw [<-hw2] at Fi DV;have H3:=ab (show OwnE ptrE (fun _=>True) w2 B 113 (.slice (some ⟨gr,0,none⟩) n cap) (oP (ptrs Rs) f (ptrs Ms) (k+1)) from Fi);have HU3:=ab ((K9.out.trans (.ofBelow b3)).trans DV);clear Fi DV hw2 b3 Da cv;go_wp2
   go_roundw
   case rel=>exact ⟨k+1,by omega,by go_num,H3.out,HU3.out⟩
   case measure=>simp [intOf] <;> omega
  ·obtain rfl:k=q:=by omega
   have hall:oP (ptrs Rs) f (ptrs Ms) k=ptrs R':=by rw [HQ.out];exact Jb.out
   rw [hall] at HOW;have hG:GridY Yo wr B gg gr wd R':=⟨Z,cap,fun b hz=>⟨(HZ.out.1 b hz).1,Nat.lt_of_lt_of_le (HZ.out.1 b hz).2 K9.out.size⟩,by rw [ID.out,<-HN.out];exact Pu.out,hB,by rw [ID.out,<-HN.out];exact HOW.out,HZ.out.2.1,HZ.out.2.2,HR.out.upd K9.out (fun b hz e=>HZ.out.2.2 (e ▸ hz)) Ph.out.2,HW.out,by rw [ID.out,<-HN.out];omega,by rw [ID.out,<-HN.out];exact hn,fun x hx=>HYO.out x (hx.imp id (Nat.le_trans K9.out.size))⟩;have G:=ab hG;clear hG hall c0 c1
   cases f with
   |zero =>
    have h1:=xA B gg gr wd R' (-1) wr G.out (.inl (by omega))
    go_wp2_with fail
    refine h1.mono ?_;rintro e w2 ⟨rfl,rfl⟩
    go_wp2_with fail
    refine (uE false wr).mono ?_;rintro e w2 ⟨rfl,rfl⟩;go_wp2;exact bodyPost_end (by kernel_rfl) rfl ⟨rfl,by rw [if_pos rfl];exact G.out,K9.out.mono (fun b _ e=>.inl e)⟩
   |succ f =>
    have MA:f<R'.length:=by rw [ID.out,<-HN.out];omega
    have h1:=it B gg gr wd R' f wr G.out MA;have h2:=nd B gg gr wd f R' false wr G.out MA;have Da:IntKind.i64.wrap (f:Int)=(f:Int):=by rw [IntKind.wrap_i64];omega
    have hw2:((f+1:Nat):Int) - 1=f:=by omega
    have hw3:(f:Int)+1 - 1=f:=by omega
    have hs2:=h2;obtain ⟨p,hp⟩:=ae ((R'.getD f r0).g);have H2:=ab (show Calls Tryz.prog 71 #[.pointer (some ⟨p,0,none⟩),.bool false] wr _ by rw [hp];exact hs2);rw [<-hp] at h1;clear h2 hs2 hp
    go_wp2_with fail
    refine h1.mono ?_;rintro e w2 ⟨rfl,rfl⟩
    go_wp2_with fail
    refine H2.out.mono ?_;rintro e w2 ⟨rfl,hg2,Fq⟩;have HF:=ab (And.intro hg2 ((K9.out.mono (T:=fun b=>b=gr\/(0<f+1/\(b=(R'.getD (f+1 - 1) r0).g\/b=(R'.getD (f+1 - 1) r0).gc))) (fun b _ e=>.inl e)).trans (Fq.mono (fun b _ e=>.inr ⟨by omega,e⟩))));clear hg2 Fq H2 h1;go_wp2;exact bodyPost_end (by kernel_rfl) rfl ⟨rfl,by rw [if_neg (by omega)];exact HF.out.1,HF.out.2⟩
end
section
theorem RowsAt.append{Z Y:an}{w:World}{B B2 M:Nat}{Rs Ns:List Rw}(h1:RowsAt Z w B Rs)(h2:RowsAt Y w B2 Ns)(hB:B<=B2)(hz:∀ b,Z b->b<M)(hr:∀ i,i<Rs.length->(Rs.getD i r0).g<M/\(Rs.getD i r0).gc<M)(hy:∀ b,Y b->M<=b)(hM:M<=B2):RowsAt (fun b=>Z b\/Y b) w B (Rs++Ns):=by
 have hat:∀ i,i<(Rs++Ns).length->(i<Rs.length/\(Rs++Ns).getD i r0=Rs.getD i r0)\/(Rs.length<=i/\i - Rs.length<Ns.length/\(Rs++Ns).getD i r0=Ns.getD (i - Rs.length) r0):=fun i hi=>by
  rw [bU];rw [List.length_append] at hi
  by_cases e:i<Rs.length
  ·exact .inl ⟨e,if_pos e⟩
  ·exact .inr ⟨by omega,by omega,if_neg e⟩
 refine ⟨fun i hi=>?_,fun i hi=>?_,fun i j hi hj Nl=>?_⟩
 ·rcases hat i hi with ⟨hl,e⟩ | ⟨_,hl,e⟩
  ·rw [e];exact (h1.row i hl).keep (.refl _ _) fun b _ hz=>.inl hz
  ·rw [e];exact ((h2.row _ hl).base hB).keep (.refl _ _) fun b _ hz=>.inr hz
 ·rcases hat i hi with ⟨hl,e⟩ | ⟨_,hl,e⟩
  ·rw [e];have:=hr i hl;exact ⟨fun hzz=>by rcases hzz with hzz | hzz;exact (h1.out i hl).1 hzz;have:=hy _ hzz;omega,fun hzz=>by rcases hzz with hzz | hzz;exact (h1.out i hl).2 hzz;have:=hy _ hzz;omega⟩
  ·rw [e];have:=h2.lt _ hl;exact ⟨fun hzz=>by rcases hzz with hzz | hzz;have:=hz _ hzz;omega;exact (h2.out _ hl).1 hzz,fun hzz=>by rcases hzz with hzz | hzz;have:=hz _ hzz;omega;exact (h2.out _ hl).2 hzz⟩
 ·rcases hat i hi with ⟨hl,e⟩ | ⟨hg,hl,e⟩ <;> rcases hat j hj with ⟨hl',e'⟩ | ⟨hg',hl',e'⟩ <;> rw [e,e']
  ·exact h1.apart i j hl hl' Nl
  ·have:=hr i hl;have:=h2.lt _ hl';exact ⟨by omega,by omega⟩
  ·have:=hr j hl';have:=h2.lt _ hl;exact ⟨by omega,by omega⟩
  ·exact h2.apart _ _ hl hl' (by omega)
theorem RowsAt.sub{Z:an}{w:World}{B:Nat}{As Rs:List Rw}(h:RowsAt Z w B As)(p:Nat->Nat)(hp:∀ i,i<Rs.length->p i<As.length/\Rs.getD i r0=As.getD (p i) r0)(hi:∀ i j,i<Rs.length->j<Rs.length->i≠j->p i≠p j):RowsAt Z w B Rs :=
 ⟨fun i hl=>by rw [(hp i hl).2];exact h.row _ (hp i hl).1,fun i hl=>by rw [(hp i hl).2];exact h.out _ (hp i hl).1,fun i j hl hl' hne=>by rw [(hp i hl).2,(hp j hl').2];exact h.apart _ _ (hp i hl).1 (hp j hl').1 (hi i j hl hl' hne)⟩
theorem p9{α:Type}(l:List α)(d:α)(i k:Nat):(l.take k).getD i d=if i<k then l.getD i d else d:=by
 by_cases h:i<k
 ·rw [if_pos h];simp [List.getD,List.getElem?_take,h]
 ·rw [if_neg h];simp [List.getD,List.getElem?_take,h]
theorem lT{α:Type}(l:List α)(d:α)(i k:Nat):(l.drop k).getD i d=l.getD (k+i) d:=by simp [List.getD,List.getElem?_drop]
def cT(Rs Ns:List Rw)(f t q:Nat):List Rw:=((Rs.drop f).take (t - f)).drop q++Ns
section
variable {Rs Ns : List Rw} {f t q : Nat}
theorem ir(hf:f<=t)(ht:t<=Rs.length)(hq:q<=t - f)(hn:Ns.length=q):(cT Rs Ns f t q).length=t - f:=by unfold cT;simp;omega
theorem kf(Ms:List Rw)(hm:Ms.length=t - f)(hf:f<=t)(ht:t<=Rs.length)(i:Nat):(Rs.take f++Ms++Rs.drop (f+Ms.length)).getD i r0=if i<f then Rs.getD i r0 else if i<t then Ms.getD (i - f) r0 else Rs.getD i r0:=by
 rw [bU,bU,List.length_append,List.length_take,hm,show min f Rs.length=f by omega]
 by_cases c1:i<f
 ·rw [if_pos (by omega),if_pos c1,if_pos c1,p9,if_pos c1]
 ·rw [if_neg c1]
  by_cases c2:i<t
  ·rw [if_pos (by omega),if_neg c1,if_pos c2]
  ·rw [if_neg (by omega),if_neg c2,lT,show f+(t - f)+(i - (f+(t - f)))=i by omega,if_neg c1]
theorem sH(hf:f<=t)(ht:t<=Rs.length)(hq:q<=t - f)(hn:Ns.length=q)(i:Nat)(hi:i<t - f):(cT Rs Ns f t q).getD i r0=if i+q<t - f then Rs.getD (f+q+i) r0 else Ns.getD (i+q - (t - f)) r0:=by
 unfold cT;rw [bU,List.length_drop,List.length_take,List.length_drop,lT,p9,lT]
 by_cases c:i+q<t - f
 ·rw [if_pos (by omega),if_pos (by omega),if_pos c]
  congr 1
  omega
 ·rw [if_neg (by omega),if_neg c]
  congr 1
  omega
theorem zj{Z:an}{w:World}{B:Nat}(h:RowsAt Z w B (Rs++Ns))(hf:f<=t)(ht:t<=Rs.length)(hq:q<=t - f)(hn:Ns.length=q):RowsAt Z w B (Rs.take f++cT Rs Ns f t q++Rs.drop (f+(cT Rs Ns f t q).length)):=by
 have Em:=ir hf ht hq hn;have DA:(Rs.take f++cT Rs Ns f t q++Rs.drop (f+(cT Rs Ns f t q).length)).length=Rs.length:=by rw [List.length_append,List.length_append,List.length_take,List.length_drop,Em];omega
 refine h.sub (fun i=>if i<f then i else if i<t then (if i - f+q<t - f then i+q else Rs.length+(i+q - t)) else i) (fun i hi=>?_) (fun i j hi hj hne=>?_)
 ·rw [DA] at hi;rw [kf _ Em hf ht,List.length_append,hn]
  by_cases c1:i<f
  ·simp only [if_pos c1];exact ⟨by omega,by rw [bU,if_pos hi]⟩
  ·simp only [if_neg c1]
   by_cases c2:i<t
   ·simp only [if_pos c2];rw [sH hf ht hq hn _ (by omega)]
    by_cases c3:i - f+q<t - f
    ·simp only [if_pos c3];refine ⟨by omega,?_⟩;rw [bU,if_pos (by omega)]
     congr 1
     omega
    ·simp only [if_neg c3];refine ⟨by omega,?_⟩;rw [bU,if_neg (by omega)]
     congr 1
     omega
   ·simp only [if_neg c2];exact ⟨by omega,by rw [bU,if_pos hi]⟩
 ·rw [DA] at hi hj;intro e
  try simp only at e
  split at e <;> split at e <;> (try split at e) <;> (try split at e) <;> (try split at e) <;> (try split at e) <;> omega
end
end
section
variable {Yo : an}
def NsAt(w:World)(M:Nat)(Ns:List Rw):Prop:=∃ Z:an,(∀ b,Z b->M<=b/\b<w.heap.size)/\RowsAt Z w M Ns
theorem NsAt.upd{S:an}{w w':World}{M:Nat}{Ns:List Rw}(h:NsAt w M Ns)(hu:Upd S w w')(hs:∀ b,S b->b<M):NsAt w' M Ns:=by
 obtain ⟨Z,h1,h2⟩:=h;exact ⟨Z,fun b hz=>⟨(h1 b hz).1,Nat.lt_of_lt_of_le (h1 b hz).2 hu.size⟩,h2.upd hu (fun b hz e=>by have:=hs b e;have:=h1 b hz;omega) fun i hi=>⟨fun e=>by have:=hs _ e;have:=h2.lt i hi;omega,fun e=>by have:=hs _ e;have:=h2.lt i hi;omega⟩⟩
theorem xl{Z:an}{w:World}{B:Nat}{a b:Value}{la lb:List (Option Nat)}(ha:HeldE ptrE Z w a la)(hb:HeldE ptrE Z w b lb)(hB:B<=w.heap.size)(hz:∀ b,B<=b->Z b):HeldE ptrsE Z (w.alloc (.cells #[a,b] 117)) (.slice (some ⟨w.heap.size,0,none⟩) 2 2) [la,lb]:=by
 refine (OwnE.lit w ptrsE [[a],[b]] [la,lb] 2 rfl rfl hB (by decide) (fun i hi=>?_) _ rfl).held (fun b hb _=>hz b hb)
 match i,hi with
 | 0,_=>exact ⟨_,rfl,ha⟩
 | 1,_=>exact ⟨_,rfl,hb⟩
def kF(w:World)(gr:Nat)(Rs:List Rw)(b:Nat):Prop:=b=gr\/(∃ i,i<Rs.length/\(b=(Rs.getD i r0).g\/b=(Rs.getD i r0).gc))\/w.heap.size<=b
def xm(Yo:an)(w:World)(B gg gr wd f q:Nat)(Rs:List Rw)(R:List Rw->List Rw)(w':World):Prop:=∃ Ns:List Rw,(Ns.map aO=List.replicate q (List.replicate wd zc,false)/\∀ i,i<Ns.length->w.heap.size<=(Ns.getD i r0).g/\w.heap.size<=(Ns.getD i r0).gc)/\GridY Yo w' B gg gr wd (if f=0 then R Ns else kG (R Ns) (f - 1))/\Upd (kF w gr Rs) w w'
theorem gC{Ns:List Rw}{q wd:Nat}(h:Ns.map aO=List.replicate q (List.replicate wd zc,false)):Ns.length=q/\∀ i,i<q->(Ns.getD i r0).L.length=wd:=by
 have hl:Ns.length=q:=by have:=congrArg List.length h;simpa using this
 refine ⟨hl,fun i hi=>?_⟩;have e:(Ns.map aO).getD i zl=(List.replicate wd zc,false):=by rw [h];simp [List.getD,List.getElem?_replicate,hi]
 have e2:(Ns.map aO).getD i zl=aO (Ns.getD i r0):=by simp [List.getD,List.getElem?_eq_getElem (show i<Ns.length by omega)]
 rw [e2] at e;have:=congrArg (fun x:Ln=>x.1.length) e
 simpa [aO] using this
theorem xp(B gg gr wd f t q M:Nat)(Rs Ns:List Rw)(v:Value)(w ws:World)(h:GridY Yo w B gg gr wd Rs)(hb:Below w.heap.size w ws)(hf:f<t)(ht:t<=Rs.length)(hq:q<=t - f)(hN:NsAt ws M Ns)(hM:w.heap.size<=M)(hl:Ns.map aO=List.replicate q (List.replicate wd zc,false))(hv:HeldE ptrE (fun b=>w.heap.size<=b) ws v (ptrs (cT Rs Ns f t q))):Calls Tryz.prog 265 #[.pointer (some ⟨gg,0,none⟩),.int .i64 f,v] ws (fun e w'=>e=.returned (.tuple #[])/\xm Yo w B gg gr wd f q Rs (fun Ns=>Rs.take f++cT Rs Ns f t q++Rs.drop (f+(cT Rs Ns f t q).length)) w'/\Upd (fun b=>b<w.heap.size) ws w'):=by
 have hlt:=h.lt;obtain ⟨GI,OF⟩:=gC hl;have Em:=ir (Rs:=Rs) (Ns:=Ns) (f:=f) (t:=t) (q:=q) (by omega) ht hq GI;obtain ⟨Z,cap,k1,k2,k3,k4,k5,k6,k7,k8,k9,k10⟩:=h;obtain ⟨Zn,n1,n2⟩:=hN;have hap:=RowsAt.append (M:=M) (k7.below hb) n2 (by have:=k2.lt;omega) (fun b hz=>by have:=k1 b hz;omega) (fun i hi=>by have:=hlt.2.2.2.2.2 i hi;omega) (fun b hz=>(n1 b hz).1) (Nat.le_refl _);have hrw:=zj hap (by omega) ht hq GI;have hs:=ux B gg gr wd f cap _ Rs (cT Rs Ns f t q) v ws (by rw [Em];omega) (by rw [Em];omega) k10.1 (fun b hz=>by
   have:=hb.size
   rcases hz with hz | hz
   ·have:=k1 b hz;omega
   ·have:=n1 b hz;have:=k2.lt;omega) (fun x hx=>k10.2 x (by
   have:=hb.size
   rcases hx with (hz | hz) | hz
   ·exact .inl hz
   ·exact .inr (by have:=n1 x hz;omega)
   ·exact .inr (by omega))) (k2.below hb k2.lt) k3 (k4.below hb) (fun hz=>by
   rcases hz with hz | hz
   ·exact k5 hz
   ·have:=n1 _ hz;have:=hlt.2.1;omega) (fun hz=>by
   rcases hz with hz | hz
   ·exact k6 hz
   ·have:=n1 _ hz;have:=hlt.2.2.2.1;omega) hrw (fun i hi=>by
   rw [kf _ Em (by omega) ht];have Oq:i<Rs.length:=by
    rw [List.length_append,List.length_append,List.length_take,List.length_drop,Em] at hi;omega
   split
   ·exact k8 i Oq
   ·split
    ·rw [sH (by omega) ht hq GI _ (by omega)]
     split
     ·exact k8 _ (by omega)
     ·exact OF _ (by omega)
    ·exact k8 i Oq) (hv.zone fun b _ hz=>by have:=hlt.2.2.2.1;omega)
 refine hs.mono ?_;rintro e w' ⟨rfl,hg,hu⟩;refine ⟨rfl,⟨Ns,⟨hl,fun i hi=>by have:=n2.lt i hi;omega⟩,hg,((Upd.ofBelow hb).trans hu).mono fun b _ e=>?_⟩,hu.mono fun b _ e=>?_⟩
 ·rcases e with e | ⟨h0,e⟩
  ·exact .inl e
  ·rw [kf _ Em (by omega) ht,if_pos (by omega)] at e;exact .inr (.inl ⟨f - 1,by omega,e⟩)
 rcases e with e | ⟨h0,e⟩
 ·have:=hlt.2.2.2.1;omega
 ·rw [kf _ Em (by omega) ht,if_pos (by omega)] at e;have:=hlt.2.2.2.2.2 (f - 1) (by omega)
  rcases e with e | e <;> omega
theorem uw(B gg gr wd f t q:Nat)(Rs:List Rw)(a b k:Int)(w:World)(h:GridY Yo w B gg gr wd Rs)(hf:bD Rs.length a=f)(ht:bD Rs.length b=t)(hk:cB Rs.length a b k=(q:Int))(hq:0<q):Calls Tryz.prog 227 #[.pointer (some ⟨gg,0,none⟩),.int .i64 a,.int .i64 b,.int .i64 k] w (fun e w'=>e=.returned (.tuple #[])/\xm Yo w B gg gr wd f q Rs (fun Ns=>Rs.take f++cT Rs Ns f t q++Rs.drop (f+(cT Rs Ns f t q).length)) w'):=by
 have hsz:=h.sizes;have E7:t<=Rs.length:=by rw [<-ht];exact fm _ _
 have NT:q<=t - f/\f<t:=by unfold cB at hk;rw [hf,ht] at hk;omega
 have E2:=lU (.pointer (some ⟨gg,0,none⟩)) Rs.length hsz.2.1 a b k w (di B gg gr wd Rs w h);rw [hf,ht,hk] at E2;have KX:=ab E2;have HG:=ab h;have J8:=ab (qb B gg gr wd f t Rs w h (by omega) E7);have Ml:=ab h.lt;have FV:=ab E7;have Ea:decide ((q:Int)<1)=false:=ai (by omega);have CN:decide (q<1)=false:=ai (by omega);obtain ⟨T,hT⟩:=ae (ptrs ((Rs.drop f).take (t - f)));have N0:T.length=t - f:=by rw [hT,bn,List.length_take,List.length_drop];omega
 have HTE:=ab hT;rw [<-hT] at J8;have MK:q<=1024:=by omega
 have ht9:t - f<=1024:=by omega
 clear h hf ht hk E2 hT E7 hsz
 go_enter Tryz.func227,Tryz.ntmps227
 go_wp2_with fail
 refine KX.out.mono ?_;rintro e w1 ⟨rfl,rfl⟩
 go_wp2_with fail
 refine J8.out.mono ?_;rintro e w1 ⟨v1,rfl,BX,b1⟩;obtain ⟨gt,ct,rfl,hgt1,hgt2⟩:=BX.some (by omega);have Ge:=BX.held (Z:=fun b=>w.heap.size<=b) (fun b hb _=>hb);obtain ⟨l,hl⟩:=ae (t - f);rw [N0] at Ge ⊢;rw [<-hl] at Ge N0 NT ⊢;have DU:l<=ct:=by obtain ⟨_,hn,_⟩:=Ge.spots;exact hn
 have HH:=ab Ge;have Bt:=ab b1;have HQT:=ab NT;have LF:=ab (show T.length=l/\l<=1024 from ⟨N0,by rw [hl];exact ht9⟩);have Np:=ab hl;have HC:=ab (show ∀ w',Below w1.heap.size w1 w'->HeldE ptrE (fun b=>w.heap.size<=b) w' (.slice (if ct=q then some ⟨gt,0,none⟩ else some ⟨gt,q,none⟩) (l - q) (ct - q)) (T.drop q) from fun w' b=>by
  have h3:=HH.out.below b;rw [<-N0] at h3;obtain ⟨_,_,e,hcm,hmx,_⟩:=id h3
  cases e
  have hp:=h3.part q T.length (by omega) (Nat.le_refl _) (if ct=q then some ⟨gt,0,none⟩ else some ⟨gt,q,none⟩) (ct - q) (fun e=>by cases e) (fun b off e hlt=>by cases e;rw [if_neg (by omega)];simp [show ptrE.size=1 from rfl]) (fun _ _=>by split <;> simp) (by omega) (by omega);rw [List.take_of_length_le (by rw [List.length_drop];exact Nat.le_refl _),N0] at hp;exact hp)
 have HMID:=ab (show ∀ Ns,T.drop q++ptrs Ns=ptrs (cT Rs Ns f t q) from fun Ns=>by rw [HTE.out];unfold cT ptrs;rw [List.map_append,List.map_drop]);have hz1:q<=l:=NT.1;have hz2:q<=ct:=by omega
 have hz3:(q:Int)<=(l:Int):=by omega
 have hz4:(q:Int)<=(ct:Int):=by omega
 clear BX b1 Ge hl J8 KX Ea CN
 go_upto_region 3 with (fail)
 obtain ⟨AZ,A6⟩ : ∃ CC:Array Bool->World->Prop,CC=fun L8 w'=>(Mix.one L8 10=0->Below w1.heap.size w1 w')/\(Mix.one L8 10=1->xm Yo w B gg gr wd f q Rs (fun Ns=>Rs.take f++cT Rs Ns f t q++Rs.drop (f+(cT Rs Ns f t q).length)) w'):=⟨_,rfl⟩
 obtain ⟨BA,Bh⟩ : ∃ XX:World->World->Prop,XX=fun x y=>Upd (fun b=>b<w.heap.size) x y:=⟨_,rfl⟩
 obtain ⟨Bw,Bn,A2,A3,A4,A5,Bc,A9,Ba,A1,A7,Be,A0,_⟩:=Reg.e12 BA
  (fun xx _=>xx=.pointer (some ⟨gg,0,none⟩))
  (fun xx _=>xx=.int .i64 f)
  (fun xx _=>xx=.slice (some ⟨gt,0,none⟩) l ct)
  (fun xx _=>xx=.int .i64 q)
  (fun xx _=>xx=.slice (if ct=q then some ⟨gt,0,none⟩ else some ⟨gt,q,none⟩) (l - q) (ct - q))
  (fun xx _=>xx=.pointer (some ⟨gg,0,none⟩))
  (fun xx _=>xx=.int .i64 q)
  (fun x w'=>∃ Ns,NsAt w' w1.heap.size Ns/\HeldE ptrE (fun b=>w.heap.size<=b) w' x (ptrs Ns)/\Ns.map aO=List.replicate q (List.replicate wd zc,false))
  (fun x w'=>∃ Ns,NsAt w' w1.heap.size Ns/\HeldE ptrsE (fun b=>w.heap.size<=b) w' x [T.drop q,ptrs Ns]/\Ns.map aO=List.replicate q (List.replicate wd zc,false))
  (fun x w'=>∃ Ns,NsAt w' w1.heap.size Ns/\HeldE ptrE (fun b=>w.heap.size<=b) w' x (T.drop q++ptrs Ns)/\Ns.map aO=List.replicate q (List.replicate wd zc,false))
  (fun xx _=>xx=.tuple #[])
  (fun _ _=>True)
  (s7:=fun x w w1 hx h=>by rw [Bh] at hx;(obtain ⟨Ns,h7,h8,h9⟩:=h;exact ⟨Ns,h7.upd hx (fun b e=>Nat.lt_of_lt_of_le e Bt.out.size),HeldE.upd h8 hx (fun b hb e=>by omega),h9⟩))
  (s8:=fun x w w1 hx h=>by rw [Bh] at hx;(obtain ⟨Ns,h7,h8,h9⟩:=h;exact ⟨Ns,h7.upd hx (fun b e=>Nat.lt_of_lt_of_le e Bt.out.size),HeldE.upd h8 hx (fun b hb e=>by omega),h9⟩))
  (s9:=fun x w w1 hx h=>by rw [Bh] at hx;(obtain ⟨Ns,h7,h8,h9⟩:=h;exact ⟨Ns,h7.upd hx (fun b e=>Nat.lt_of_lt_of_le e Bt.out.size),HeldE.upd h8 hx (fun b hb e=>by omega),h9⟩))
 have Bd:Hid (∀ i L w,(i == 10)=false ->  AZ L w->AZ (L.setIfInBounds i true) w):=ab (by
  intro i L w q h;simp only [Bool.or_eq_false_iff,beq_eq_false_iff_ne] at q;rw [A6] at h ⊢;simp only [Mix.one_ne q];exact h)
 have Bv:Hid (∀ L w w1,AZ L w->Below w.heap.size w w1->AZ L w1):=ab (by
  intro L w w1 h hb;rw [A6] at h ⊢;exact ⟨fun e=>(h.1 e).trans (hb.mono (h.1 e).size),fun e=>by obtain ⟨Ns,q1,q2,q3⟩:=h.2 e;exact ⟨Ns,q1,q2.below hb,q3.trans (.ofBelow hb)⟩⟩)
 have Bm:=ab (show ∀ w,BA w w from fun w=>by rw [Bh];exact Upd.refl _ _);have Bl:=ab (show ∀ w w1,Below w.heap.size w w1->BA w w1 from fun w w1 hb=>by rw [Bh];exact Upd.ofBelow hb);have By:=ab (show AZ (Array.replicate 11 false) w1.drew from by rw [A6];exact ⟨fun _=>(Below.refl _ _).drew,fun e=>absurd e (by decide)⟩);have AX:=ab (fun (i:Nat) L w v q (h:AZ L w) (e:Bw i v w)=>Reg.hk (Bd.out i L w q h) e (Bm.out w));have AW:=ab A6;have Bi:=ab Bh;clear A6 Bh
 go_wp2_with fail
 refine Reg.regionF Bw AZ BA Bn.out (by kernel_rfl) (by kernel_rfl) (by kernel_rfl) By.out (fun GC AV=>?_);simp only [Reg.frame,Reg.dsts,List.map_cons,List.map_nil,Mix.put_lit,List.set_cons_succ,List.set_cons_zero,Nat.zero_add,Nat.reduceAdd] at AV;refine ⟨⟨?_,?_,?_,?_,?_,?_,?_,?_,?_,?_,?_,trivial⟩,?_⟩
 ·intro Lq wq xq hh;simp only [AV];refine Reg.go rfl ?_;have HK:=AX.out 0 _ _ _ rfl hh.cls ((A2.out _ _).mpr rfl);go_simp;exact HK.out
 ·intro Lq wq xq hh;simp only [AV];refine Reg.go rfl ?_;have HK:=AX.out 1 _ _ _ rfl hh.cls ((A3.out _ _).mpr rfl);go_simp;exact HK.out
 ·intro Lq wq xq hh;simp only [AV];refine Reg.go rfl ?_;have HK:=AX.out 2 _ _ _ rfl hh.cls ((A4.out _ _).mpr rfl);go_simp;exact HK.out
 ·intro Lq wq xq hh;simp only [AV];refine Reg.go rfl ?_;have HK:=AX.out 3 _ _ _ rfl hh.cls ((A5.out _ _).mpr rfl);go_simp;exact HK.out
 ·intro Lq wq xq hh;simp only [AV,(A4.out _ _).mp (hh.v 2),(A5.out _ _).mp (hh.v 3)];refine Reg.go rfl ?_;have HK:=AX.out 4 _ _ _ rfl hh.cls ((Bc.out _ _).mpr rfl);go_simp;exact HK.out
 ·intro Lq wq xq hh;simp only [AV];refine Reg.go rfl ?_;have HK:=AX.out 5 _ _ _ rfl hh.cls ((A9.out _ _).mpr rfl);go_simp;exact HK.out
 ·intro Lq wq xq hh;simp only [AV];refine Reg.go rfl ?_;have HK:=AX.out 6 _ _ _ rfl hh.cls ((Ba.out _ _).mpr rfl);go_simp;exact HK.out
 ·intro Lq wq xq hh;simp only [AV,(A9.out _ _).mp (hh.v 5),(Ba.out _ _).mp (hh.v 6)];refine Reg.go rfl ?_;unfold Reg.upon;have hc:AZ Lq wq:=hh.cls;rw [AW.out] at hc;have NI:=hc.1 (Mix.one_un (hh.notYet 10 (by kernel_rfl)));go_simp;refine (oQ B gg gr wd q Rs wq (HG.out.below (Bt.out.trans (NI.mono Bt.out.size))) MK).mono ?_;rintro e w2 ⟨v2,Ns,rfl,⟨Zn,n1,n2,n3,n4⟩,hm,hb⟩;refine ⟨_,rfl,Bd.out 7 Lq w2 (by decide) (Bv.out Lq wq w2 hh.cls hb),?_,Bl.out wq w2 hb⟩;rw [A1.out];exact ⟨Ns,⟨Zn,fun b hz=>⟨Nat.le_trans NI.size (n1 b hz).1,(n1 b hz).2⟩,⟨fun i hi=>(n4.row i hi).base NI.size,n4.out,n4.apart⟩⟩,(n2.zoneP (Y:=fun b=>w.heap.size<=b)).held (fun b hb _=>Nat.le_trans (Nat.le_trans Bt.out.size NI.size) hb),hm⟩
 ·intro Lq wq xq hh;have d7:=(A1.out _ _).mp (hh.v 7);simp only [AV,(Bc.out _ _).mp (hh.v 4)];refine Reg.go rfl ?_;unfold Reg.upon;have hc:AZ Lq wq:=hh.cls;rw [AW.out] at hc;have hc0:=hc.1 (Mix.one_un (hh.notYet 10 (by kernel_rfl)));obtain ⟨Ns,hn,hh8,hm⟩:=d7;obtain ⟨ao4,ca4,e4⟩:=hh8.len;obtain ⟨A8,hA8⟩:=ae ((if ct=q then some (⟨gt,0,none⟩ : Addr) else some ⟨gt,q,none⟩));have hb1:=AU wq (.cells #[.slice A8 (l - q) (ct - q),xq 7] 117);have hcc:=HC.out wq hc0;rw [<-hA8] at hcc ⊢;have ho:=xl (Z:=fun b=>w.heap.size<=b) (B:=w.heap.size) hcc hh8 (Nat.le_trans Bt.out.size hc0.size) (fun _ h=>h);rw [e4] at ho hb1 ⊢;clear hA8 hcc;go_simp;refine ⟨Bd.out 8 Lq _ (by decide) (Bv.out Lq wq _ hh.cls hb1),?_,Bl.out wq _ hb1⟩;rw [A7.out];exact ⟨Ns,hn.upd (S:=fun b=>b<w1.heap.size) (.ofBelow hb1) (fun _ e=>e),ho,hm⟩
 ·intro Lq wq xq hh;have d8:=(A7.out _ _).mp (hh.v 8);simp only [AV];refine Reg.go rfl ?_;unfold Reg.upon;have hc:AZ Lq wq:=hh.cls;rw [AW.out] at hc;have hc0:=hc.1 (Mix.one_un (hh.notYet 10 (by kernel_rfl)));obtain ⟨Ns,hn,No,hm⟩:=d8;have GI:=(gC hm).1;go_simp;refine (qa (fun b=>w.heap.size<=b) _ _ wq No (by simp) (by have:=LF.out;simp only [List.flatten_cons,List.flatten_nil,List.append_nil,List.length_append,List.length_drop,bn];omega)).mono ?_;rintro e w4 ⟨v4,rfl,ho,hb⟩;refine ⟨_,rfl,Bd.out 9 Lq w4 (by decide) (Bv.out Lq wq w4 hh.cls hb),?_,Bl.out wq w4 hb⟩;rw [Be.out];exact ⟨Ns,hn.upd (S:=fun b=>b<w1.heap.size) (.ofBelow hb) (fun _ e=>e),by simpa using ho.held (fun b h _=>Nat.le_trans (Nat.le_trans Bt.out.size hc0.size) h),hm⟩
 ·intro Lq wq xq hh;have d9:=(Be.out _ _).mp (hh.v 9);simp only [AV,(A2.out _ _).mp (hh.v 0),(A3.out _ _).mp (hh.v 1)];refine Reg.go rfl ?_;unfold Reg.upon;have hc:AZ Lq wq:=hh.cls;rw [AW.out] at hc;have hc0:=hc.1 hh.un;have AY:=Bt.out.trans (hc0.mono Bt.out.size);obtain ⟨Ns,hn,No,hm⟩:=d9;rw [HMID.out] at No;go_simp;refine (xp B gg gr wd f t q w1.heap.size Rs Ns _ w wq HG.out AY HQT.out.2 FV.out (by rw [<-Np.out];exact HQT.out.1) hn Bt.out.size hm No).mono ?_;rintro e w4 ⟨rfl,hmd,hu⟩;refine ⟨_,rfl,?_,(by rw [A0.out]),(by rw [Bi.out];exact hu)⟩;rw [AW.out]
  dsimp only
  refine ⟨fun e=>?_,fun _=>hmd⟩;rw [Mix.one_set (by rw [hh.size];decide)] at e;exact absurd e (by decide)
 intro xq DY Bp BD;rw [AW.out] at Bp;simp only [AV];have vrg10:=(A0.out _ _).mp (BD 10 (by decide));rw [vrg10];clear BD AV AX Bd Bm Bn By AW Bi Bv Bl A2 A3 A4 A5 Bc A9 Ba A1 A7 Be A0;have HE:=ab (Bp.2 (by kernel_rfl));clear Bp vrg10;go_wp2;exact bodyPost_end (by kernel_rfl) rfl ⟨rfl,HE.out⟩
end
theorem xj(p:Value)(n:Nat)(hn:n<=1024)(a b k:Int)(w:World)(hh:Calls Tryz.prog 95 #[p] w fun e w'=>e=.returned (.int .i64 n)/\w=w')(hk:cB n a b k<1):Calls Tryz.prog 227 #[p,.int .i64 a,.int .i64 b,.int .i64 k] w fun e w'=>e=.returned (.tuple #[])/\w=w':=by
 have KX:=ab (lU p n hn a b k w hh);obtain ⟨K,hK⟩:=ae (cB n a b k);rw [<-hK] at KX hk;have hd:decide (K<1)=true:=by rw [decide_eq_true_eq];exact hk
 clear hK hh hk
 go_enter Tryz.func227,Tryz.ntmps227
 go_wp2_with fail
 refine KX.out.mono ?_;rintro e w1 ⟨rfl,rfl⟩;go_wp2
 first
  | exact bodyPost_ret (v:=.tuple #[]) (by simp [results,Tryz.results227,go_sem]) rfl ⟨rfl,rfl⟩
  | exact bodyPost_end (by kernel_rfl) rfl ⟨rfl,rfl⟩
def gO(Ls:List Ln)(f t q:Nat)(up:Bool)(i:Nat):Ln :=
 if f<=i/\i<t then (if up=true then (if i+q<t then Ls.getD (i+q) zl else (List.replicate (Ls.getD i zl).1.length zc,false)) else (if f+q<=i then Ls.getD (i - q) zl else (List.replicate (Ls.getD i zl).1.length zc,false))) else Ls.getD i zl
def cL(Ls:List Ln)(f t q:Nat)(up:Bool)(i:Nat):Ln:=((gO Ls f t q up i).1,if i+1=f\/(up=false/\i+1=t) then false else (gO Ls f t q up i).2)
def gM(Ls:List Ln)(f t q:Nat)(up:Bool):List Ln:=(List.range Ls.length).map (cL Ls f t q up)
theorem dJ{Rs:List Rw}{Ls:List Ln}(h:Rs.map aO=Ls)(i:Nat)(hi:i<Rs.length):aO (Rs.getD i r0)=Ls.getD i zl:=by
 rw [<-h]
 simp [List.getD,List.getElem?_eq_getElem hi]
theorem nc{Rs:List Rw}{g:Nat->Ln}{n:Nat}(hl:Rs.length=n)(h:∀ i,i<n->aO (Rs.getD i r0)=g i):Rs.map aO=(List.range n).map g:=by
 apply List.ext_getElem (by simp [hl])
 intro i h1 h2;have hi:i<Rs.length:=by simpa using h1
 have:=h i (by omega);simp only [List.getElem_map,List.getElem_range];rw [<-this]
 simp [List.getD,List.getElem?_eq_getElem hi]
theorem Ab(R:List Rw)(j i:Nat)(hj:j<R.length):aO ((kG R j).getD i r0)=if i=j then ((aO (R.getD i r0)).1,false) else aO (R.getD i r0):=by
 unfold kG;rw [cy _ _ _ _ _ hj]
 by_cases e:i=j
 ·subst e;rw [if_pos rfl,if_pos rfl];rfl
 ·rw [if_neg e,if_neg e]
theorem xi{Rs Ns:List Rw}{Ls:List Ln}{f t q wd:Nat}(h:Rs.map aO=Ls)(hf:f<t)(ht:t<=Rs.length)(hq:q<=t - f)(hm:Ns.map aO=List.replicate q (List.replicate wd zc,false))(hw:∀ i,i<Rs.length->(Rs.getD i r0).L.length=wd) :
  (if f=0 then Rs.take f++cT Rs Ns f t q++Rs.drop (f+(cT Rs Ns f t q).length) else kG (Rs.take f++cT Rs Ns f t q++Rs.drop (f+(cT Rs Ns f t q).length)) (f - 1)).map aO=gM Ls f t q true:=by
 have GI:=(gC hm).1;have Em:=ir (Rs:=Rs) (Ns:=Ns) (f:=f) (t:=t) (q:=q) (by omega) ht hq GI;have Pb:Ls.length=Rs.length:=by rw [<-h];simp
 obtain ⟨R',LA⟩:=ae (Rs.take f++cT Rs Ns f t q++Rs.drop (f+(cT Rs Ns f t q).length));have DB:R'.length=Rs.length:=by rw [LA,List.length_append,List.length_append,List.length_take,List.length_drop,Em];omega
 have hat:∀ i,i<Rs.length->aO (R'.getD i r0)=gO Ls f t q true i:=fun i hi=>by
  rw [LA,kf _ Em (by omega) ht];unfold gO
  by_cases c1:i<f
  ·rw [if_pos c1,if_neg (by omega)];exact dJ h i hi
  ·rw [if_neg c1]
   by_cases c2:i<t
   ·rw [if_pos c2,if_pos ⟨by omega,c2⟩,if_pos rfl,sH (by omega) ht hq GI _ (by omega)]
    by_cases c3:i+q<t
    ·rw [if_pos (by omega),if_pos c3,show f+q+(i - f)=i+q by omega];exact dJ h _ (by omega)
    ·rw [if_neg (by omega),if_neg c3,<-dJ h i hi,dJ hm _ (by omega)];have e:(List.replicate q ((List.replicate wd zc,false):Ln)).getD (i - f+q - (t - f)) zl=(List.replicate wd zc,false):=by simp [List.getD,List.getElem?_replicate,show i - f+q - (t - f)<q by omega]
     rw [e,show (aO (Rs.getD i r0)).1.length=wd from hw i hi]
   ·rw [if_neg c2,if_neg (by omega)];exact dJ h i hi
 rw [<-LA];unfold gM;rw [Pb]
 by_cases h0:f=0
 ·rw [if_pos h0];refine nc DB fun i hi=>?_
  rw [hat i hi];unfold cL;rw [if_neg (by rintro (e | ⟨e,_⟩);omega;exact absurd e (by decide))]
 ·rw [if_neg h0];refine nc (by unfold kG;rw [List.length_set];exact DB) fun i hi=>?_
  rw [Ab _ _ _ (by rw [DB];omega),hat i hi];unfold cL
  by_cases c:i=f - 1
  ·rw [if_pos c,if_pos (.inl (by omega))]
  ·rw [if_neg c,if_neg (by rintro (e | ⟨e,_⟩);omega;exact absurd e (by decide))]
theorem rM(v:Value)(Z:an)(Ls:List Ln)(a b k:Int)(up:Bool)(w:World)(hv:HeldE lineE Z w v Ls)(hl:Ls.length<=1000)(hk:cB Ls.length a b k<1):Calls Tryz.prog 170 #[v,.int .i64 a,.int .i64 b,.int .i64 k,.bool up] w (Gives w v):=by
 obtain ⟨ao,ca,rfl⟩:=hv.len;obtain ⟨n,hn⟩:=ae (Ls.length);rw [<-hn] at hl hk ⊢;have h1:max 0 (min a (n:Int))=(bD n a:Int):=by unfold bD;omega
 have h2:max 0 (min b (n:Int))=(bD n b:Int):=by unfold bD;omega
 unfold cB at hk;obtain ⟨f,hf⟩:=ae (bD n a);obtain ⟨t,ht⟩:=ae (bD n b);rw [<-hf] at h1 hk;rw [<-ht] at h2 hk;clear hf ht hv hn
 by_cases I6:t<=f
 ·have hd:decide ((t:Int)<=f)=true:=ah (by omega);have hdn:decide (t<=f)=true:=ah (by omega);clear hk I6
  go_enter Tryz.func170,Tryz.ntmps170
  go_wp2;go_ret;exact ⟨af,Below.refl _ _⟩
 ·have hd:decide ((t:Int)<=f)=false:=ai (by omega);have hdn:decide (t<=f)=false:=ai (by omega);have Gh:decide (k<1)=true:=ah (by omega);clear hk I6
  go_enter Tryz.func170,Tryz.ntmps170
  go_wp2;go_ret;exact ⟨af,Below.refl _ _⟩
end Go.Proofs.YtoeggiplcaegoaaGreatDoor
