import Derived.Test.YtoeggiplcaegoaaGreatDoorZ0
import Derived.Test.YtoeggiplcaegoaaGreatDoorMg6
import Derived.Test.YtoeggiplcaegoaaGreatDoorMg5
import Derived.Test.YtoeggiplcaegoaaGreatDoorMg1
import Derived.Test.YtoeggiplcaegoaaGreatDoorRowQ
import Derived.Lib.MinMax
import Derived.Deep.Cut
import Derived.Test.YtoeggiplcaegoaaGreatDoorRowR
import Derived.Test.YtoeggiplcaegoaaGreatDoorCellP
import Derived.Test.YtoeggiplcaegoaaGreatDoorMg4
import Derived.Lib.AppendZeros
set_option maxRecDepth 100000
set_option linter.unusedVariables false
set_option linter.unusedSimpArgs false
set_option maxHeartbeats 6000000
namespace Go.Proofs.YtoeggiplcaegoaaGreatDoor
open Go.RowKit Go.ChangeShapes Go.WideShapes
section
variable {Yo : an}
abbrev Ln:=List Cl × Bool
abbrev zl:Ln:=([],false)
def lineE:Elem Ln:=prE yT zn
theorem line_rep{Z:an}{w:World}{C:List Value}{x:Ln}:lineE.rep Z w C x↔∃ v,C=[v,.bool x.2]/\HeldE cellE Z w v x.1:=by
 constructor
 ·rintro ⟨C1,C2,rfl,⟨v,rfl,h⟩,rfl⟩;exact ⟨v,rfl,h⟩
 ·rintro ⟨v,rfl,h⟩;exact ⟨[v],[_],rfl,⟨v,rfl,h⟩,rfl⟩
theorem fj{Z:an}{w:World}{ao:Option Addr}{n cap:Nat}{L:List Ln}(h:HeldE lineE Z w (.slice ao n cap) L):n=L.length/\n<=cap/\∀ i,i<L.length->∃ b off v,ao=some ⟨b,off,none⟩/\b<w.heap.size/\Z b /\
  w.cell? ⟨b,off+i * 2,none⟩=some v/\w.cell? ⟨b,off+i * 2+1,none⟩=some (.bool (L.getD i zl).2)/\HeldE cellE Z w v (L.getD i zl).1:=by
 obtain ⟨h1,h2,h3⟩:=h.spots;refine ⟨h1,h2,fun i hi=>?_⟩;obtain ⟨b,off,rfl,hb,hz,C,hC,hr⟩:=h3 i hi;obtain ⟨v,rfl,ht⟩:=line_rep.1 hr;exact ⟨b,off,v,rfl,hb,hz,hC 0 (by decide),hC 1 (by decide),ht⟩
theorem bS:(Tryz.prog.info? 104).map (fun i=>(i.zero,i.size,i.bytes))=some (some (.agg #[.slice none 0 0,.bool false]),lineE.size,32):=by kernel_rfl
def cL(x:Option Nat):Value:=.pointer (x.map fun g=>⟨g,0,none⟩)
def ptrE:Elem (Option Nat) where
 size:=1
 zero:=none
 rep:=fun _ _ C x=>C=[cL x]
 len:=by rintro _ _ _ _ rfl;rfl
 one:=by
  rintro _ _ _ _ rfl u hu
  simp at hu
  subst hu;rfl
 keep:=fun _ _ h=>h
theorem fQ:(Tryz.prog.info? 113).map (fun i=>(i.zero,i.size,i.bytes))=some (some (.pointer none),ptrE.size,8):=by kernel_rfl
theorem lH:∀ xs:List (Option Nat),(xs.map fun x=>[cL x]).flatten=xs.map cL
 | []=>rfl
 | x :: xs=>by rw [List.map_cons,List.flatten_cons,lH xs];rfl
theorem di{Z:an}{w:World}{B n:Nat}{ty:TypeId}{v:Value}{xs:List (Option Nat)}(h:w.ownsRow B ty 1 v n (xs.map cL)):OwnE ptrE Z w B ty v xs:=by
 have hn:xs.length=n:=by have:=h.1;simpa using this
 subst hn;refine ⟨xs.map fun x=>[cL x],?_,by simp,fun i hi=>?_⟩
 ·rw [lH];exact h
 ·show _=_
  simp [List.getD,List.getElem?_eq_getElem hi]
theorem OwnE.ptrs{Z:an}{w:World}{B:Nat}{ty:TypeId}{v:Value}{xs:List (Option Nat)}(h:OwnE ptrE Z w B ty v xs):w.ownsRow B ty 1 v xs.length (xs.map cL):=by
 obtain ⟨CS,h1,h2,h3⟩:=h;have e:CS.flatten=xs.map cL:=by
  apply List.ext_getElem?
  intro i;have EM:∀ C ∈ CS,C.length=1:=fI h2 h3
  by_cases hi:i<xs.length
  ·have:=fX EM i 0 (by omega) (by omega);rw [Nat.mul_one,Nat.add_zero] at this;rw [this,show CS.getD i []=[cL (xs.getD i none)] from h3 i hi]
   simp [List.getD,List.getElem?_eq_getElem hi]
  ·rw [List.getElem?_eq_none (by rw [eq EM];omega),List.getElem?_eq_none (by simp;omega)]
 rw [<-e];exact h1
theorem OwnE.zoneP{Z Y:an}{w:World}{B:Nat}{ty:TypeId}{v:Value}{xs:List (Option Nat)}(h:OwnE ptrE Z w B ty v xs):OwnE ptrE Y w B ty v xs:=di h.ptrs
theorem rT{Z:an}{w:World}{B g n cap:Nat}{ty:TypeId}{xs:List (Option Nat)}(h:OwnE ptrE Z w B ty (.slice (some ⟨g,0,none⟩) n cap) xs):n=xs.length:=by
 rcases h.ptrs.2 with ⟨e,_⟩ | ⟨g',cap',cur,e,_⟩
 ·cases e
 ·simp only [Value.slice.injEq] at e;exact e.2.1
theorem jq{Z:an}{w:World}{B g n cap:Nat}{ty:TypeId}{xs:List (Option Nat)}(h:OwnE ptrE Z w B ty (.slice (some ⟨g,0,none⟩) n cap) xs)(i:Nat)(hi:i<xs.length):w.cell? ⟨g,i,none⟩=some (cL (xs.getD i none))/\w.frozen? ⟨g,i,none⟩=false:=by
 have hr:=h.ptrs;obtain rfl:=rT h;refine ⟨?_,hr.frozenAt i⟩;rw [hr.cellAt i (by omega)]
 simp [List.getD,List.getElem?_eq_getElem hi]
theorem om{Z:an}{w:World}{B g n cap:Nat}{ty:TypeId}{xs:List (Option Nat)}(h:OwnE ptrE Z w B ty (.slice (some ⟨g,0,none⟩) n cap) xs)(i:Nat)(_:i<xs.length)(x:Option Nat):OwnE ptrE Z (w.setCell ⟨g,i,none⟩ (cL x)) B ty (.slice (some ⟨g,0,none⟩) n cap) (xs.set i x):=by
 have hr:=h.ptrs;obtain rfl:=rT h;have hst:=(hr.stored i (cL x)).1;rw [<-List.map_set] at hst;exact di hst
structure Rw where
 g:Nat
 gc:Nat
 L:List Cl
 wrap:Bool
def r0:Rw:=⟨0,0,[],false⟩
def aQ(r:Rw):Ln:=(r.L,r.wrap)
def ptrs(Rs:List Rw):List (Option Nat):=Rs.map fun r=>some r.g
theorem bn(Rs:List Rw):(ptrs Rs).length=Rs.length:=by simp [ptrs]
theorem gm(Rs:List Rw)(i:Nat)(h:i<Rs.length):(ptrs Rs).getD i none=some (Rs.getD i r0).g:=by simp [ptrs,List.getD,List.getElem?_eq_getElem h]
theorem RowAt.tight{Z:an}{w:World}{B g gc:Nat}{L:List Cl}{wrap:Bool}(h:RowAt Z w B g gc L wrap):RowAt (fun b=>Z b/\b<w.heap.size/\b≠g/\b≠gc) w B g gc L wrap:=by
 obtain ⟨cap,h1,h2,h3,⟨CS,k1,k2,k3⟩,h5⟩:=h;exact ⟨cap,h1,h2,h3,⟨CS,k1,k2,fun i hi=>cellE.keep (.refl _ _) (fun b hb hz=>⟨⟨⟨hz.1.1,hb,hz.1.2,fun e=>hz.2 (by subst e;rfl)⟩,hz.1.2⟩,hz.2⟩) (k3 i hi)⟩,h5⟩
theorem RowAt.types{Z:an}{w:World}{B g gc:Nat}{L:List Cl}{wrap:Bool}(h:RowAt Z w B g gc L wrap):(∃ C,w.heap[g]? = some (.cells C 187 (0,0)))/\∃ C,w.heap[gc]? = some (.cells C 147 (0,0)):=by
 obtain ⟨cap,h1,h2,h3,⟨CS,⟨_,k1⟩,k2,k3⟩,h5,_⟩:=h;refine ⟨⟨_,h1⟩,?_⟩
 rcases k1 with ⟨e,_⟩ | ⟨g',cap',cur,e,_,hg,_⟩
 ·cases e
 ·simp only [Value.slice.injEq,Option.some.injEq,Addr.mk.injEq] at e;obtain ⟨⟨rfl,_⟩,_⟩:=e;exact ⟨cur,hg⟩
structure RowsAt (Z:an) (w:World) (B:Nat) (Rs:List Rw):Prop where
 row:∀ i,i<Rs.length->RowAt Z w B (Rs.getD i r0).g (Rs.getD i r0).gc (Rs.getD i r0).L (Rs.getD i r0).wrap
 out:∀ i,i<Rs.length->¬ Z (Rs.getD i r0).g/\¬ Z (Rs.getD i r0).gc
 apart:∀ i j,i<Rs.length->j<Rs.length->i≠j->(Rs.getD i r0).g≠(Rs.getD j r0).g/\(Rs.getD i r0).gc≠(Rs.getD j r0).gc
section
variable {Z Y S : an} {w w' : World} {B : Nat} {Rs : List Rw}
theorem RowsAt.nil(Z:an)(w:World)(B:Nat):RowsAt Z w B []:=⟨fun i hi=>absurd hi (Nat.not_lt_zero _),fun i hi=>absurd hi (Nat.not_lt_zero _),fun i j hi=>absurd hi (Nat.not_lt_zero _)⟩
theorem RowsAt.cross(h:RowsAt Z w B Rs)(i j:Nat)(hi:i<Rs.length)(hj:j<Rs.length):(Rs.getD i r0).g≠(Rs.getD j r0).gc:=by
 intro e;obtain ⟨⟨C,h1⟩,_⟩:=(h.row i hi).types;obtain ⟨_,D,h2⟩:=(h.row j hj).types;rw [e,h2] at h1;simp only [Option.some.injEq,Obj.cells.injEq] at h1;exact absurd h1.2.1 (by decide)
theorem RowsAt.upd(h:RowsAt Z w B Rs)(hu:Upd S w w')(hz:∀ b,Z b->¬ S b)(hs:∀ i,i<Rs.length->¬ S (Rs.getD i r0).g/\¬ S (Rs.getD i r0).gc):RowsAt Z w' B Rs :=
 ⟨fun i hi=>(h.row i hi).upd hu hz (hs i hi).1 (hs i hi).2,h.out,h.apart⟩
theorem RowsAt.below(h:RowsAt Z w B Rs)(hb:Below w.heap.size w w'):RowsAt Z w' B Rs:=⟨fun i hi=>(h.row i hi).below hb,h.out,h.apart⟩
theorem RowsAt.lt(h:RowsAt Z w B Rs):∀ i,i<Rs.length->(Rs.getD i r0).g<w.heap.size/\(Rs.getD i r0).gc<w.heap.size/\B<=(Rs.getD i r0).gc/\B<=(Rs.getD i r0).g:=fun i hi=>(h.row i hi).lt
theorem RowsAt.snoc(h:RowsAt Z w B Rs)(hz:∀ b,Z b->b<w.heap.size){g gc B':Nat}{L:List Cl}{wrap:Bool}(hB:B<=B')(hB':w.heap.size<=B')(hr:RowAt (fun b=>w.heap.size<=b) w' B' g gc L wrap)(hb:Below w.heap.size w w') :
  RowsAt (fun b=>Z b\/(w.heap.size<=b/\b<w'.heap.size/\b≠g/\b≠gc)) w' B (Rs++[⟨g,gc,L,wrap⟩]):=by
 have hlt:=hr.lt;have hat:∀ i,i<(Rs++[(⟨g,gc,L,wrap⟩ : Rw)]).length->(i<Rs.length/\(Rs++[(⟨g,gc,L,wrap⟩ : Rw)]).getD i r0=Rs.getD i r0)\/(i=Rs.length/\(Rs++[(⟨g,gc,L,wrap⟩ : Rw)]).getD i r0=⟨g,gc,L,wrap⟩):=fun i hi=>by
  rw [bU];rw [List.length_append,List.length_singleton] at hi
  by_cases e:i<Rs.length
  ·exact .inl ⟨e,if_pos e⟩
  ·have:i=Rs.length:=by omega
   subst this;exact .inr ⟨rfl,by rw [if_neg e,Nat.sub_self];rfl⟩
 refine ⟨fun i hi=>?_,fun i hi=>?_,fun i j hi hj Mv=>?_⟩
 ·rcases hat i hi with ⟨hl,e⟩ | ⟨_,e⟩
  ·rw [e];exact ((h.row i hl).below hb).keep (.refl _ _) fun b _ hz=>.inl hz
  ·rw [e];exact (hr.tight.base hB).keep (.refl _ _) fun b _ hz=>.inr hz
 ·rcases hat i hi with ⟨hl,e⟩ | ⟨_,e⟩
  ·rw [e];have:=h.lt i hl;have:=h.out i hl;exact ⟨fun hz=>by rcases hz with hz | hz;exact this.1 hz;omega,fun hz=>by rcases hz with hz | hz;exact this.2 hz;omega⟩
  ·rw [e];exact ⟨fun hzz=>by rcases hzz with hzz | hzz;have:=hz _ hzz;simp only at this;omega;exact hzz.2.2.1 rfl,fun hzz=>by rcases hzz with hzz | hzz;have:=hz _ hzz;simp only at this;omega;exact hzz.2.2.2 rfl⟩
 ·rcases hat i hi with ⟨hl,e⟩ | ⟨hl,e⟩ <;> rcases hat j hj with ⟨hl',e'⟩ | ⟨hl',e'⟩ <;> rw [e,e']
  ·exact h.apart i j hl hl' Mv
  ·have:=h.lt i hl;exact ⟨by simp only;omega,by simp only;omega⟩
  ·have:=h.lt j hl';exact ⟨by simp only;omega,by simp only;omega⟩
  ·omega
end
def GridY(Yo:an)(w:World)(B gg gr wd:Nat)(Rs:List Rw):Prop :=
 ∃ (Z:an) (cap:Nat),(∀ b,Z b->B<=b/\b<w.heap.size)/\Has w gg [.int .i64 wd,.slice (some ⟨gr,0,none⟩) Rs.length cap] 119/\B<=gg/\OwnE ptrE (fun _=>True) w B 113 (.slice (some ⟨gr,0,none⟩) Rs.length cap) (ptrs Rs)/\¬ Z gg/\¬ Z gr/\RowsAt Z w B Rs/\(∀ i,i<Rs.length->(Rs.getD i r0).L.length=wd)/\0<Rs.length/\Rs.length<=1024/\∀ b,(Z b\/w.heap.size<=b)->Yo b
abbrev lI(w:World)(B gg gr wd:Nat)(Rs:List Rw):Prop:=GridY (fun _=>True) w B gg gr wd Rs
section
variable {S : an} {w w' : World} {B gg gr wd : Nat} {Rs : List Rw}
theorem GridY.lt(h:GridY Yo w B gg gr wd Rs):B<=gg/\gg<w.heap.size/\B<=gr/\gr<w.heap.size/\gg≠gr/\∀ i,i<Rs.length->(Rs.getD i r0).g<w.heap.size/\(Rs.getD i r0).gc<w.heap.size/\B<=(Rs.getD i r0).gc/\B<=(Rs.getD i r0).g:=by
 obtain ⟨Z,cap,h1,h2,h3,h4,h5,h6,h7,h8⟩:=h;refine ⟨h3,h2.lt,(h4.lt gr rfl).1,(h4.lt gr rfl).2,fun e=>?_,h7.lt⟩;obtain ⟨_,k⟩:=h4.ptrs
 rcases k with ⟨e',_⟩ | ⟨g',cap',cur,e',_,hg,_⟩
 ·cases e'
 ·simp only [Value.slice.injEq,Option.some.injEq,Addr.mk.injEq] at e';obtain ⟨⟨rfl,_⟩,_⟩:=e';rw [<-e] at hg;unfold Has at h2;rw [h2] at hg;simp only [Option.some.injEq,Obj.cells.injEq] at hg;exact absurd hg.2.1 (by decide)
theorem GridY.keep(h:GridY Yo w B gg gr wd Rs)(hu:Upd S w w')(hs:∀ b,B<=b->b<w.heap.size->¬ S b):GridY Yo w' B gg gr wd Rs:=by
 have hlt:=h.lt;obtain ⟨Z,cap,h1,h2,h3,h4,h5,h6,h7,h8,h9,h10,hY⟩:=h;have hk:=hu.keep;refine ⟨Z,cap,fun b hb=>⟨(h1 b hb).1,Nat.lt_of_lt_of_le (h1 b hb).2 hu.size⟩,hk.has h2 (hs _ hlt.1 hlt.2.1),h3,?_,h5,h6,h7.upd hu (fun b hz=>hs b (h1 b hz).1 (h1 b hz).2) (fun i hi=>⟨hs _ (hlt.2.2.2.2.2 i hi).2.2.2 (hlt.2.2.2.2.2 i hi).1,hs _ (hlt.2.2.2.2.2 i hi).2.2.1 (hlt.2.2.2.2.2 i hi).2.1⟩),h8,h9,h10,fun b hb=>hY b (hb.imp id (Nat.le_trans hu.size))⟩;exact di (hk.own h4.ptrs fun b hb=>by
  have:gr=b:=by simpa [Value.ownBlock] using hb
  subst this;exact hs _ hlt.2.2.1 hlt.2.2.2.1)
theorem GridY.below(h:GridY Yo w B gg gr wd Rs)(hb:Below w.heap.size w w'):GridY Yo w' B gg gr wd Rs:=h.keep (S:=fun b=>w.heap.size<=b) (.ofBelow hb) fun b _ h1 h2=>by omega
theorem GridY.row(h:GridY Yo w B gg gr wd Rs){i:Nat}(hi:i<Rs.length):RowAt (fun _=>True) w B (Rs.getD i r0).g (Rs.getD i r0).gc (Rs.getD i r0).L (Rs.getD i r0).wrap:=by
 obtain ⟨Z,cap,h1,h2,h3,h4,h5,h6,h7,h8⟩:=h;exact (h7.row i hi).keep (.refl _ _) fun _ _ _=>trivial
theorem GridY.sizes(h:GridY Yo w B gg gr wd Rs):0<Rs.length/\Rs.length<=1024/\0<wd/\wd<=1024/\∀ i,i<Rs.length->(Rs.getD i r0).L.length=wd:=by
 obtain ⟨Z,cap,h1,h2,h3,h4,h5,h6,h7,h8,h9,h10⟩:=h;obtain ⟨k1,k2,_⟩:=(h7.row 0 h9).len;rw [h8 0 h9] at k1 k2;exact ⟨h9,h10.1,k1,k2,h8⟩
theorem GridY.any(h:GridY Yo w B gg gr wd Rs):lI w B gg gr wd Rs:=by
 obtain ⟨Z,cap,h1,h2,h3,h4,h5,h6,h7,h8,h9,h10,hY⟩:=h;exact ⟨Z,cap,h1,h2,h3,h4,h5,h6,h7,h8,h9,h10,fun _ _=>trivial⟩
theorem GridY.new(h:GridY Yo w B gg gr wd Rs)(o:Obj):GridY (fun b=>b≠w.heap.size) (w.alloc o) B gg gr wd Rs:=by
 have hb:=zI w o;have hlt:=h.lt;obtain ⟨Z,cap,h1,h2,h3,h4,h5,h6,h7,h8,h9,h10,hY⟩:=h.below hb;obtain ⟨Z',cap',k1,k2,k3,k4,k5,k6,k7,k8,k9,k10,kY⟩:=h;have hs:(w.alloc o).heap.size=w.heap.size+1:=by simp
 refine ⟨Z',cap',fun b hz=>⟨(k1 b hz).1,by have:=(k1 b hz).2;omega⟩,k2.below hb k2.lt,k3,k4.below hb,k5,k6,k7.below hb,k8,k9,k10,fun b hz=>?_⟩
 rcases hz with hz | hz
 ·have:=(k1 b hz).2;omega
 ·omega
theorem GridY.cells(h:GridY Yo w B gg gr wd Rs):∃ cap,w.cell? ⟨gg,0,none⟩=some (.int .i64 wd)/\w.cell? ⟨gg,1,none⟩=some (.slice (some ⟨gr,0,none⟩) Rs.length cap)/\Rs.length<=cap/\∀ i,i<Rs.length->w.cell? ⟨gr,i,none⟩=some (.pointer (some ⟨(Rs.getD i r0).g,0,none⟩)):=by
 obtain ⟨Z,cap,h1,h2,h3,h4,h5,h6,h7,h8,h9,h10⟩:=h;refine ⟨cap,h2.cell 0 _ rfl,h2.cell 1 _ rfl,?_,fun i hi=>?_⟩
 ·obtain ⟨_,k⟩:=h4.ptrs
  rcases k with ⟨e,_⟩ | ⟨g',cap',cur,e,_,_,hn,_⟩
  ·cases e
  ·simp only [Value.slice.injEq] at e;obtain ⟨_,_,rfl⟩:=e;rw [bn] at hn;exact hn
 ·have:=(jq h4 i (by rw [bn];exact hi)).1;rw [gm Rs i hi] at this;exact this
end
theorem mR(n:Int)(w:World):Calls Tryz.prog 154 #[.int .i64 n] w fun e w'=>e=.returned (.int .i64 (da n))/\w=w':=by
 have HE:=ab (show min (max n 1) 1024=(da n:Int) by unfold da;omega)
 go_enter Tryz.func154,Tryz.ntmps154
 go_wp2;go_ret;exact ⟨al (by rw [<-HE.out];try rfl),rfl⟩
theorem eX(B gg gr wd:Nat)(Rs:List Rw)(w:World)(h:GridY Yo w B gg gr wd Rs):Calls Tryz.prog 106 #[.pointer (some ⟨gg,0,none⟩)] w fun e w'=>e=.returned (.int .i64 wd)/\w=w':=by
 obtain ⟨cap,c0,c1,_⟩:=h.cells;clear h
 go_enter Tryz.func106,Tryz.ntmps106
 go_wp2;go_ret;exact ⟨af,rfl⟩
theorem de(B gg gr wd:Nat)(Rs:List Rw)(w:World)(h:GridY Yo w B gg gr wd Rs):Calls Tryz.prog 95 #[.pointer (some ⟨gg,0,none⟩)] w fun e w'=>e=.returned (.int .i64 Rs.length)/\w=w':=by
 obtain ⟨cap,c0,c1,_⟩:=h.cells;clear h
 go_enter Tryz.func95,Tryz.ntmps95
 go_wp2;go_ret;exact ⟨af,rfl⟩
theorem ie(B gg gr wd:Nat)(Rs:List Rw)(i:Nat)(w:World)(h:GridY Yo w B gg gr wd Rs)(hi:i<Rs.length):Calls Tryz.prog 62 #[.pointer (some ⟨gg,0,none⟩),.int .i64 i] w fun e w'=>e=.returned (.pointer (some ⟨(Rs.getD i r0).g,0,none⟩))/\w=w':=by
 obtain ⟨cap,c0,c1,Bg,hc⟩:=h.cells;have cr:=hc i hi;obtain ⟨p,hp⟩:=ae ((Rs.getD i r0).g);rw [<-hp] at cr ⊢;have HH:=ab (de B gg gr wd Rs w h);have hsz:=h.sizes;obtain ⟨n,hn⟩:=ae (Rs.length);rw [<-hn] at c1 HH Bg hi hsz;have ER:decide ((i:Int)<0)=false:=ai (by omega);have Ii:decide ((n:Int)<=i)=false:=ai (by omega);have I8:decide (n<=i)=false:=ai (by omega);have GU:n<=1024:=hsz.2.1;clear h hc hn hp hsz
 go_enter Tryz.func62,Tryz.ntmps62
 go_wp2_with fail
 refine HH.out.mono ?_;rintro e w1 ⟨rfl,rfl⟩;go_wp2;go_ret;exact ⟨af,rfl⟩
theorem vO(B gg gr wd:Nat)(Rs:List Rw)(i:Int)(w:World)(h:GridY Yo w B gg gr wd Rs)(hi:i<0\/(Rs.length:Int)<=i):Calls Tryz.prog 62 #[.pointer (some ⟨gg,0,none⟩),.int .i64 i] w fun e w'=>e=.returned (.pointer none)/\w=w':=by
 have HH:=ab (de B gg gr wd Rs w h);obtain ⟨n,hn⟩:=ae (Rs.length);rw [<-hn] at HH hi;clear h hn
 by_cases h0:i<0
 ·have ER:decide (i<0)=true:=by rw [decide_eq_true_eq];exact h0
  clear h0 hi
  go_enter Tryz.func62,Tryz.ntmps62
  go_wp2;go_ret;exact ⟨af,rfl⟩
 ·have ER:decide (i<0)=false:=by rw [decide_eq_false_iff_not];exact h0
  have Ii:decide ((n:Int)<=i)=true:=ah (by omega);clear h0 hi
  go_enter Tryz.func62,Tryz.ntmps62
  go_wp2_with fail
  refine HH.out.mono ?_;rintro e w1 ⟨rfl,rfl⟩;go_wp2;go_ret;exact ⟨af,rfl⟩
end
def fy{α:Type}(f:Nat->α)(z:α)(n k:Nat):List α:=(List.range n).map fun i=>if i<k then f i else z
theorem fP{α:Type}(f:Nat->α)(z:α)(n k:Nat):(fy f z n k).length=n:=by simp [fy]
theorem tr{α:Type}(f:Nat->α)(z:α)(n:Nat):fy f z n 0=List.replicate n z:=by
 apply List.ext_getElem?
 intro i
 by_cases h:i<n
 ·simp [fy,List.getElem?_replicate,h]
 ·rw [List.getElem?_eq_none (by rw [fP];omega),List.getElem?_eq_none (by simp;omega)]
theorem vM{α:Type}(f:Nat->α)(z:α)(n k:Nat)(h:k<n):(fy f z n k).set k (f k)=fy f z n (k+1):=by
 apply List.ext_getElem?
 intro i
 by_cases hi:i<n
 ·by_cases e:i=k
  ·subst e;rw [List.getElem?_set_self (by rw [fP];exact hi)]
   simp [fy,hi]
  ·rw [List.getElem?_set_ne (Ne.symm e)]
   simp [fy,hi]
   by_cases h2:i<k
   ·rw [if_pos h2,if_pos (by omega)]
   ·rw [if_neg h2,if_neg (by omega)]
 ·rw [List.getElem?_eq_none (by rw [List.length_set,fP];omega),List.getElem?_eq_none (by rw [fP];omega)]
theorem vN{α β:Type}(g:α->β)(d:α)(z:β)(l:List α):fy (fun i=>g (l.getD i d)) z l.length l.length=l.map g:=by
 apply List.ext_getElem?
 intro i
 by_cases hi:i<l.length
 ·simp [fy,hi,List.getD,List.getElem?_eq_getElem hi]
 ·rw [List.getElem?_eq_none (by rw [fP];omega),List.getElem?_eq_none (by simp;omega)]
theorem tw(Z:an)(w:World):lineE.rep Z w [.slice none 0 0,.bool false] zl:=line_rep.2 ⟨_,rfl,HeldE.nil _ _ _⟩
theorem tx{Z:an}{w:World}{B n:Nat}{v:Value}(h:w.ownsRow B 104 2 v n (madeCells (Value.agg #[.slice none 0 0,.bool false]).cells (n * 2)).toList):OwnE lineE Z w B 104 v (List.replicate n zl):=by
 have hc:(Value.agg #[.slice none 0 0,.bool false]).cells=[Value.slice none 0 0,.bool false].toArray:=by kernel_rfl
 have he:=j5 [Value.slice none 0 0,.bool false] (by decide) n;rw [hc,show n * 2=n * [Value.slice none 0 0,.bool false].length from rfl,he] at h;refine ⟨List.replicate n [.slice none 0 0,.bool false],by rw [List.length_replicate];exact h,by simp,fun i hi=>?_⟩;rw [List.length_replicate] at hi;have e1:(List.replicate n [Value.slice none 0 0,.bool false]).getD i []=[.slice none 0 0,.bool false]:=by simp [List.getD,List.getElem?_replicate,hi]
 have e2:(List.replicate n zl).getD i lineE.zero=zl:=by simp [List.getD,List.getElem?_replicate,hi]
 rw [e1,e2];exact tw _ _
theorem qY{Yo:an}(B gg gr wd:Nat)(Rs:List Rw)(w:World)(h:GridY Yo w B gg gr wd Rs):Calls Tryz.prog 41 #[.pointer (some ⟨gg,0,none⟩)] w (fk lineE (fun b=>w.heap.size<=b) 104 w (Rs.map aQ)):=by
 have HG:=ab h;have HH:=ab (de B gg gr wd Rs w h);have EV:=ab h.sizes;have LT:=ab h.lt;have O5:=vN aQ r0 zl Rs;obtain ⟨i0,hi,hz0,hz1,hz2⟩:=info_parts bS;obtain ⟨n,hn⟩:=ae (Rs.length);have HN:=ab hn;rw [<-hn] at HH O5;have HFA:=ab O5;have GU:n<=1024:=by rw [hn];exact h.sizes.2.1
 clear h hn O5
 go_enter Tryz.func41,Tryz.ntmps41
 go_wp2_with fail
 refine HH.out.mono ?_;rintro e w1 ⟨rfl,rfl⟩
 go_wp2_with (at_make;refine wpList_make_full w rfl (.tmp 6) (.tmp 6) 22 rfl w.heap.size 104 i0 (.agg #[.slice none 0 0,.bool false]) 2 Tryz.underlying22 hi hz0 hz1 .i64 .i64 _ _ n rfl rfl rfl rfl (by rw [hz2];omega) (by unfold maxLen;omega) (Nat.le_refl _) ?_)
 intro w1 hown1 hg1;have hb1:Below w.heap.size w w1:=(Below.refl _ _).grown hg1 (Nat.le_refl _) (by intro k hk;cases hk);have AA:OwnE lineE (fun b=>w.heap.size<=b) w1 w.heap.size 104 (.slice (some ⟨w.heap.size,0,none⟩) n n) (fy (fun i=>aQ (Rs.getD i r0)) zl n 0):=by rw [tr];exact tx hown1
 have A4:=ab AA;have Ah:=ab hb1;generalize Lc:w.heap.size=g at A4;have Px:=ab Lc;clear hown1 hg1 hb1 AA hi hz0 hz1 hz2 Lc HH;go_wp2
 go_loopw [10] (fun i wr=>∃ k:Nat,k<=n/\i=.int .i64 k/\OwnE lineE (fun b=>g<=b) wr g 104 (.slice (some ⟨g,0,none⟩) n n) (fy (fun i=>aQ (Rs.getD i r0)) zl n k)/\Below w.heap.size w wr) (fun i _=>n - (intOf i).toNat)
 case atStart=>exact ⟨0,Nat.zero_le _,rfl,A4.out,Ah.out⟩
 case round =>
  obtain ⟨k,hk,rfl,hown,zN⟩:=hrel;have z5:=ab zN;have HO:=ab hown;clear zN hown
  by_cases hlt:k<n
  ·have hg:=HG.out.below z5.out;obtain ⟨cap,c0,c1,Bg,hc⟩:=hg.cells;have cr:=hc k (by rw [<-HN.out];exact hlt);have hr:=hg.row (i:=k) (by rw [<-HN.out];exact hlt);rw [<-HN.out] at c1 Bg;have Hf:=vM (fun i=>aQ (Rs.getD i r0)) zl n k hlt;obtain ⟨r,CW⟩:=ae (Rs.getD k r0);rw [<-CW] at cr hr
   try simp only at Hf
   rw [<-CW] at Hf;obtain ⟨p,pc,L,wrap⟩:=r;simp only at cr hr;have Ob:=ab Hf;have HR:=ab hr;have ME:gg<wr.heap.size/\gr<wr.heap.size:=⟨hg.lt.2.1,hg.lt.2.2.2.1⟩;have JY:g<wr.heap.size/\g<=wr.heap.size:=⟨(HO.out.lt g rfl).2,Nat.le_of_lt (HO.out.lt g rfl).2⟩;have K6:=ab (show ∀ w2,Below wr.heap.size wr w2->w2.cell? ⟨gg,1,none⟩=some (.slice (some ⟨gr,0,none⟩) n cap) from fun w2 b=>(b.cell (p:=⟨gg,1,none⟩) ME.1).trans c1);have HCR:=ab (show ∀ w2,Below wr.heap.size wr w2->w2.cell? ⟨gr,k,none⟩=some (.pointer (some ⟨p,0,none⟩)) from fun w2 b=>(b.cell (p:=⟨gr,k,none⟩) ME.2).trans cr);have IZ:=ab (fP (fun i=>aQ (Rs.getD i r0)) zl n k);obtain ⟨F,hF⟩:=ae (fy (fun i=>aQ (Rs.getD i r0)) zl n k);rw [<-hF] at HO Ob IZ;clear hc hg cr c0 c1 hr CW Hf hF;go_wp2;obtain ⟨zM,zU⟩ : ∃ CC:Array Bool->World->Prop,CC=fun L8 w'=>(Mix.one L8 20=0->Below wr.heap.size wr w')/\(Mix.one L8 20≠0->OwnE lineE (fun b=>g<=b) w' g 104 (.slice (some ⟨g,0,none⟩) n n) (fy (fun i=>aQ (Rs.getD i r0)) zl n (k+1))/\Below w.heap.size w w'):=⟨_,rfl⟩
   obtain ⟨Ar,z7⟩ : ∃ XX:World->World->Prop,XX=fun x y=>Upd (fun b=>b=g) x y:=⟨_,rfl⟩
   obtain ⟨Am,Ad,zR,zQ,zS,zT,zW,zV,zY,zP,zX,z4,zO,z6,z9,Aa,Ag,Ae,Ai,Bw,Bm,Bt,Dz,_,_,_⟩:=Reg.e24 Ar
    (fun xx _=>xx=.slice (some ⟨g,0,none⟩) n n)
    (fun xx _=>xx=.int .i64 k)
    (fun xx _=>xx=.pointer (some ⟨gg,0,none⟩))
    (fun xx _=>xx=.pointer (some ⟨gg,0,none⟩))
    (fun xx _=>xx=.pointer (some ⟨gg,1,none⟩))
    (fun xx _=>xx=.slice (some ⟨gr,0,none⟩) n cap)
    (fun xx _=>xx=.int .i64 k)
    (fun xx _=>xx=.pointer (some ⟨gr,k,none⟩))
    (fun xx _=>xx=.pointer (some ⟨p,0,none⟩))
    (fun x w'=>HeldE cellE (fun b=>wr.heap.size<=b) w' x L)
    (fun xx _=>xx=.pointer (some ⟨gg,0,none⟩))
    (fun xx _=>xx=.pointer (some ⟨gg,0,none⟩))
    (fun xx _=>xx=.pointer (some ⟨gg,1,none⟩))
    (fun xx _=>xx=.slice (some ⟨gr,0,none⟩) n cap)
    (fun xx _=>xx=.int .i64 k)
    (fun xx _=>xx=.pointer (some ⟨gr,k,none⟩))
    (fun xx _=>xx=.pointer (some ⟨p,0,none⟩))
    (fun xx _=>xx=.bool wrap)
    (fun x w'=>∃ v9,x=.agg #[v9,.bool wrap]/\HeldE cellE (fun b=>wr.heap.size<=b) w' v9 L)
    (fun xx _=>xx=.pointer (some ⟨g,k * 2,none⟩))
    (fun xx _=>xx=undef)
    (fun _ _=>True) (fun _ _=>True) (fun _ _=>True)
    (s9:=fun x w w1 hx h=>by rw [z7] at hx;first | exact HeldE.upd h hx (fun b hb e=>by omega) | (obtain ⟨v9,e9,h9⟩:=h;exact ⟨v9,e9,HeldE.upd h9 hx (fun b hb e=>by omega)⟩))
    (s18:=fun x w w1 hx h=>by rw [z7] at hx;first | exact HeldE.upd h hx (fun b hb e=>by omega) | (obtain ⟨v9,e9,h9⟩:=h;exact ⟨v9,e9,HeldE.upd h9 hx (fun b hb e=>by omega)⟩))
   have zZ:Hid (∀ i L w,(i == 20)=false ->  zM L w->zM (L.setIfInBounds i true) w):=ab (by
    intro i L w q h;simp only [Bool.or_eq_false_iff,beq_eq_false_iff_ne] at q;rw [zU] at h ⊢;simp only [Mix.one_ne q];exact h)
   have Al:Hid (∀ L w w1,zM L w->Below w.heap.size w w1->zM L w1):=ab (by
    intro L w w1 h hb;rw [zU] at h ⊢;exact ⟨fun e=>(h.1 e).trans (hb.mono (h.1 e).size),fun e=>⟨(h.2 e).1.below hb,(h.2 e).2.trans (hb.mono (h.2 e).2.size)⟩⟩)
   have Ac:=ab (show ∀ w,Ar w w from fun w=>by rw [z7];exact Upd.refl _ _);have Ab:=ab (show ∀ w w1,Below w.heap.size w w1->Ar w w1 from fun w w1 hb=>by rw [z7];exact .ofBelow hb);have Ao:=ab (show zM (Array.replicate 21 false) wr.drew from by rw [zU];exact ⟨fun _=>(Below.refl _ _).drew,fun e=>absurd (Mix.one_none _ _) e⟩);have zL:=ab (fun (i:Nat) L w v q (h:zM L w) (e:Am i v w)=>Reg.hk (zZ.out i L w q h) e (Ac.out w));have zK:=ab zU;have z8:=ab z7;clear zU z7
   go_wp2_with fail
   refine Reg.regionF Am zM Ar Ad.out (by kernel_rfl) (by kernel_rfl) (by kernel_rfl) Ao.out (fun Gl zJ=>?_);simp only [Reg.frame,Reg.dsts,List.map_cons,List.map_nil,Mix.put_lit,Reg.put_none,List.set_cons_succ,List.set_cons_zero,Nat.zero_add,Nat.reduceAdd] at zJ;refine ⟨⟨?_,?_,?_,?_,?_,?_,?_,?_,?_,?_,?_,?_,?_,?_,?_,?_,?_,?_,?_,?_,?_,trivial⟩,?_⟩
   ·intro Lq wq xq hh;simp only [zJ];refine Reg.go rfl ?_;have HK:=zL.out 0 _ _ _ rfl hh.cls ((zR.out _ _).mpr rfl);go_simp;exact HK.out
   ·intro Lq wq xq hh;simp only [zJ];refine Reg.go rfl ?_;have HK:=zL.out 1 _ _ _ rfl hh.cls ((zQ.out _ _).mpr rfl);go_simp;exact HK.out
   ·intro Lq wq xq hh;simp only [zJ];refine Reg.go rfl ?_;have HK:=zL.out 2 _ _ _ rfl hh.cls ((zS.out _ _).mpr rfl);go_simp;exact HK.out
   ·intro Lq wq xq hh;simp only [zJ,(zS.out _ _).mp (hh.v 2)];refine Reg.go rfl ?_;have HK:=zL.out 3 _ _ _ rfl hh.cls ((zT.out _ _).mpr rfl);go_simp;exact HK.out
   ·intro Lq wq xq hh;simp only [zJ,(zT.out _ _).mp (hh.v 3)];refine Reg.go rfl ?_;have HK:=zL.out 4 _ _ _ rfl hh.cls ((zW.out _ _).mpr rfl);go_simp;exact HK.out
   ·intro Lq wq xq hh;simp only [zJ,(zW.out _ _).mp (hh.v 4)];refine Reg.go rfl ?_;have hc:zM Lq wq:=hh.cls;rw [zK.out] at hc;have q5:=K6.out wq (hc.1 (Mix.one_un (hh.notYet 20 (by kernel_rfl))));clear hc;have HK:=zL.out 5 _ _ _ rfl hh.cls ((zV.out _ _).mpr rfl);go_simp;exact HK.out
   ·intro Lq wq xq hh;simp only [zJ];refine Reg.go rfl ?_;have HK:=zL.out 6 _ _ _ rfl hh.cls ((zY.out _ _).mpr rfl);go_simp;exact HK.out
   ·intro Lq wq xq hh;simp only [zJ,(zV.out _ _).mp (hh.v 5),(zY.out _ _).mp (hh.v 6)];refine Reg.go rfl ?_;have HK:=zL.out 7 _ _ _ rfl hh.cls ((zP.out _ _).mpr rfl);go_simp;exact HK.out
   ·intro Lq wq xq hh;simp only [zJ,(zP.out _ _).mp (hh.v 7)];refine Reg.go rfl ?_;have hc:zM Lq wq:=hh.cls;rw [zK.out] at hc;have q8:=HCR.out wq (hc.1 (Mix.one_un (hh.notYet 20 (by kernel_rfl))));clear hc;have HK:=zL.out 8 _ _ _ rfl hh.cls ((zX.out _ _).mpr rfl);go_simp;exact HK.out
   ·intro Lq wq xq hh;simp only [zJ,(zX.out _ _).mp (hh.v 8)];refine Reg.go rfl ?_;unfold Reg.upon;have hc:zM Lq wq:=hh.cls;rw [zK.out] at hc;have K3:=hc.1 (Mix.one_un (hh.notYet 20 (by kernel_rfl)));go_simp;refine (ra _ B p pc L wrap wq (HR.out.below K3)).mono ?_;rintro e w2 ⟨v2,rfl,ho,hb⟩;refine ⟨_,rfl,zZ.out 9 Lq w2 (by decide) (Al.out Lq wq w2 hh.cls hb),?_,Ab.out wq w2 hb⟩;rw [z4.out];exact (ho.held (fun b h _=>h)).zone (fun b _ h=>Nat.le_trans K3.size h)
   ·intro Lq wq xq hh;simp only [zJ];refine Reg.go rfl ?_;have HK:=zL.out 10 _ _ _ rfl hh.cls ((zO.out _ _).mpr rfl);go_simp;exact HK.out
   ·intro Lq wq xq hh;simp only [zJ,(zO.out _ _).mp (hh.v 10)];refine Reg.go rfl ?_;have HK:=zL.out 11 _ _ _ rfl hh.cls ((z6.out _ _).mpr rfl);go_simp;exact HK.out
   ·intro Lq wq xq hh;simp only [zJ,(z6.out _ _).mp (hh.v 11)];refine Reg.go rfl ?_;have HK:=zL.out 12 _ _ _ rfl hh.cls ((z9.out _ _).mpr rfl);go_simp;exact HK.out
   ·intro Lq wq xq hh;simp only [zJ,(z9.out _ _).mp (hh.v 12)];refine Reg.go rfl ?_;have hc:zM Lq wq:=hh.cls;rw [zK.out] at hc;have q5:=K6.out wq (hc.1 (Mix.one_un (hh.notYet 20 (by kernel_rfl))));clear hc;have HK:=zL.out 13 _ _ _ rfl hh.cls ((Aa.out _ _).mpr rfl);go_simp;exact HK.out
   ·intro Lq wq xq hh;simp only [zJ];refine Reg.go rfl ?_;have HK:=zL.out 14 _ _ _ rfl hh.cls ((Ag.out _ _).mpr rfl);go_simp;exact HK.out
   ·intro Lq wq xq hh;simp only [zJ,(Aa.out _ _).mp (hh.v 13),(Ag.out _ _).mp (hh.v 14)];refine Reg.go rfl ?_;have HK:=zL.out 15 _ _ _ rfl hh.cls ((Ae.out _ _).mpr rfl);go_simp;exact HK.out
   ·intro Lq wq xq hh;simp only [zJ,(Ae.out _ _).mp (hh.v 15)];refine Reg.go rfl ?_;have hc:zM Lq wq:=hh.cls;rw [zK.out] at hc;have q8:=HCR.out wq (hc.1 (Mix.one_un (hh.notYet 20 (by kernel_rfl))));clear hc;have HK:=zL.out 16 _ _ _ rfl hh.cls ((Ai.out _ _).mpr rfl);go_simp;exact HK.out
   ·intro Lq wq xq hh;simp only [zJ,(Ai.out _ _).mp (hh.v 16)];refine Reg.go rfl ?_;unfold Reg.upon;have hc:zM Lq wq:=hh.cls;rw [zK.out] at hc;have hc17:=hc.1 (Mix.one_un (hh.notYet 20 (by kernel_rfl)));go_simp;refine (tz _ B p pc L wrap wq (HR.out.below hc17)).mono ?_;rintro e w2 ⟨rfl,rfl⟩;exact ⟨_,rfl,zZ.out 17 Lq wq (by decide) hh.cls,(by rw [Bw.out]),Ac.out _⟩
   ·intro Lq wq xq hh;have d9:=(z4.out _ _).mp (hh.v 9);simp only [zJ,(Bw.out _ _).mp (hh.v 17)];refine Reg.go rfl ?_;unfold Reg.upon;obtain ⟨a9,c9,e9⟩:=d9.len;rw [e9] at d9 ⊢;go_simp;exact ⟨zZ.out 18 Lq wq (by decide) hh.cls,(by rw [Bm.out];exact ⟨_,rfl,d9⟩),Ac.out _⟩
   ·intro Lq wq xq hh;simp only [zJ,(zR.out _ _).mp (hh.v 0),(zQ.out _ _).mp (hh.v 1)];refine Reg.go rfl ?_;have HK:=zL.out 19 _ _ _ rfl hh.cls ((Bt.out _ _).mpr rfl);go_simp;exact HK.out
   ·intro Lq wq xq hh;have d18:=(Bm.out _ _).mp (hh.v 18);simp only [zJ,(Bt.out _ _).mp (hh.v 19)];refine Reg.go rfl ?_;unfold Reg.upon;obtain ⟨v9,e9,h9⟩:=d18;obtain ⟨a9,c9,e8⟩:=h9.len;rw [e9];subst e8;have hc20:zM Lq wq:=hh.cls;rw [zK.out] at hc20;have hcb:=hc20.1 hh.un;have hown:=HO.out.below hcb;have JQ:k<F.length:=by rw [IZ.out];exact hlt
    have LV:lineE.rep (fun b=>g<=b/\b≠g) wq [.slice a9 L.length c9,.bool wrap] (L,wrap):=line_rep.2 ⟨_,rfl,h9.zone (fun b _ hz=>⟨by omega,by omega⟩)⟩;have OO:=hown.each.there JQ;obtain ⟨A9,Nk⟩:=hown.each.put (Y:=fun b=>g<=b) JQ _ (L,wrap) LV;rw [gT (b:=g) (off:=k * 2) rfl rfl [.slice a9 L.length c9,.bool wrap] rfl OO (by kernel_rfl) (lineE.one LV)];refine ⟨?_,(by rw [Dz.out]),(by rw [z8.out];exact Nk)⟩;rw [zK.out];refine ⟨fun e=>(by rw [Mix.one_set (by rw [hh.size];decide)] at e;cases e),fun _=>⟨?_,?_⟩⟩;rw [<-Ob.out];exact OwnI.all A9 (fun j b _ _ q=>by split at q <;> exact q);exact (z5.out.trans (hcb.mono z5.out.size)).upd Nk (z5.out.trans (hcb.mono z5.out.size)).size (fun x e=>by have:=Px.out;omega)
   intro xq Dk Af Av;rw [zK.out] at Af;simp only [zJ];clear Av zJ zL zZ Ac Ad Ao zK z8 Al Ab zR zQ zS zT zW zV zY zP zX z4 zO z6 z9 Aa Ag Ae Ai Bw Bm Bt Dz;have Mu:=ab (Af.2 (by rw [Mix.one_all (by decide)];decide));clear Af;go_wp2
   go_roundw
   case rel=>exact ⟨k+1,by omega,by go_num,Mu.out.1,Mu.out.2⟩
   case measure=>simp [intOf] <;> omega
  ·obtain rfl:k=n:=by omega
   rw [HFA.out] at HO;go_wp2;go_ret;exact ⟨_,rfl,by rw [Px.out];exact HO.out,z5.out⟩
section
theorem lG{P:Program}{ρ:Operand->Value}{o:Oper}{w:World}{ty:TypeId}{x y:Operand}{b off:Nat}(ho:o.op=.store ty x y)(hx:ρ x=.pointer (some ⟨b,off,none⟩))(p:Option Nat)(hy:ρ y=cL p)(u:Value)(hc:w.cell? ⟨b,off,none⟩=some u)(hf:w.frozen? ⟨b,off,none⟩=false)(hi:(P.info? ty).map (·.size)=some 1):(execOp ρ o).run P w=.ok .skip (w.setCell ⟨b,off,none⟩ (cL p)):=by
 obtain ⟨i,hi1,hi2⟩:=Option.map_eq_some_iff.1 hi;have hce:1=P.cellsOf ty:=by unfold Program.cellsOf;rw [hi1];exact hi2.symm
 unfold execOp;unfold cL at hy ⊢
 simp [ho,hx,hy,go_sem,hc,hf,run_sizeOf,hi1,hi2]
 exact hce
def PartAt(w:World)(B gg wd:Nat)(v:Value)(Xs:List (Option Nat))(Rs:List Rw):Prop :=
 ∃ Z:an,(∀ b,Z b->B<=b/\b<w.heap.size)/\Has w gg [.int .i64 wd,v] 119/\B<=gg/\OwnE ptrE (fun _=>True) w B 113 v Xs/\¬ Z gg/\(∀ b,v.ownBlock=some b->¬ Z b)/\RowsAt Z w B Rs/\∀ i,i<Rs.length->(Rs.getD i r0).L.length=wd
section
variable {w w' : World} {B gg wd : Nat} {v : Value} {Xs : List (Option Nat)} {Rs : List Rw}
theorem gR{Z:an}{ty:TypeId}(h:OwnE ptrE Z w B ty v Xs){b:Nat}(hb:v.ownBlock=some b):∃ C,w.heap[b]? = some (.cells C ty (0,0)):=by
 rcases h.ptrs.2 with ⟨rfl,_⟩ | ⟨g',cap',cur,rfl,_,hg,_⟩
 ·cases hb
 ·have:g'=b:=by simpa [Value.ownBlock] using hb
  subst this;exact ⟨cur,hg⟩
theorem aH{b:Nat}{C D:Array Value}{t u:TypeId}(h:w.heap[b]? = some (.cells C t (0,0)))(k:w.heap[b]? = some (.cells D u (0,0)))(hn:t≠u):False:=by
 rw [h] at k;simp only [Option.some.injEq,Obj.cells.injEq] at k;exact hn k.2.1
theorem PartAt.apart(h:PartAt w B gg wd v Xs Rs){b:Nat}(hb:v.ownBlock=some b):gg≠b/\∀ i,i<Rs.length->(Rs.getD i r0).g≠b/\(Rs.getD i r0).gc≠b:=by
 obtain ⟨Z,h1,h2,h3,h4,h5,h6,h7,h8⟩:=h;obtain ⟨C,hC⟩:=gR h4 hb;refine ⟨fun e=>by subst e;exact aH h2 hC (by decide),fun i hi=>?_⟩;obtain ⟨⟨D,hD⟩,D',Ke⟩:=(h7.row i hi).types;exact ⟨fun e=>by rw [<-e] at hC;exact aH hD hC (by decide),fun e=>by rw [<-e] at hC;exact aH Ke hC (by decide)⟩
theorem PartAt.gapart(h:PartAt w B gg wd v Xs Rs):∀ i,i<Rs.length->(Rs.getD i r0).g≠gg/\(Rs.getD i r0).gc≠gg:=by
 obtain ⟨Z,h1,h2,h3,h4,h5,h6,h7,h8⟩:=h;intro i hi;obtain ⟨⟨D,hD⟩,D',Ke⟩:=(h7.row i hi).types;exact ⟨fun e=>by rw [e] at hD;exact aH hD h2 (by decide),fun e=>by rw [e] at Ke;exact aH Ke h2 (by decide)⟩
theorem PartAt.below(h:PartAt w B gg wd v Xs Rs)(hb:Below w.heap.size w w'):PartAt w' B gg wd v Xs Rs:=by
 obtain ⟨Z,h1,h2,h3,h4,h5,h6,h7,h8⟩:=h;exact ⟨Z,fun b hz=>⟨(h1 b hz).1,Nat.lt_of_lt_of_le (h1 b hz).2 hb.size⟩,h2.below hb h2.lt,h3,h4.below hb,h5,h6,h7.below hb,h8⟩
theorem PartAt.lt(h:PartAt w B gg wd v Xs Rs):B<=gg/\gg<w.heap.size/\∀ b,v.ownBlock=some b->B<=b/\b<w.heap.size:=by
 obtain ⟨Z,h1,h2,h3,h4,h5,h6,h7,h8⟩:=h;exact ⟨h3,h2.lt,h4.lt⟩
theorem PartAt.next(h:PartAt w B gg wd v Xs Rs){g gc:Nat}{L:List Cl}{wrap:Bool}(hr:RowAt (fun b=>w.heap.size<=b) w' w.heap.size g gc L wrap)(hl:L.length=wd)(hb:Below w.heap.size w w'):PartAt w' B gg wd v Xs (Rs++[⟨g,gc,L,wrap⟩]):=by
 obtain ⟨Z,h1,h2,h3,h4,h5,h6,h7,h8⟩:=h;have hlt:=h2.lt;refine ⟨_,fun b hz=>?_,h2.below hb h2.lt,h3,h4.below hb,?_,fun b BZ=>?_,h7.snoc (fun b hz=>(h1 b hz).2) (by omega) (Nat.le_refl _) hr hb,fun i hi=>?_⟩
 ·rcases hz with hz | hz
  ·have:=h1 b hz;have:=hb.size;omega
  ·omega
 ·rintro (hz | hz)
  ·exact h5 hz
  ·omega
 ·have:=h4.lt b BZ;rintro (hz | hz)
  ·exact h6 b BZ hz
  ·omega
 ·rw [bU];rw [List.length_append,List.length_singleton] at hi
  by_cases e:i<Rs.length
  ·rw [if_pos e];exact h8 i e
  ·rw [if_neg e,show i - Rs.length=0 by omega];exact hl
theorem PartAt.put{gr n cap:Nat}(h:PartAt w B gg wd (.slice (some ⟨gr,0,none⟩) n cap) Xs Rs)(k:Nat)(hk:k<Xs.length)(x:Option Nat):PartAt (w.setCell ⟨gr,k,none⟩ (cL x)) B gg wd (.slice (some ⟨gr,0,none⟩) n cap) (Xs.set k x) Rs/\Upd (fun b=>b=gr) w (w.setCell ⟨gr,k,none⟩ (cL x)):=by
 have hu:=(Upd.refl (fun b=>b=gr) w).setCell (p:=⟨gr,k,none⟩) (.inl rfl) (cL x);have ha:=h.apart (b:=gr) rfl;obtain ⟨Z,h1,h2,h3,h4,h5,h6,h7,h8⟩:=h;refine ⟨⟨Z,fun b hz=>⟨(h1 b hz).1,Nat.lt_of_lt_of_le (h1 b hz).2 hu.size⟩,hu.keep.has h2 ha.1,h3,om h4 k hk x,h5,h6,h7.upd hu (fun b hz e=>h6 gr rfl (e ▸ hz)) ha.2,h8⟩,hu⟩
theorem PartAt.full(h:PartAt w B gg wd v (ptrs Rs) Rs)(h0:0<Rs.length)(h1:Rs.length<=1024):∃ gr,lI w B gg gr wd Rs:=by
 obtain ⟨Z,k1,k2,k3,k4,k5,k6,k7,k8⟩:=h;obtain ⟨gr,cap,rfl,hg1,hg2⟩:=k4.some (by rw [bn];exact h0);rw [bn] at k2 k4 k6;exact ⟨gr,Z,cap,k1,k2,k3,k4,k5,k6 gr rfl,k7,k8,h0,h1,fun _ _=>trivial⟩
end
def vK(w:World)(wd:Nat)(Ls:List Ln)(e:Ending)(w':World):Prop:=∃ gg gr Rs,e=.returned (.pointer (some ⟨gg,0,none⟩))/\lI w' w.heap.size gg gr wd Rs/\Rs.map aQ=Ls/\Below w.heap.size w w'
def NewInv(w:World)(B gg gr W N:Nat)(Ls:List Ln)(k:Nat)(wr:World):Prop:=∃ Rs:List Rw,Rs.length=k/\PartAt wr B gg W (.slice (some ⟨gr,0,none⟩) N N) (ptrs Rs++List.replicate (N - k) none) Rs/\Rs.map aQ=Ls.take k/\Below B w wr
theorem NewInv.step{w wr ws:World}{B gg gr W N:Nat}{Ls:List Ln}{k:Nat}(h:NewInv w B gg gr W N Ls k wr)(hk:k<N)(EM:Ls.length=N){g gc:Nat}{L:List Cl}{wrap:Bool}(hl:L.length=W)(Ce:Ls.getD k zl=(L,wrap))(hr:RowAt (fun b=>wr.heap.size<=b) ws wr.heap.size g gc L wrap)(hb:Below wr.heap.size wr ws):NewInv w B gg gr W N Ls (k+1) (ws.setCell ⟨gr,k,none⟩ (cL (some g)))/\Upd (fun b=>b=gr) ws (ws.setCell ⟨gr,k,none⟩ (cL (some g)))/\(∃ u,ws.cell? ⟨gr,k,none⟩=some u)/\ws.frozen? ⟨gr,k,none⟩=false:=by
 obtain ⟨Rs,hn,hp,hm,zN⟩:=h;have O9:=hp.lt;have Kt:=hp.next hr hl hb;have hxl:k<(ptrs Rs++List.replicate (N - k) none).length:=by rw [List.length_append,bn,List.length_replicate];omega
 obtain ⟨h3,hu⟩:=Kt.put k hxl (some g);have hpc:OwnE ptrE (fun _=>True) ws B 113 (.slice (some ⟨gr,0,none⟩) N N) (ptrs Rs++List.replicate (N - k) none):=by
  obtain ⟨Z,k1,k2,k3,k4,_⟩:=Kt;exact k4
 have hcc:=jq hpc k hxl;refine ⟨⟨Rs++[⟨g,gc,L,wrap⟩],by simp [hn],?_,?_,?_⟩,hu,⟨_,hcc.1⟩,hcc.2⟩
 ·have e:(ptrs Rs++List.replicate (N - k) none).set k (some g)=ptrs (Rs++[⟨g,gc,L,wrap⟩])++List.replicate (N - (k+1)) none:=by
   rw [List.set_append_right _ _ (by rw [bn];omega),bn,hn,Nat.sub_self,show N - k=(N - (k+1))+1 by omega,List.replicate_succ]
   simp [ptrs]
  rw [<-e];exact h3
 ·rw [List.map_append,hm,List.take_succ_eq_append_getElem (by omega)];have:Ls[k]'(by omega)=(L,wrap):=by rw [<-Ce];simp [List.getD,List.getElem?_eq_getElem (show k<Ls.length by omega)]
  rw [this]
  rfl
 ·have JY:=O9.2.2 gr rfl;have BZ:=zN.trans (hb.mono (show B<=wr.heap.size by omega));exact BZ.upd hu (by have:=hb.size;omega) (fun x e=>by omega)
theorem vL(a b:Int)(w:World):Calls Tryz.prog 86 #[.int .i64 a,.int .i64 b] w (vK w (da a) (List.replicate (da b) (List.replicate (da a) zc,false))):=by
 have HA:=ab (mR a w);have Kx:=ab (mR b w);have hN:0<da b/\da b<=1024:=by unfold da;omega
 have hW:0<da a/\da a<=1024:=by unfold da;omega
 have OQ:da (da a:Int)=da a:=by unfold da;omega
 obtain ⟨i0,hi,hz0,hz1,hz2⟩:=info_parts fQ;obtain ⟨N,hNe⟩:=ae (da b);obtain ⟨W,hWe⟩:=ae (da a);rw [<-hNe] at Kx hN ⊢;rw [<-hWe] at HA hW OQ ⊢;have Kz:=ab OQ;clear hNe hWe OQ;obtain ⟨Ls,Ok⟩:=ae (List.replicate N (List.replicate W zc,false));rw [<-Ok];have Ew:=ab (show Ls.length=N by rw [Ok];simp);have PD:=ab (show ∀ k,k<N->Ls.getD k zl=(List.replicate W zc,false) from fun k hk=>by rw [Ok];simp [List.getD,List.getElem?_replicate,hk]);clear Ok
 go_enter Tryz.func86,Tryz.ntmps86
 go_wp2_with fail
 refine HA.out.mono ?_;rintro e w1 ⟨rfl,rfl⟩
 go_wp2_with fail
 refine Kx.out.mono ?_;rintro e w1 ⟨rfl,rfl⟩
 go_wp2_with (at_make;refine wpList_make_full w rfl (.tmp 10) (.tmp 10) 117 rfl w.heap.size 113 i0 (.pointer none) 1 Tryz.underlying117 hi hz0 hz1 .i64 .i64 _ _ N rfl rfl rfl rfl (by rw [hz2];omega) (by unfold maxLen;omega) (Nat.le_refl _) ?_)
 intro w1 hown1 hg1;have hb1:Below w.heap.size w w1:=(Below.refl _ _).grown hg1 (Nat.le_refl _) (by intro k hk;cases hk);have AA:OwnE ptrE (fun _=>True) w1 w.heap.size 113 (.slice (some ⟨w.heap.size,0,none⟩) N N) (List.replicate N none):=di (by
  have e:=j5 [Value.pointer none] (by decide) N;have e2:(List.replicate N [Value.pointer none]).flatten=(List.replicate N (none:Option Nat)).map cL:=by rw [<-lH,List.map_replicate];rfl
  rw [<-e2,<-e]
  simpa using hown1)
 have hb2:Below w1.heap.size w1 (w1.alloc (.cells #[.int .i64 W,.slice (some ⟨w.heap.size,0,none⟩) N N] 119)):=zI _ _;have Ge:=Has.new w1 [.int .i64 W,.slice (some ⟨w.heap.size,0,none⟩) N N] 119;have Ki:NewInv w w.heap.size w1.heap.size w.heap.size W N Ls 0 (w1.alloc (.cells #[.int .i64 W,.slice (some ⟨w.heap.size,0,none⟩) N N] 119)):=⟨[],rfl,⟨fun _=>False,fun b h=>h.elim,Ge,hb1.size,AA.below hb2,fun h=>h,fun b _ h=>h,RowsAt.nil _ _ _,fun i hi=>absurd hi (Nat.not_lt_zero _)⟩,rfl,hb1.trans (hb2.mono hb1.size)⟩;have Mt:w.heap.size<w1.heap.size:=(AA.lt _ rfl).2;obtain ⟨gr,hgr⟩:=ae (w.heap.size);obtain ⟨gg,Kg⟩:=ae (w1.heap.size);have Nv:=ab Ki;have d1:=Ge.cell 1 _ rfl;rw [<-Kg] at d1 Mt;have ED:=ab Kg;have HGR:=ab hgr;obtain ⟨w2,hw2⟩:=ae (w1.alloc (.cells #[.int .i64 W,.slice (some ⟨w.heap.size,0,none⟩) N N] 119));rw [<-hw2] at Nv d1;have Hm:=ab hw2;clear hown1 hg1 hb1 AA hb2 Ge Ki hi hz0 hz1 hz2 HA Kx hgr Kg hw2
 go_upto_region 2 with fail
 rw [<-ED.out,<-Hm.out];rw [<-ED.out] at Nv;go_wp2;clear d1
 go_loopw [19] (fun i wr=>∃ k:Nat,k<=N/\i=.int .i64 k/\NewInv w w.heap.size gg w.heap.size W N Ls k wr) (fun i _=>N - (intOf i).toNat)
 case atStart=>exact ⟨0,Nat.zero_le _,rfl,Nv.out⟩
 case round =>
  obtain ⟨k,hk,rfl,hinv⟩:=hrel;have HI:=ab hinv;have hp:=hinv;clear hinv;obtain ⟨Rs,hRl,hp,Oo,zN⟩:=hp
  by_cases hlt:k<N
  ·obtain ⟨Z,k1,k2,k3,k4,_⟩:=hp;have ME:gg<wr.heap.size/\w.heap.size<wr.heap.size:=⟨k2.lt,(k4.lt _ rfl).2⟩;have N3:=ab (show ∀ w9,Below wr.heap.size wr w9->w9.cell? ⟨gg,0,none⟩=some (.int .i64 W)/\w9.cell? ⟨gg,1,none⟩=some (.slice (some ⟨w.heap.size,0,none⟩) N N) from fun w9 b=>⟨(b.cell (p:=⟨gg,0,none⟩) ME.1).trans (k2.cell 0 _ rfl),(b.cell (p:=⟨gg,1,none⟩) ME.1).trans (k2.cell 1 _ rfl)⟩);have Ce:=PD.out k hlt;have AL:=ab Ce;clear k1 k2 k3 k4 hRl Oo zN Ce;obtain ⟨gr',L5⟩:=ae (w.heap.size);rw [<-L5] at ME N3 HI ⊢;have IF:=ab L5;clear L5;go_wp2;obtain ⟨zM,zU⟩ : ∃ CC:Array Bool->World->Prop,CC=fun L8 w'=>(Mix.one L8 11=0->Below wr.heap.size wr w')/\(Mix.one L8 11≠0->NewInv w gr' gg gr' W N Ls (k+1) w'):=⟨_,rfl⟩
   obtain ⟨Ar,z7⟩ : ∃ XX:World->World->Prop,XX=fun x y=>Upd (fun b=>b=gr') x y:=⟨_,rfl⟩
   obtain ⟨Am,Ad,zR,zQ,zS,zT,zW,zV,zY,zP,zX,z4,zO,z6⟩:=Reg.e12 Ar
    (fun xx _=>xx=.pointer (some ⟨gg,0,none⟩))
    (fun xx _=>xx=.pointer (some ⟨gg,0,none⟩))
    (fun xx _=>xx=.pointer (some ⟨gg,1,none⟩))
    (fun xx _=>xx=.slice (some ⟨gr',0,none⟩) N N)
    (fun xx _=>xx=.int .i64 k)
    (fun xx _=>xx=.pointer (some ⟨gg,0,none⟩))
    (fun xx _=>xx=.pointer (some ⟨gg,0,none⟩))
    (fun xx _=>xx=.pointer (some ⟨gg,0,none⟩))
    (fun xx _=>xx=.int .i64 W)
    (fun x w'=>∃ g9 gc9,x=.pointer (some ⟨g9,0,none⟩)/\RowAt (fun b=>wr.heap.size<=b) w' wr.heap.size g9 gc9 (List.replicate W zc) false)
    (fun xx _=>xx=.pointer (some ⟨gr',k,none⟩))
    (fun xx _=>xx=undef)
    (s9:=fun x w w1 hx h=>by rw [z7] at hx;(obtain ⟨g9,gc9,e9,h9⟩:=h;have:=h9.lt;exact ⟨g9,gc9,e9,h9.upd hx (fun b hb e=>by omega) (fun e=>by omega) (fun e=>by omega)⟩))
   have zZ:Hid (∀ i L w,(i == 11)=false ->  zM L w->zM (L.setIfInBounds i true) w):=ab (by
    intro i L w q h;simp only [Bool.or_eq_false_iff,beq_eq_false_iff_ne] at q;rw [zU] at h ⊢;simp only [Mix.one_ne q];exact h)
   have Al:Hid (∀ L w w1,zM L w->Below w.heap.size w w1->zM L w1):=ab (by
    intro L w w1 h hb;rw [zU] at h ⊢;exact ⟨fun e=>(h.1 e).trans (hb.mono (h.1 e).size),fun e=>by obtain ⟨R9,q1,q2,q3,q4⟩:=h.2 e;exact ⟨R9,q1,q2.below hb,q3,q4.trans (hb.mono (by have:=q2.lt;omega))⟩⟩)
   have Ac:=ab (show ∀ w,Ar w w from fun w=>by rw [z7];exact Upd.refl _ _);have Ab:=ab (show ∀ w w1,Below w.heap.size w w1->Ar w w1 from fun w w1 hb=>by rw [z7];exact .ofBelow hb);have Ao:=ab (show zM (Array.replicate 12 false) wr.drew from by rw [zU];exact ⟨fun _=>(Below.refl _ _).drew,fun e=>absurd (Mix.one_none _ _) e⟩);have zL:=ab (fun (i:Nat) L w v q (h:zM L w) (e:Am i v w)=>Reg.hk (zZ.out i L w q h) e (Ac.out w));have zK:=ab zU;have z8:=ab z7;clear zU z7
   go_wp2_with fail
   refine Reg.regionF Am zM Ar Ad.out (by kernel_rfl) (by kernel_rfl) (by kernel_rfl) Ao.out (fun Gl zJ=>?_);simp only [Reg.frame,Reg.dsts,List.map_cons,List.map_nil,Mix.put_lit,Reg.put_none,List.set_cons_succ,List.set_cons_zero,Nat.zero_add,Nat.reduceAdd] at zJ;refine ⟨⟨?_,?_,?_,?_,?_,?_,?_,?_,?_,?_,?_,?_,trivial⟩,?_⟩
   ·intro Lq wq xq hh;simp only [zJ];refine Reg.go rfl ?_;have HK:=zL.out 0 _ _ _ rfl hh.cls ((zR.out _ _).mpr rfl);go_simp;exact HK.out
   ·intro Lq wq xq hh;simp only [zJ,(zR.out _ _).mp (hh.v 0)];refine Reg.go rfl ?_;have HK:=zL.out 1 _ _ _ rfl hh.cls ((zQ.out _ _).mpr rfl);go_simp;exact HK.out
   ·intro Lq wq xq hh;simp only [zJ,(zQ.out _ _).mp (hh.v 1)];refine Reg.go rfl ?_;have HK:=zL.out 2 _ _ _ rfl hh.cls ((zS.out _ _).mpr rfl);go_simp;exact HK.out
   ·intro Lq wq xq hh;simp only [zJ,(zS.out _ _).mp (hh.v 2)];refine Reg.go rfl ?_;have hc:zM Lq wq:=hh.cls;rw [zK.out] at hc;have q3:=(N3.out wq (hc.1 (Mix.one_un (hh.notYet 11 (by kernel_rfl))))).2;clear hc;have HK:=zL.out 3 _ _ _ rfl hh.cls ((zT.out _ _).mpr rfl);go_simp;exact HK.out
   ·intro Lq wq xq hh;simp only [zJ];refine Reg.go rfl ?_;have HK:=zL.out 4 _ _ _ rfl hh.cls ((zW.out _ _).mpr rfl);go_simp;exact HK.out
   ·intro Lq wq xq hh;simp only [zJ];refine Reg.go rfl ?_;have HK:=zL.out 5 _ _ _ rfl hh.cls ((zV.out _ _).mpr rfl);go_simp;exact HK.out
   ·intro Lq wq xq hh;simp only [zJ,(zV.out _ _).mp (hh.v 5)];refine Reg.go rfl ?_;have HK:=zL.out 6 _ _ _ rfl hh.cls ((zY.out _ _).mpr rfl);go_simp;exact HK.out
   ·intro Lq wq xq hh;simp only [zJ,(zY.out _ _).mp (hh.v 6)];refine Reg.go rfl ?_;have HK:=zL.out 7 _ _ _ rfl hh.cls ((zP.out _ _).mpr rfl);go_simp;exact HK.out
   ·intro Lq wq xq hh;simp only [zJ,(zP.out _ _).mp (hh.v 7)];refine Reg.go rfl ?_;have hc:zM Lq wq:=hh.cls;rw [zK.out] at hc;have q8:=(N3.out wq (hc.1 (Mix.one_un (hh.notYet 11 (by kernel_rfl))))).1;clear hc;have HK:=zL.out 8 _ _ _ rfl hh.cls ((zX.out _ _).mpr rfl);go_simp;exact HK.out
   ·intro Lq wq xq hh;simp only [zJ,(zX.out _ _).mp (hh.v 8)];refine Reg.go rfl ?_;unfold Reg.upon;have hc:zM Lq wq:=hh.cls;rw [zK.out] at hc;have K3:=hc.1 (Mix.one_un (hh.notYet 11 (by kernel_rfl)));go_simp;refine (pJ (fun b=>wr.heap.size<=b) (W:Int) wq).mono ?_;rintro e w2 ⟨g9,gc9,rfl,h9,hb⟩;rw [Kz.out] at h9;refine ⟨_,rfl,zZ.out 9 Lq w2 (by decide) (Al.out Lq wq w2 hh.cls hb),?_,Ab.out wq w2 hb⟩;rw [z4.out];exact ⟨g9,gc9,rfl,h9.base K3.size⟩
   ·intro Lq wq xq hh;simp only [zJ,(zT.out _ _).mp (hh.v 3),(zW.out _ _).mp (hh.v 4)];refine Reg.go rfl ?_;have HK:=zL.out 10 _ _ _ rfl hh.cls ((zO.out _ _).mpr rfl);go_simp;exact HK.out
   ·intro Lq wq xq hh;have d9:=(z4.out _ _).mp (hh.v 9);simp only [zJ,(zO.out _ _).mp (hh.v 10)];refine Reg.go rfl ?_;unfold Reg.upon;obtain ⟨g9,gc9,e9,h9⟩:=d9;have hc11:zM Lq wq:=hh.cls;rw [zK.out] at hc11;obtain ⟨hst,hus,⟨q,hq⟩,hfz⟩:=NewInv.step HI.out hlt Ew.out (by simp) AL.out h9 (hc11.1 hh.un);rw [lG (b:=gr') (off:=k) rfl rfl (some g9) e9 q hq hfz (by kernel_rfl)];refine ⟨?_,(by rw [z6.out]),(by rw [z8.out];exact hus)⟩;rw [zK.out];exact ⟨fun e=>(by rw [Mix.one_set (by rw [hh.size];decide)] at e;cases e),fun _=>hst⟩
   intro xq Dk Af Av;rw [zK.out] at Af;simp only [zJ];clear Av zJ zL zZ Ac Ad Ao zK z8 Al Ab zR zQ zS zT zW zV zY zP zX z4 zO z6;have Mu:=ab (Af.2 (by rw [Mix.one_all (by decide)];decide));clear Af;go_wp2
   go_roundw
   case rel=>exact ⟨k+1,by omega,by go_num,Mu.out⟩
   case measure=>simp [intOf] <;> omega
  ·obtain rfl:k=N:=by omega
   rw [Nat.sub_self,List.replicate_zero,List.append_nil] at hp;obtain ⟨gr2,hg2⟩:=hp.full (by omega) (by omega);rw [List.take_of_length_le (by rw [Ew.out];exact Nat.le_refl _)] at Oo;have HF:=ab (And.intro hg2 (And.intro Oo zN));clear hp hg2 Oo zN hRl;go_wp2;go_ret;exact ⟨gg,gr2,Rs,rfl,HF.out.1,HF.out.2.1,HF.out.2.2⟩
end
section
variable {Yo : an}
theorem cp{α:Type}(l:List α)(d x:α)(i j:Nat)(hi:i<l.length):(l.set i x).getD j d=if j=i then x else l.getD j d:=by
 by_cases e:j=i
 ·subst e;rw [if_pos rfl]
  simp [List.getD,List.getElem?_set_self hi]
 ·rw [if_neg e]
  simp [List.getD,List.getElem?_set_ne (Ne.symm e)]
theorem RowsAt.put{Z Y:an}{w w':World}{B i:Nat}{Rs:List Rw}(_:RowsAt Z w B Rs)(hi:i<Rs.length){g gc:Nat}{L:List Cl}{wrap:Bool}(hr:RowAt Y w' B g gc L wrap)(ho:¬ Y g/\¬ Y gc)
  (hk:∀ j,j<Rs.length->j≠i->RowAt Y w' B (Rs.getD j r0).g (Rs.getD j r0).gc (Rs.getD j r0).L (Rs.getD j r0).wrap) (Ap:∀ j,j<Rs.length->j≠i->¬ Y (Rs.getD j r0).g/\¬ Y (Rs.getD j r0).gc) (ha:∀ j,j<Rs.length->j≠i->g≠(Rs.getD j r0).g/\gc≠(Rs.getD j r0).gc)
  (hb:∀ j k,j<Rs.length->k<Rs.length->j≠k->(Rs.getD j r0).g≠(Rs.getD k r0).g/\(Rs.getD j r0).gc≠(Rs.getD k r0).gc):RowsAt Y w' B (Rs.set i ⟨g,gc,L,wrap⟩):=by
 refine ⟨fun j hj=>?_,fun j hj=>?_,fun j k hj Eu hjk=>?_⟩
 ·rw [List.length_set] at hj;rw [cp _ _ _ _ _ hi]
  by_cases e:j=i
  ·rw [if_pos e];exact hr
  ·rw [if_neg e];exact hk j hj e
 ·rw [List.length_set] at hj;rw [cp _ _ _ _ _ hi]
  by_cases e:j=i
  ·rw [if_pos e];exact ho
  ·rw [if_neg e];exact Ap j hj e
 ·rw [List.length_set] at hj Eu;rw [cp _ _ _ _ _ hi,cp _ _ _ _ _ hi]
  by_cases e:j=i
  ·have e2:k≠i:=fun e2=>hjk (e.trans e2.symm)
   rw [if_pos e,if_neg e2];exact ha k Eu e2
  ·rw [if_neg e]
   by_cases e2:k=i
   ·rw [if_pos e2];exact ⟨Ne.symm (ha j hj e).1,Ne.symm (ha j hj e).2⟩
   ·rw [if_neg e2];exact hb j k hj Eu hjk
theorem GridY.part{w:World}{B gg gr wd:Nat}{Rs:List Rw}(h:GridY Yo w B gg gr wd Rs):∃ cap,PartAt w B gg wd (.slice (some ⟨gr,0,none⟩) Rs.length cap) (ptrs Rs) Rs:=by
 obtain ⟨Z,cap,h1,h2,h3,h4,h5,h6,h7,h8,_⟩:=h;exact ⟨cap,Z,h1,h2,h3,h4,h5,(fun b e=>by
  have:gr=b:=by simpa [Value.ownBlock] using e
  subst this;exact h6),h7,h8⟩
theorem GridY.put{w w':World}{B gg gr wd i:Nat}{Rs:List Rw}(h:GridY Yo w B gg gr wd Rs)(hi:i<Rs.length)(hb:Below w.heap.size w w'){g gc:Nat}{L:List Cl}{wrap:Bool}(hr:RowAt (fun b=>w.heap.size<=b) w' w.heap.size g gc L wrap)(hl:L.length=wd):GridY Yo (w'.setCell ⟨gr,i,none⟩ (cL (some g))) B gg gr wd (Rs.set i ⟨g,gc,L,wrap⟩)/\(∃ u,w'.cell? ⟨gr,i,none⟩=some u)/\w'.frozen? ⟨gr,i,none⟩=false:=by
 obtain ⟨cap',hp⟩:=h.part;have hap:=hp.apart (b:=gr) rfl;have hlt:=h.lt;obtain ⟨Z,cap,h1,h2,h3,h4,h5,h6,h7,h8,h9,h10⟩:=h;have CM:=hr.lt;have hu:=(Upd.refl (fun b=>b=gr) w').setCell (p:=⟨gr,i,none⟩) (.inl rfl) (cL (some g));have h4':=h4.below hb;have hcc:=jq h4' i (by rw [bn];exact hi);refine ⟨?_,⟨_,hcc.1⟩,hcc.2⟩;have hpt:=om h4' i (by rw [bn];exact hi) (some g);have he:(ptrs Rs).set i (some g)=ptrs (Rs.set i ⟨g,gc,L,wrap⟩):=by unfold ptrs;rw [List.map_set]
 rw [he] at hpt;have Ge:=hu.keep.has (h2.below hb h2.lt) (fun e=>hap.1 e);refine ⟨fun b=>Z b\/(w.heap.size<=b/\b<w'.heap.size/\b≠g/\b≠gc),cap,fun b hz=>?_,by rw [List.length_set];exact Ge,h3,by rw [List.length_set];exact hpt,?_,?_,?_,fun j hj=>?_,by rw [List.length_set];exact h9,by rw [List.length_set];exact h10.1,fun x hx=>h10.2 x (by
  have:=hb.size;have:=hu.size
  rcases hx with (hz | hz) | hz
  ·exact .inl hz
  ·exact .inr hz.1
  ·exact .inr (by omega))⟩
 ·have:=hu.size
  rcases hz with hz | hz
  ·have:=h1 b hz;have:=hb.size;omega
  ·omega
 ·rintro (hz | hz)
  ·exact h5 hz
  ·omega
 ·rintro (hz | hz)
  ·exact h6 hz
  ·omega
 ·refine h7.put hi ((hr.tight.base (B':=B) (by omega)).keep (hu.keep.mono fun b _ hz=>?_) fun b _ hz=>.inr hz) ?_ (fun j hj hne=>?_) (fun j hj hne=>?_) (fun j hj hne=>?_) h7.apart
  ·rcases hz with hz | hz | hz <;> omega
  ·exact ⟨fun hz=>by rcases hz with hz | hz;have:=h1 _ hz;omega;exact hz.2.2.1 rfl,fun hz=>by rcases hz with hz | hz;have:=h1 _ hz;omega;exact hz.2.2.2 rfl⟩
  ·exact ((h7.row j hj).below hb).keep (hu.keep.mono fun b _ hz=>by
    rcases hz with hz | rfl | rfl
    ·exact fun e=>h6 (e ▸ hz)
    ·exact (hap.2 j hj).1
    ·exact (hap.2 j hj).2) fun b _ hz=>.inl hz
  ·have:=h7.lt j hj;exact ⟨fun hz=>by rcases hz with hz | hz;exact (h7.out j hj).1 hz;omega,fun hz=>by rcases hz with hz | hz;exact (h7.out j hj).2 hz;omega⟩
  ·have:=h7.lt j hj;exact ⟨by omega,by omega⟩
 ·rw [List.length_set] at hj;rw [cp _ _ _ _ _ hi]
  by_cases e:j=i
  ·rw [if_pos e];exact hl
  ·rw [if_neg e];exact h8 j hj
theorem mQ(B gg gr wd i:Nat)(Rs:List Rw)(b:Bool)(w:World)(h:GridY Yo w B gg gr wd Rs)(hi:i<Rs.length):Calls Tryz.prog 71 #[.pointer (some ⟨(Rs.getD i r0).g,0,none⟩),.bool b] w fun e w'=>e=.returned (.tuple #[])/\GridY Yo w' B gg gr wd (Rs.set i ⟨(Rs.getD i r0).g,(Rs.getD i r0).gc,(Rs.getD i r0).L,b⟩)/\Upd (fun x=>x=(Rs.getD i r0).g\/x=(Rs.getD i r0).gc) w w':=by
 obtain ⟨cap',hp⟩:=h.part;have hap:=hp.apart (b:=gr) rfl;have LX:=hp.gapart;obtain ⟨Z,cap,h1,h2,h3,h4,h5,h6,h7,h8,h9,h10⟩:=h;refine (tB Z B _ _ _ _ b w (h7.row i hi)).mono ?_;rintro e w' ⟨rfl,hr,hu⟩;refine ⟨rfl,⟨Z,cap,fun b hz=>⟨(h1 b hz).1,Nat.lt_of_lt_of_le (h1 b hz).2 hu.size⟩,?_,h3,?_,h5,h6,?_,fun j hj=>?_,by rw [List.length_set];exact h9,by rw [List.length_set];exact h10.1,fun x hx=>h10.2 x (hx.imp id (Nat.le_trans hu.size))⟩,hu⟩
 ·rw [List.length_set];exact hu.keep.has h2 (fun e=>by rcases e with e | e;exact (LX i hi).1 e.symm;exact (LX i hi).2 e.symm)
 ·have he:ptrs (Rs.set i ⟨(Rs.getD i r0).g,(Rs.getD i r0).gc,(Rs.getD i r0).L,b⟩)=ptrs Rs:=by
   unfold ptrs;rw [List.map_set]
   apply List.ext_getElem?
   intro j
   by_cases e:j=i
   ·subst e;rw [List.getElem?_set_self (by rw [List.length_map];exact hi)]
    simp [List.getD,List.getElem?_eq_getElem hi]
   ·rw [List.getElem?_set_ne (Ne.symm e)]
  rw [he,List.length_set];exact di (hu.keep.own h4.ptrs fun b hb e=>by
   have:gr=b:=by simpa [Value.ownBlock] using hb
   subst this
   rcases e with e | e
   ·exact (hap.2 i hi).1 e.symm
   ·exact (hap.2 i hi).2 e.symm)
 ·refine h7.put hi hr (h7.out i hi) (fun j hj hne=>(h7.row j hj).upd hu (fun b hz e=>by rcases e with e | e;exact (h7.out i hi).1 (e ▸ hz);exact (h7.out i hi).2 (e ▸ hz)) (fun e=>by rcases e with e | e;exact (h7.apart j i hj hi hne).1 e;exact h7.cross j i hj hi e) (fun e=>by rcases e with e | e;exact h7.cross i j hi hj e.symm;exact (h7.apart j i hj hi hne).2 e)) (fun j hj _=>h7.out j hj) (fun j hj hne=>h7.apart i j hi hj (Ne.symm hne)) h7.apart
 ·rw [List.length_set] at hj;rw [cp _ _ _ _ _ hi]
  by_cases e:j=i
  ·rw [if_pos e];exact h8 i hi
  ·rw [if_neg e];exact h8 j hj
theorem tq(gg:Nat)(v:Option Addr)(n cap:Nat)(w:World)(c1:w.cell? ⟨gg,1,none⟩=some (.slice v n cap)):Calls Tryz.prog 95 #[.pointer (some ⟨gg,0,none⟩)] w fun e w'=>e=.returned (.int .i64 n)/\w=w':=by
 go_enter Tryz.func95,Tryz.ntmps95
 go_wp2;go_ret;exact ⟨af,rfl⟩
theorem vJ(gg gr wd n cap i:Nat)(Zr:an)(Br g gc:Nat)(L:List Cl)(wrap:Bool)(w:World)(c0:w.cell? ⟨gg,0,none⟩=some (.int .i64 wd))(c1:w.cell? ⟨gg,1,none⟩=some (.slice (some ⟨gr,0,none⟩) n cap))(Bg:n<=cap)(u:Value)(cr:w.cell? ⟨gr,i,none⟩=some u)(fr:w.frozen? ⟨gr,i,none⟩=false)(hi:i<n)(hn:n<=1024)(hr:RowAt Zr w Br g gc L wrap)(hl:L.length=wd) :
  Calls Tryz.prog 174 #[.pointer (some ⟨gg,0,none⟩),.int .i64 i,.pointer (some ⟨g,0,none⟩)] w fun e w'=>e=.returned (.bool true)/\∃ w1,Below w.heap.size w w1/\w'=w1.setCell ⟨gr,i,none⟩ (cL (some g)):=by
 have HH:=ab (fun u:Growth w=>tq gg _ n cap (ext w u) (aj c1 u));have HW:=ab (fun u:Growth w=>mS _ _ g gc L wrap (ext w u) (hr.below u.ok));rw [hl] at HW;have hgr:=World.block_lt_of_cell? w ⟨gr,i,none⟩ cr;have d0:=aj c0;have d1:=aj c1;have d2:=aj cr;have d3:=aD hgr fr;have ER:decide ((i:Int)<0)=false:=ai (by omega);have Ii:decide ((n:Int)<=i)=false:=ai (by omega);have I8:decide (n<=i)=false:=ai (by omega);have hne:((wd:Int) != (wd:Int))=false:=by simp
 clear hr hl c0 c1 cr fr hgr
 go_enter Tryz.func174,Tryz.ntmps174
 go_wp2;refine aI (by kernel_rfl) (by kernel_rfl) ?_
 repeat (go_big_quiet_step (((first | (go_at_call 95;exact aG (HH.out _)) | (go_at_call 70;exact aG (HW.out _))))))
 refine wpQuiet_nil ?_;intro _ hw';obtain ⟨u,hw''⟩:=hw';subst hw'';have hb:=u.ok;have e1:=d1 u;have e2:=d2 u;have e3:=d3 u;obtain ⟨w1,Cd⟩:=ae (ext w u);have HB:=ab (show Below w.heap.size w w1 by rw [Cd];exact u.ok);rw [<-Cd] at e1 e2 e3 ⊢;clear Cd hb d0 d1 d2 d3 Ii I8 hne;go_wp2;go_ret;exact ⟨af,w1,HB.out,rfl⟩
end
theorem dj{w:World}{B g n c:Nat}(h:w.ownsRow B 147 2 (.slice (some ⟨g,0,none⟩) n c) n (madeCells (Value.agg #[.int .i64 0,.slice none 0 0]).cells (n * 2)).toList):HeldE cellE (fun b=>b=g) w (.slice (some ⟨g,0,none⟩) n c) (List.replicate n zc):=by
 have h2:=(mV (Z:=fun _=>True) h).held (Z:=fun _=>True) (fun _ _ _=>trivial);obtain ⟨ao,cap,e,h3,h4,h5,h6⟩:=h2;refine ⟨ao,cap,e,h3,h4,h5,fun i hi=>?_⟩;obtain ⟨b,off,e1,hb,_,C,hC,hr⟩:=h6 i hi;subst e1;simp only [Value.slice.injEq,Option.some.injEq,Addr.mk.injEq] at e;obtain ⟨⟨rfl,rfl,_⟩,_⟩:=e;rw [List.length_replicate] at hi;rw [show (List.replicate n zc).getD i cellE.zero=zc from by simp [List.getD,List.getElem?_replicate,hi]] at hr ⊢;obtain ⟨tv,rfl,ht⟩:=cell_rep.1 hr;refine ⟨g,0,rfl,hb,rfl,_,hC,cell_rep.2 ⟨tv,rfl,?_⟩⟩;obtain ⟨a,c2,rfl,k1,k2,k3,_⟩:=ht;exact ⟨a,c2,rfl,k1,k2,k3,fun j hj=>absurd hj (Nat.not_lt_zero _)⟩
def jt(a b:List Ln):Bool:=decide (a=b)
theorem rf(a:List Ln):jt a a=true:=by simp [jt]
theorem vV{a b:List Ln}(hl:b.length=a.length)(h:∀ j,j<a.length->a.getD j zl=b.getD j zl):jt a b=true:=by
 unfold jt;rw [decide_eq_true_eq]
 apply List.ext_getElem hl.symm
 intro i h1 h2;have:=h i h1
 simpa [List.getD,List.getElem?_eq_getElem h1,List.getElem?_eq_getElem h2] using this
theorem tH{a b:List Ln}(j:Nat)(h:a.getD j zl≠b.getD j zl):jt a b=false:=by
 unfold jt;rw [decide_eq_false_iff_not];rintro rfl;exact h rfl
theorem tI{a b:List Ln}(h:¬ b.length=a.length):jt a b=false:=by
 unfold jt;rw [decide_eq_false_iff_not];rintro rfl;exact h rfl
def AlikeL(a b:List Ln)(k:Nat):Prop:=∀ j,j<k->a.getD j zl=b.getD j zl
theorem AlikeL.next{a b:List Ln}{k:Nat}(h:AlikeL a b k)(e:a.getD k zl=b.getD k zl):AlikeL a b (k+1):=by
 intro j hj
 by_cases e':j=k
 ·subst e';exact e
 ·exact h j (by omega)
theorem rg(Z Y:an)(v u:Value)(a b:List Ln)(w:World)(hx:HeldE lineE Z w v a)(hy:HeldE lineE Y w u b):Calls Tryz.prog 78 #[v,u] w (Gives w (.bool (jt a b))):=by
 have Oi:=hx.max;obtain ⟨ao,ca,rfl⟩:=hx.len;obtain ⟨bo,cb,rfl⟩:=hy.len;obtain ⟨_,_,hc⟩:=fj hx;obtain ⟨_,_,hd⟩:=fj hy;have HC:=ab hc;have HD:=ab hd;clear hc hd hx hy
 by_cases hl:b.length=a.length
 ·have HL:=ab hl;rw [hl];clear hl
  go_enter Tryz.func78,Tryz.ntmps78
  go_wp2
  go_loopw [5] (fun i wr=>∃ k:Nat,k<=a.length/\i=.int .i64 k/\AlikeL a b k/\Below w.heap.size w wr) (fun i _=>a.length - (intOf i).toNat)
  case atStart=>exact ⟨0,Nat.zero_le _,rfl,(fun j hj=>by omega),Below.refl _ _⟩
  case round =>
   obtain ⟨k,hk,rfl,I7,zN⟩:=hrel;have HA:=ab I7;have z5:=ab zN;clear I7 zN
   by_cases hlt:k<a.length
   ·obtain ⟨b1,o1,tv,rfl,hb1,_,c0,c1,hh⟩:=HC.out k hlt;obtain ⟨b2,o2,tu,rfl,hb2,_,d0,d1,hi⟩:=HD.out k (by rw [HL.out];exact hlt);have c0:=(z5.out.cell (p:=⟨b1,o1+k * 2,none⟩) hb1).trans c0;have c1:=(z5.out.cell (p:=⟨b1,o1+k * 2+1,none⟩) hb1).trans c1;have d0:=(z5.out.cell (p:=⟨b2,o2+k * 2,none⟩) hb2).trans d0;have d1:=(z5.out.cell (p:=⟨b2,o2+k * 2+1,none⟩) hb2).trans d1;have Jh:=HA.out.next;have hno:=tH (a:=a) (b:=b) k;obtain ⟨⟨T,K⟩,Er⟩ : ∃ y,y=a.getD k zl:=⟨_,rfl⟩;obtain ⟨⟨T',K'⟩,Jy⟩ : ∃ y,y=b.getD k zl:=⟨_,rfl⟩;rw [<-Er] at c1 hh Jh hno;rw [<-Jy] at d1 hi Jh hno;simp only at c1 hh d1 hi;have HH:=ab (hh.below z5.out);have HI:=ab (hi.below z5.out);have Bh:=ab Jh;have Nt:=ab hno;clear Er Jy hh hi Jh hno;obtain ⟨wk,KA⟩:=ae (wr);subst KA;have c0:=aj c0;have c1:=aj c1;have d0:=aj d0;have d1:=aj d1
    by_cases hk:K=K'
    ·subst hk;have Eu:(K != K)=false:=by simp
     have HQ:=ab (fun u:Growth wk=>re _ _ tv tu T T' (ext wk u) (HH.out.below u.ok) (HI.out.below u.ok))
     cases hs:kq T T' with
     |true =>
      have HS:=ab hs;rw [hs] at HQ;clear hs Eu
      cases K
      all_goals
       go_wp2;refine aI (by kernel_rfl) (by kernel_rfl) ?_
       repeat (go_big_quiet_step (((go_at_call 146;exact dY (HQ.out _)))))
       refine wpQuiet_nil ?_;intro _ hw';obtain ⟨u,hw''⟩:=hw';subst hw'';have HE:=ab (aW z5.out u);go_wp2
       go_roundw
       case rel=>exact ⟨k+1,by omega,by go_num,Bh.out (by have:=of_decide_eq_true HS.out;rw [this]),HE.out⟩
       case measure=>simp [intOf];omega
     |false =>
      have HS:=ab hs;rw [hs] at HQ;clear hs Eu
      cases K
      all_goals
       go_wp2;refine aI (by kernel_rfl) (by kernel_rfl) ?_
       repeat (go_big_quiet_step (((go_at_call 146;exact dY (HQ.out _)))))
       refine wpQuiet_nil ?_;intro _ hw';obtain ⟨u,hw''⟩:=hw';subst hw'';have HE:=ab (aW z5.out u);go_wp2;go_ret;exact ⟨al (by rw [Nt.out (fun e=>of_decide_eq_false HS.out (congrArg Prod.fst e))];try rfl),HE.out⟩
    ·have HK:=ab hk;clear hk
     cases K <;> cases K' <;> first | exact absurd rfl HK.out | skip
     all_goals
      go_wp2;refine aI (by kernel_rfl) (by kernel_rfl) ?_
      repeat (go_big_quiet_step ((fail)))
      refine wpQuiet_nil ?_;intro _ hw';obtain ⟨u,hw''⟩:=hw';subst hw'';have HE:=ab (aW z5.out u);go_wp2;go_ret;exact ⟨al (by rw [Nt.out (fun e=>HK.out (congrArg Prod.snd e))];try rfl),HE.out⟩
   ·obtain rfl:k=a.length:=by omega
    have E:=ab (vV HL.out HA.out);go_wp2;go_ret;exact ⟨al (by rw [E.out];try rfl),z5.out⟩
 ·have E:=ab (tI hl);have hl2:¬ a.length=b.length:=fun h=>hl h.symm
  go_enter Tryz.func78,Tryz.ntmps78
  go_wp2;go_ret;exact ⟨al (by rw [E.out];try rfl),Below.refl _ _⟩
def fG(n0:Nat)(l:Ln):Nat:=if l.1.length=0\/1024<l.1.length then 3 else if bz l.1=false then 5 else if l.1.length≠n0 then 3 else 0
def fm(Ls:List Ln):Nat:=(Ls.getD 0 zl).1.length
def rU(Ls:List Ln):Prop:=∀ k,k<Ls.length->fG (fm Ls) (Ls.getD k zl)=0
def lN(Ls:List Ln)(i c:Nat):Prop:=i<Ls.length/\(∀ j,j<i->fG (fm Ls) (Ls.getD j zl)=0)/\fG (fm Ls) (Ls.getD i zl)=c/\c≠0
theorem mZ{Ls:List Ln}{k i c:Nat}(hk:k<Ls.length)(h:∀ j,j<k->fG (fm Ls) (Ls.getD j zl)=0)(hn:fG (fm Ls) (Ls.getD k zl)≠0)(hb:lN Ls i c):i=k/\c=fG (fm Ls) (Ls.getD k zl):=by
 obtain ⟨h1,h2,h3,h4⟩:=hb
 rcases Nat.lt_trichotomy i k with hl | rfl | hl
 ·exact absurd (h3.symm.trans (h i hl)) h4
 ·exact ⟨rfl,h3.symm⟩
 ·exact absurd (h2 k hl) hn
def WrongTold(w:World)(Ls:List Ln)(e:Ending)(w':World):Prop:=(rU Ls->e=.returned (.tuple #[.int .i64 (-1),.int .i64 0]))/\(∀ i c:Nat,lN Ls i c->e=.returned (.tuple #[.int .i64 i,.int .i64 c]))/\Below w.heap.size w w'
theorem WrongTold.bad{w w':World}{Ls:List Ln}{k c:Nat}(hk:k<Ls.length)(h:∀ j,j<k->fG (fm Ls) (Ls.getD j zl)=0)(hc:fG (fm Ls) (Ls.getD k zl)=c)(hn:c≠0)(hb:Below w.heap.size w w'):WrongTold w Ls (.returned (.tuple #[.int .i64 k,.int .i64 c])) w':=by
 refine ⟨fun hg=>absurd (hc.symm.trans (hg k hk)) hn,fun i c' hf=>?_,hb⟩;obtain ⟨rfl,rfl⟩:=mZ hk h (by rw [hc];exact hn) hf;rw [hc]
theorem ym(W N:Nat)(hW:W<=1024)(hN:N<=1024)(w:World):Calls Tryz.prog 87 #[.int .i64 W,.int .i64 N] w (fk lineE (fun b=>w.heap.size<=b) 104 w (List.replicate N (List.replicate W zc,false))):=by
 obtain ⟨i0,hi,hz0,hz1,hz2⟩:=info_parts cD;have HI:=ab (And.intro hi (And.intro hz0 (And.intro hz1 hz2)));clear hi hz0 hz1 hz2
 go_enter Tryz.func87,Tryz.ntmps87
 go_wp2
 go_loopw [5,6] (fun t i wr=>∃ k:Nat,k<=N/\i=.int .i64 k/\OwnE lineE (fun b=>w.heap.size<=b) wr w.heap.size 104 t (List.replicate k (List.replicate W zc,false))/\Below w.heap.size w wr) (fun _ i _=>N - (intOf i).toNat)
 case atStart=>exact ⟨0,Nat.zero_le _,rfl,OwnE.nil _ _ _ _ _,Below.refl _ _⟩
 case round =>
  obtain ⟨k,hk,rfl,hown,zN⟩:=hrel;have z5:=ab zN;have HO:=ab hown;clear zN hown;obtain ⟨t,M2⟩:=ae (u5);rw [<-M2] at HO ⊢;clear M2
  by_cases hlt:k<N
  ·go_wp2_with (at_make;refine wpList_make_full wr rfl (.tmp 13) (.tmp 13) 102 rfl w.heap.size 147 i0 (.agg #[.int .i64 0,.slice none 0 0]) 2 Tryz.underlying102 HI.out.1 HI.out.2.1 HI.out.2.2.1 .i64 .i64 _ _ W rfl rfl rfl rfl (by rw [HI.out.2.2.2];omega) (by unfold maxLen;omega) z5.out.size ?_)
   intro w1 hown1 hg1;have b1:Below wr.heap.size wr w1:=(Below.refl _ _).grown hg1 (Nat.le_refl _) (by intro k hk;cases hk);have hw0:=z5.out.size;have hc1:HeldE cellE (fun b=>b=wr.heap.size) w1 (.slice (some ⟨wr.heap.size,0,none⟩) W W) (List.replicate W zc):=dj hown1;have AF:=HO.out.lt;have hs:List.replicate (k+1) ((List.replicate W zc,false):Ln)=List.replicate k (List.replicate W zc,false)++[(List.replicate W zc,false)]:=List.replicate_succ';obtain ⟨P0,hP⟩:=ae (List.replicate k ((List.replicate W zc,false):Ln));have hpl:P0.length<=1024:=by rw [hP,List.length_replicate];omega
   rw [<-hP] at HO hs;obtain ⟨Q,hQ⟩:=ae (List.replicate (k+1) ((List.replicate W zc,false):Ln));rw [<-hQ] at hs;have HS:=ab hs;have HQ:=ab hQ;have b2:=zI w1 (.cells [Value.slice (some ⟨wr.heap.size,0,none⟩) W W,.bool false].toArray 104);have HX:=ab (show HeldE lineE (fun b=>w.heap.size<=b/\t.ownBlock≠some b) (w1.alloc (.cells [Value.slice (some ⟨wr.heap.size,0,none⟩) W W,.bool false].toArray 104)) (.slice (some ⟨w1.heap.size,0,none⟩) 1 1) [(List.replicate W zc,false)] from aO (Y:=fun b=>b=wr.heap.size) [Value.slice (some ⟨wr.heap.size,0,none⟩) W W,.bool false] (List.replicate W zc,false) (line_rep.2 ⟨_,rfl,hc1⟩) (fun b _ e=>⟨by first | omega | (have h9:=b1.size;omega) | (have e9:b=wr.heap.size:=‹_›;omega) | (subst_vars;omega),fun e2=>by have:=(AF _ e2).2;omega⟩) ⟨by first | omega | (have h9:=b1.size;omega) | (have e9:b=wr.heap.size:=‹_›;omega) | (subst_vars;omega),fun e2=>by have:=(AF _ e2).2;have:=b1.size;omega⟩);have E3:=ab ((HO.out.below b1).below b2);have AM:=ab ((z5.out.trans (b1.mono z5.out.size)).trans (b2.mono (Nat.le_trans z5.out.size b1.size)));clear hown1 hg1 b1 b2 hc1 AF hP hQ hs HO
   go_wp2_with (at_builtin;refine aw (E:=lineE) (Z:=fun b=>w.heap.size<=b) rfl (.tmp 12) (.tmp 16) 22 rfl (.agg #[.slice none 0 0,.bool false]) 32 Tryz.underlying22 bS rfl (by decide) rfl rfl E3.out HX.out (by simp only [List.length_singleton];omega) (by simp only [List.length_singleton];omega) AM.out.size ?_)
   intro v3 w3 DF hb3 _ _;rw [<-HS.out,HQ.out] at DF;have H2:=ab DF;have H3:=ab (AM.out.trans hb3);clear DF hb3;go_wp2
   go_roundw
   case rel=>exact ⟨k+1,by omega,by go_num,H2.out,H3.out⟩
   case measure=>simp [intOf] <;> omega
  ·obtain rfl:k=N:=by omega
   go_wp2;go_ret;exact ⟨_,rfl,HO.out,z5.out⟩
def iP(n at_:Int)(p:List Cl):Int:=if at_<0\/n<at_\/n - at_<p.length then 3 else if bz p=true then 0 else 5
theorem kw(Z Y:an)(B g gc:Nat)(L p:List Cl)(wrap:Bool)(v:Value)(w:World)(h:RowAt Z w B g gc L wrap)(hv:HeldE cellE Y w v p)(hY:∀ b,Y b->b≠g/\b≠gc)(hZ:∀ b,w.heap.size<=b->Z b)(a:Nat)(hle:a+p.length<=L.length)(hp:bz p=true) :
  Calls Tryz.prog 188 #[.pointer (some ⟨g,0,none⟩),.int .i64 a,v] w (js Z B g gc w (aM L p a) (wrap && !bd L p a)):=by
 cases p with
 |nil =>
  rw [qK,nW,Bool.not_false,Bool.and_true];exact pM Z Y B g gc L wrap v w h hv a (by simpa using hle)
 |cons c p=>exact tG Z Y B g gc L (c :: p) wrap v w h hv hY hZ a hle hp (by simp)
theorem rj{n:Nat}{at_:Int}{p:List Cl}(h:iP n at_ p=0):∃ a:Nat,at_=a/\a+p.length<=n/\bz p=true:=by
 unfold iP at h
 split at h
 ·cases h
 ·rename_i h1
  split at h
  ·rename_i h2
   obtain ⟨a,rfl⟩:=Int.eq_ofNat_of_zero_le (show 0<=at_ by omega);exact ⟨a,rfl,by omega,h2⟩
  ·cases h
theorem yU(Z Y:an)(B g gc:Nat)(L:List Cl)(wrap:Bool)(col wide:Int)(v:Value)(xs:List Int)(w:World)(hZ:∀ b,w.heap.size<=b->Z b)(h:RowAt Z w B g gc L wrap)(hv:HeldE (aE .i32) Y w v xs)(hg:iP L.length col (ofC wide xs)=0) :
  Calls Tryz.prog 115 #[.pointer (some ⟨g,0,none⟩),.int .i64 col,.int .i64 wide,v] w (js Z B g gc w (aM L (ofC wide xs) col.toNat) (wrap && !bd L (ofC wide xs) col.toNat)):=by
 obtain ⟨a,rfl,Oi,hsp⟩:=rj hg;rw [Int.toNat_natCast];have hlt:=h.lt;have Kb:=ab hlt;have HR:=ab h;have HO:=ab (yh (fun b=>b≠g/\b≠gc) Y wide v xs w (fun b hb=>by omega) hv);have PD:=ab Oi;have HZ:=ab hZ;have Nr:=ab hsp;have hvm:=hv.max;obtain ⟨ao,ca,rfl⟩:=hv.len;clear h hg hlt Oi hsp hv hZ
 go_enter Tryz.func115,Tryz.ntmps115
 go_wp2_with fail
 refine HO.out.mono ?_;rintro e w1 ⟨v1,rfl,AA,b1⟩;have HH:=ab (AA.held (fun b hb _=>by have:=Kb.out;exact ⟨by omega,by omega⟩));have HU:=ab (Upd.ofBelow (S:=fun b=>b=g\/b=gc) b1);have K9:=ab (HR.out.below b1);have FS:=ab b1.size;clear AA b1
 go_wp2_with fail
 refine (kw _ _ _ g gc L _ wrap _ w1 K9.out HH.out (fun _ h=>h) (fun b hb=>HZ.out b (Nat.le_trans FS.out hb)) a PD.out Nr.out).mono ?_;rintro e w2 ⟨rfl,hr2,u2⟩;have HE:=ab (And.intro hr2 (HU.out.trans u2));clear hr2 u2;go_wp2;go_ret;exact ⟨rfl,HE.out.1,HE.out.2⟩
theorem rh{n:Nat}{a:Nat}{p:List Cl}(h:a+p.length<=n)(hs:bz p=true):iP n (a:Int) p=0:=by
 unfold iP;rw [if_neg (by omega),if_pos hs]
def Turned3Z(Z:an)(w:World)(B g gc:Nat)(r:List Cl × Bool × Bool)(e:Ending)(w':World):Prop:=e=.returned (.bool r.2.2)/\RowAt Z w' B g gc r.1 r.2.1/\Upd (fun b=>b=g\/b=gc) w w'
def Turned3(w:World)(B g gc:Nat)(r:List Cl × Bool × Bool)(e:Ending)(w':World):Prop:=e=.returned (.bool r.2.2)/\RowAt (fun _=>True) w' B g gc r.1 r.2.1/\Upd (fun b=>b=g\/b=gc) w w'
theorem Turned3Z.same{Z:an}{w w':World}{B g gc:Nat}{L:List Cl}{wrap:Bool}(h:RowAt Z w B g gc L wrap)(b:Below w.heap.size w w'):Turned3Z Z w B g gc (L,wrap,false) (.returned (.bool false)) w':=⟨rfl,h.below b,.ofBelow b⟩
theorem Turned3.same{w w':World}{B g gc:Nat}{L:List Cl}{wrap:Bool}(h:RowAt (fun _=>True) w B g gc L wrap)(b:Below w.heap.size w w'):Turned3 w B g gc (L,wrap,false) (.returned (.bool false)) w':=⟨rfl,h.below b,.ofBelow b⟩
theorem RowAt.lower{Z:an}{w:World}{B g gc:Nat}{L:List Cl}{wrap:Bool}(h:RowAt Z w B g gc L wrap):RowAt (fun b=>b<w.heap.size) w B g gc L wrap:=h.keep (.refl _ _) fun b hb _=>hb
theorem RowAt.any{Z:an}{w:World}{B g gc:Nat}{L:List Cl}{wrap:Bool}(h:RowAt Z w B g gc L wrap):RowAt (fun _=>True) w B g gc L wrap:=h.keep (.refl _ _) fun b hb _=>trivial
section
section
variable {w w' : World} {B gg wd : Nat} {v v' : Value} {Xs Xs' : List (Option Nat)} {Rs : List Rw}
theorem PartAt.grow(h:PartAt w B gg wd v Xs Rs)(ho:OwnE ptrE (fun _=>True) w' B 113 v' Xs')(hb:Below B w w')(hk:KeepZ (fun b=>v.ownBlock≠some b) w w')(hd:∀ b,b<w.heap.size->v.ownBlock≠some b->v'.ownBlock≠some b):PartAt (w'.setCell ⟨gg,1,none⟩ v') B gg wd v' Xs' Rs/\w'.cell? ⟨gg,1,none⟩=some v/\w'.frozen? ⟨gg,1,none⟩=false:=by
 have hlt:=h.lt;have hga:v.ownBlock≠some gg:=fun e=>(h.apart e).1 rfl
 have hro:∀ i,i<Rs.length->v.ownBlock≠some (Rs.getD i r0).g/\v.ownBlock≠some (Rs.getD i r0).gc:=fun i hi=>⟨fun e=>((h.apart e).2 i hi).1 rfl,fun e=>((h.apart e).2 i hi).2 rfl⟩
 have LX:=h.gapart;obtain ⟨Z,h1,h2,h3,h4,h5,h6,h7,h8⟩:=h;have JW:=hk.has h2 hga;have hu:Upd (fun b=>v.ownBlock=some b) w w':=⟨hb.os,hb.tape,hb.output,hk.size,fun b hb' hn=>hk.block b hb' hn⟩;have h7':=h7.upd hu (fun b hz e=>h6 b e hz) (fun i hi=>hro i hi);have Id:=(Upd.refl (fun b=>b=gg) w').setCell (p:=⟨gg,1,none⟩) (.inl rfl) v';have hvg:∀ b,v'.ownBlock=some b->b≠gg:=fun b e e2=>by
  obtain ⟨C,hC⟩:=gR ho e;rw [e2] at hC;exact aH JW hC (by decide)
 refine ⟨⟨Z,fun b hz=>⟨(h1 b hz).1,Nat.lt_of_lt_of_le (h1 b hz).2 (Nat.le_trans hk.size Id.size)⟩,?_,h3,di (Id.keep.own ho.ptrs fun b e=>hvg b e),h5,fun b e hz=>?_,h7'.upd Id (fun b hz e=>h5 (e ▸ hz)) (fun i hi=>LX i hi),h8⟩,JW.cell 1 _ rfl,JW.free 1⟩
 ·have:=JW.set 1 v'
  simpa using this
 ·by_cases e2:v.ownBlock=some b
  ·exact h6 b e2 hz
  ·exact hd b (h1 b hz).2 e2 e
end
def OfTold(sa:Nat->Addr)(w:World)(Ls:List Ln)(e:Ending)(w':World):Prop:=(rU Ls->∃ gg gr Rs,e=.returned (.tuple #[.pointer (some ⟨gg,0,none⟩),.nilIface])/\lI w' w.heap.size gg gr (fm Ls) Rs/\Rs.map aQ=Ls)/\(∀ i c:Nat,lN Ls i c->∃ u,e=.returned (.tuple #[.pointer none,u])/\F.IsErr sa w' u [(i:Int)] c)/\Below w.heap.size w w'
theorem OfTold.bad{sa:Nat->Addr}{w w':World}{Ls:List Ln}{k c:Nat}{u:Value}(hk:k<Ls.length)(h:∀ j,j<k->fG (fm Ls) (Ls.getD j zl)=0)(hc:fG (fm Ls) (Ls.getD k zl)=c)(hn:c≠0)(he:F.IsErr sa w' u [(k:Int)] c)(hb:Below w.heap.size w w'):OfTold sa w Ls (.returned (.tuple #[.pointer none,u])) w':=by
 refine ⟨fun hg=>absurd (hc.symm.trans (hg k hk)) hn,fun i c' hf=>?_,hb⟩;obtain ⟨rfl,rfl⟩:=mZ hk h (by rw [hc];exact hn) hf;exact ⟨u,rfl,by rw [hc];exact he⟩
end
def GridM(M:Nat)(w:World)(B gg gr wd:Nat)(Rs:List Rw):Prop :=
 M<=w.heap.size/\∃ (Z:an) (cap:Nat),(∀ b,Z b->B<=b/\b<M)/\gg<M/\gr<M/\(∀ i,i<Rs.length->(Rs.getD i r0).g<M/\(Rs.getD i r0).gc<M)/\Has w gg [.int .i64 wd,.slice (some ⟨gr,0,none⟩) Rs.length cap] 119/\B<=gg/\OwnE ptrE (fun _=>True) w B 113 (.slice (some ⟨gr,0,none⟩) Rs.length cap) (ptrs Rs)/\¬ Z gg/\¬ Z gr/\RowsAt Z w B Rs/\(∀ i,i<Rs.length->(Rs.getD i r0).L.length=wd)/\0<Rs.length/\Rs.length<=1024
theorem GridM.at{M:Nat}{w:World}{B gg gr wd:Nat}{Rs:List Rw}(h:GridM M w B gg gr wd Rs):lI w B gg gr wd Rs:=by
 obtain ⟨hM,Z,cap,h1,k1,k2,k3,h2,h3,h4,h5,h6,h7,h8,h9,h10⟩:=h;exact ⟨Z,cap,fun b hz=>⟨(h1 b hz).1,Nat.lt_of_lt_of_le (h1 b hz).2 hM⟩,h2,h3,h4,h5,h6,h7,h8,h9,h10,fun _ _=>trivial⟩
theorem GridM.keep{M:Nat}{S:an}{w w':World}{B gg gr wd:Nat}{Rs:List Rw}(h:GridM M w B gg gr wd Rs)(hu:Upd S w w')(hs:∀ b,B<=b->b<M->¬ S b):GridM M w' B gg gr wd Rs:=by
 obtain ⟨hM,Z,cap,h1,k1,k2,k3,h2,h3,h4,h5,h6,h7,h8⟩:=h;have hk:=hu.keep;refine ⟨Nat.le_trans hM hu.size,Z,cap,h1,k1,k2,k3,hk.has h2 (hs _ h3 k1),h3,?_,h5,h6,h7.upd hu (fun b hz=>hs b (h1 b hz).1 (h1 b hz).2) (fun i hi=>⟨hs _ (h7.lt i hi).2.2.2 (k3 i hi).1,hs _ (h7.lt i hi).2.2.1 (k3 i hi).2⟩),h8⟩;exact di (hk.own h4.ptrs fun b hb=>by
  have:gr=b:=by simpa [Value.ownBlock] using hb
  subst this;exact hs _ (h4.lt gr rfl).1 k2)
theorem GridM.below{M:Nat}{w w':World}{B gg gr wd:Nat}{Rs:List Rw}(h:GridM M w B gg gr wd Rs)(hb:Below w.heap.size w w'):GridM M w' B gg gr wd Rs:=h.keep (S:=fun _=>False) (.ofBelow hb) fun _ _ _ e=>e
section
variable {Yo : an}
def bE(n:Nat)(a:Int):Nat:=(min (max a 0) n).toNat
theorem fi(n:Nat)(a:Int):bE n a<=n:=by unfold bE;omega
def cy(n:Nat)(a b k:Int):Int:=min k ((bE n b:Int) - bE n a)
theorem lF(p:Value)(n:Nat)(hn:n<=1024)(a b k:Int)(w:World)(hh:Calls Tryz.prog 95 #[p] w fun e w'=>e=.returned (.int .i64 n)/\w=w'):Calls Tryz.prog 263 #[p,.int .i64 a,.int .i64 b,.int .i64 k] w fun e w'=>e=.returned (.tuple #[.int .i64 (bE n a),.int .i64 (bE n b),.int .i64 (cy n a b k)])/\w=w':=by
 have HH:=ab hh;have h1:min (max a 0) (n:Int)=(bE n a:Int):=by unfold bE;omega
 have h2:min (max b 0) (n:Int)=(bE n b:Int):=by unfold bE;omega
 have Dn:=fi n a;have hl2:=fi n b;have H3:=ab (show cy n a b k=min k ((bE n b:Int) - bE n a) from rfl);obtain ⟨f,hf⟩:=ae (bE n a);obtain ⟨t,ht⟩:=ae (bE n b);rw [<-hf] at h1 Dn H3;rw [<-ht] at h2 hl2 H3;have HF:=ab hf;have HT:=ab ht;have hw:IntKind.i64.wrap ((t:Int) - f)=(t:Int) - f:=by rw [IntKind.wrap_i64];omega
 clear hh hf ht
 go_enter Tryz.func263,Tryz.ntmps263
 go_wp2_with fail
 refine HH.out.mono ?_;rintro e w1 ⟨rfl,rfl⟩
 go_wp2_with fail
 refine HH.out.mono ?_;rintro e w1 ⟨rfl,rfl⟩;go_wp2;exact bodyPost_ret (v:=.tuple #[.int .i64 f,.int .i64 t,.int .i64 (min k ((t:Int) - f))]) (by simp [results,Tryz.results263,go_sem]) rfl ⟨al (by rw [<-HF.out,<-HT.out,H3.out]),rfl⟩
theorem pE(B gg gr wd f t:Nat)(Rs:List Rw)(w:World)(h:GridY Yo w B gg gr wd Rs)(IV:f<=t)(ht:t<=Rs.length):Calls Tryz.prog 264 #[.pointer (some ⟨gg,0,none⟩),.int .i64 f,.int .i64 t] w (fk ptrE (fun _=>True) 113 w (ptrs ((Rs.drop f).take (t - f)))):=by
 have HG:=ab h;have hsz:=h.sizes.2.1;clear h
 go_enter Tryz.func264,Tryz.ntmps264
 go_wp2
 go_loopw [7,8] (fun v i wr=>∃ k:Nat,f<=k/\k<=t/\i=.int .i64 k/\OwnE ptrE (fun _=>True) wr w.heap.size 113 v (ptrs ((Rs.drop f).take (k - f)))/\Below w.heap.size w wr) (fun _ i _=>t - (intOf i).toNat)
 case atStart=>exact ⟨f,Nat.le_refl _,IV,rfl,by rw [Nat.sub_self,List.take_zero];exact OwnE.nil _ _ _ _ _,Below.refl _ _⟩
 case round =>
  obtain ⟨k,hfk,hk,rfl,hown,zN⟩:=hrel;have z5:=ab zN;clear zN;obtain ⟨v,hv⟩:=ae (u7);rw [<-hv] at hown ⊢;have HO:=ab hown;clear hv hown
  by_cases hlt:k<t
  ·have GN:k<Rs.length:=by omega
   have hr:=ie _ gg gr wd Rs k wr (HG.out.below z5.out) GN;obtain ⟨p,hp⟩:=ae ((Rs.getD k r0).g);rw [<-hp] at hr;have CN:ptrs ((Rs.drop f).take (k+1 - f))=ptrs ((Rs.drop f).take (k - f))++[some p]:=by
    have e:k+1 - f=(k - f)+1:=by omega
    rw [e,List.take_succ_eq_append_getElem (by rw [List.length_drop];omega)];unfold ptrs;rw [List.map_append];have:(Rs.drop f)[k - f]'(by rw [List.length_drop];omega)=Rs.getD k r0:=by
     rw [List.getElem_drop]
     simp [List.getD,show f+(k - f)=k by omega,List.getElem?_eq_getElem GN]
    rw [List.map_singleton,this,hp]
   have F6:=ab CN;have hlen:(ptrs ((Rs.drop f).take (k - f))).length<=1024:=by rw [bn,List.length_take,List.length_drop];omega
   obtain ⟨X0,hX⟩:=ae (ptrs ((Rs.drop f).take (k - f)));rw [<-hX] at HO F6 hlen;have AF:=HO.out.lt;have b1:=zI wr (.cells [cL (some p)].toArray 113);have HU:=ab (show HeldE ptrE (fun b=>True/\v.ownBlock≠some b) (wr.alloc (.cells [cL (some p)].toArray 113)) (.slice (some ⟨wr.heap.size,0,none⟩) 1 1) [some p] from aO (Y:=fun _=>False) [cL (some p)] (some p) rfl (fun _ _ h=>h.elim) ⟨trivial,fun e=>by have:=(AF _ e).2;omega⟩);have A4:=ab (HO.out.below b1);have Ah:=ab (z5.out.trans (b1.mono z5.out.size));clear hX CN hp AF b1 HO
   go_wp2_with fail
   refine hr.mono ?_;rintro e w1 ⟨rfl,rfl⟩;clear hr
   go_wp2_with (at_builtin;refine aw (E:=ptrE) (Z:=fun _=>True) rfl (.tmp 15) (.tmp 19) 117 rfl (.pointer none) 8 Tryz.underlying117 fQ rfl (by decide) rfl rfl A4.out HU.out (by simp only [List.length_singleton];omega) (by simp only [List.length_singleton];omega) Ah.out.size ?_)
   intro v2 w2 Ap b2 _ _;rw [<-F6.out] at Ap;have H2:=ab Ap;have AM:=ab (Ah.out.trans b2);clear Ap b2;go_wp2
   go_roundw
   case rel=>exact ⟨k+1,by omega,by omega,by go_num,H2.out,AM.out⟩
   case measure=>simp [intOf] <;> omega
  ·obtain rfl:k=t:=by omega
   go_wp2;go_ret;exact ⟨_,rfl,HO.out,z5.out⟩
def PtrsAt(w:World)(B:Nat)(v:Value)(Rs:List Rw):Prop :=
 ∃ Z:an,(∀ b,Z b->B<=b/\b<w.heap.size)/\OwnE ptrE (fun _=>True) w B 113 v (ptrs Rs)/\(∀ b,v.ownBlock=some b->¬ Z b)/\RowsAt Z w B Rs
section
variable {w w' : World} {B : Nat} {v v' : Value} {Rs : List Rw}
theorem PtrsAt.apart(h:PtrsAt w B v Rs){b:Nat}(hb:v.ownBlock=some b):∀ i,i<Rs.length->(Rs.getD i r0).g≠b/\(Rs.getD i r0).gc≠b:=by
 obtain ⟨Z,h1,h4,h6,h7⟩:=h;obtain ⟨C,hC⟩:=gR h4 hb;intro i hi;obtain ⟨⟨D,hD⟩,D',Ke⟩:=(h7.row i hi).types;exact ⟨fun e=>by rw [<-e] at hC;exact aH hD hC (by decide),fun e=>by rw [<-e] at hC;exact aH Ke hC (by decide)⟩
theorem PtrsAt.below(h:PtrsAt w B v Rs)(hb:Below w.heap.size w w'):PtrsAt w' B v Rs:=by
 obtain ⟨Z,h1,h4,h6,h7⟩:=h;exact ⟨Z,fun b hz=>⟨(h1 b hz).1,Nat.lt_of_lt_of_le (h1 b hz).2 hb.size⟩,h4.below hb,h6,h7.below hb⟩
theorem PtrsAt.next(h:PtrsAt w B v Rs){w2:World}{g gc:Nat}{L:List Cl}{wrap:Bool}(hBw:B<=w.heap.size)(hr:RowAt (fun b=>w.heap.size<=b) w' w.heap.size g gc L wrap)(hb:Below w.heap.size w w')(ho:OwnE ptrE (fun _=>True) w2 B 113 v' (ptrs Rs++[some g]))(hb2:Below B w' w2)(hk:KeepZ (fun b=>v.ownBlock≠some b) w' w2)(hd:∀ b,b<w'.heap.size->v.ownBlock≠some b->v'.ownBlock≠some b):PtrsAt w2 B v' (Rs++[⟨g,gc,L,wrap⟩]):=by
 have hap:=fun b (hb:v.ownBlock=some b)=>h.apart hb
 obtain ⟨Z,h1,h4,h6,h7⟩:=h;have hlt:=hr.lt;have hs:=h7.snoc (fun b hz=>(h1 b hz).2) hBw (Nat.le_refl _) hr hb;have hu:Upd (fun b=>v.ownBlock=some b) w' w2:=⟨hb2.os,hb2.tape,hb2.output,hk.size,fun b hb' hn=>hk.block b hb' hn⟩;have Kh:∀ b,v.ownBlock=some b->b<w.heap.size:=fun b e=>(h4.lt b e).2
 have hat:∀ i,i<(Rs++[(⟨g,gc,L,wrap⟩ : Rw)]).length->(i<Rs.length/\(Rs++[(⟨g,gc,L,wrap⟩ : Rw)]).getD i r0=Rs.getD i r0)\/(Rs++[(⟨g,gc,L,wrap⟩ : Rw)]).getD i r0=⟨g,gc,L,wrap⟩:=fun i hi=>by
  rw [bU];rw [List.length_append,List.length_singleton] at hi
  by_cases e:i<Rs.length
  ·exact .inl ⟨e,if_pos e⟩
  ·right
   rw [if_neg e,show i - Rs.length=0 by omega]
   rfl
 refine ⟨_,fun b hz=>?_,?_,fun b e hz=>?_,hs.upd hu (fun b hz e=>?_) fun i hi=>?_⟩
 ·have:=hk.size
  rcases hz with hz | hz
  ·have:=h1 b hz;have:=hb.size;omega
  ·omega
 ·have:ptrs (Rs++[⟨g,gc,L,wrap⟩])=ptrs Rs++[some g]:=by simp [ptrs]
  rw [this];exact ho
 ·have hbl:b<w'.heap.size:=by
   rcases hz with hz | hz
   ·have:=h1 b hz;have:=hb.size;omega
   ·omega
  by_cases e2:v.ownBlock=some b
  ·rcases hz with hz | hz
   ·exact h6 b e2 hz
   ·have:=Kh b e2;omega
  ·exact hd b hbl e2 e
 ·rcases hz with hz | hz
  ·exact h6 b e hz
  ·have:=Kh b e;omega
 ·rcases hat i hi with ⟨hl,e⟩ | e
  ·rw [e];exact ⟨fun e2=>((hap _ e2) i hl).1 rfl,fun e2=>((hap _ e2) i hl).2 rfl⟩
  ·rw [e];exact ⟨fun e2=>by have:=Kh _ e2;simp only at this;omega,fun e2=>by have:=Kh _ e2;simp only at this;omega⟩
end
theorem oh(B gg gr wd n:Nat)(Rs:List Rw)(w:World)(h:GridY Yo w B gg gr wd Rs)(hn:n<=1024):Calls Tryz.prog 267 #[.pointer (some ⟨gg,0,none⟩),.int .i64 n] w (fun e w'=>∃ v Ns,e=.returned v/\PtrsAt w' w.heap.size v Ns/\Ns.map aQ=List.replicate n (List.replicate wd zc,false)/\Below w.heap.size w w'):=by
 have HG:=ab h;have hwd:=h.sizes.2.2;have Kz:=ab (show da (wd:Int)=wd by unfold da;omega);clear h
 go_enter Tryz.func267,Tryz.ntmps267
 go_wp2
 go_loopw [5,7] (fun v i wr=>∃ (k:Nat) (Ns:List Rw),k<=n/\i=.int .i64 k/\PtrsAt wr w.heap.size v Ns/\Ns.map aQ=List.replicate k (List.replicate wd zc,false)/\Below w.heap.size w wr) (fun _ i _=>n - (intOf i).toNat)
 case atStart=>exact ⟨0,[],Nat.zero_le _,rfl,⟨fun _=>False,fun b h=>h.elim,OwnE.nil _ _ _ _ _,(fun b e=>by cases e),RowsAt.nil _ _ _⟩,rfl,Below.refl _ _⟩
 case round =>
  obtain ⟨k,Ns,hk,rfl,hp,hm,zN⟩:=hrel;have z5:=ab zN;have HM:=ab hm;clear zN hm;obtain ⟨v,hv⟩:=ae (u5);rw [<-hv] at hp ⊢;have HP:=ab hp;clear hv hp
  by_cases hlt:k<n
  ·have Jr:=eX _ gg gr wd Rs wr (HG.out.below z5.out)
   go_wp2_with fail
   refine Jr.mono ?_;rintro e w1 ⟨rfl,rfl⟩;have M4:=pJ (fun b=>wr.heap.size<=b) (wd:Int) wr;rw [Kz.out] at M4;clear Jr
   go_wp2_with fail
   refine M4.mono ?_;rintro e w1 ⟨g,gc,rfl,hr1,b1⟩;have HR:=ab hr1;have Ah:=ab b1;have hlen:(ptrs Ns).length<=1024:=by
    have:=congrArg List.length HM.out;rw [List.length_map,List.length_replicate] at this;rw [bn];omega
   obtain ⟨Jx,AF⟩ : OwnE ptrE (fun _=>True) wr w.heap.size 113 v (ptrs Ns)/\∀ b,v.ownBlock=some b->w.heap.size<=b/\b<wr.heap.size:=by
    obtain ⟨Z,_,k4,_⟩:=HP.out;exact ⟨k4,k4.lt⟩
   have b2:=zI w1 (.cells [cL (some g)].toArray 113);have HU:=ab (show HeldE ptrE (fun b=>True/\v.ownBlock≠some b) (w1.alloc (.cells [cL (some g)].toArray 113)) (.slice (some ⟨w1.heap.size,0,none⟩) 1 1) [some g] from aO (Y:=fun _=>False) [cL (some g)] (some g) rfl (fun _ _ h=>h.elim) ⟨trivial,fun e=>by have:=(AF _ e).2;have:=b1.size;omega⟩);have HO:=ab ((Jx.below b1).below b2);have AM:=ab (b1.trans (b2.mono b1.size));have BD:=ab (z5.out.trans (AM.out.mono z5.out.size));have NY:=ab (hr1.below b2);clear M4 hr1 b1 b2 Jx AF HR
   go_wp2_with (at_builtin;refine aw (E:=ptrE) (Z:=fun _=>True) rfl (.tmp 9) (.tmp 13) 117 rfl (.pointer none) 8 Tryz.underlying117 fQ rfl (by decide) rfl rfl HO.out HU.out (by simp only [List.length_singleton];omega) (by simp only [List.length_singleton];omega) BD.out.size ?_)
   intro v4 w4 Lg b4 hk4 N1;have Jh:=HP.out.next z5.out.size NY.out AM.out Lg b4 hk4 (fun b hb hn=>N1 b (by simpa using hb) hn);have H2:=ab (show PtrsAt w4 w.heap.size v4 (Ns++[⟨g,gc,List.replicate wd zc,false⟩])/\(Ns++[(⟨g,gc,List.replicate wd zc,false⟩ : Rw)]).map aQ=List.replicate (k+1) (List.replicate wd zc,false) from ⟨Jh,by rw [List.map_append,HM.out,List.replicate_succ'];rfl⟩);have EW:=ab (BD.out.trans b4);clear Lg b4 hk4 N1 Jh;go_wp2
   go_roundw
   case rel=>exact ⟨k+1,_,by omega,by go_num,H2.out.1,H2.out.2,EW.out⟩
   case measure=>simp [intOf] <;> omega
  ·obtain rfl:k=n:=by omega
   go_wp2;go_ret;exact ⟨v,Ns,rfl,HP.out,HM.out,z5.out⟩
end
theorem qX(Z:an)(N:Nat)(hN:N<=1000000)(w:World):Calls Tryz.prog 290 #[.slice none 0 0,.int .i64 N] w (fk ptrE Z 113 w []):=by
 rcases Nat.eq_zero_or_pos N with rfl | hp
 ·go_enter Tryz.func290,Tryz.ntmps290
  go_wp2;go_ret;exact ⟨_,rfl,OwnE.nil _ _ _ _ _,Below.refl _ _⟩
 ·obtain ⟨i0,hi,hz0,hz1,hz2⟩:=info_parts fQ;obtain ⟨C,hC⟩:=ae (grownCap w N 0 113);have hr:=Go.Lib.run_append_nil_zeros (P:=Tryz.prog) w 117 3 117 113 i0 (.pointer none) .i64 .i64 Tryz.underlying117 Tryz.underlying3 hi hz0 N hp (by rw [hz1];decide) (by omega) (by rw [hz2];omega);rw [<-hC] at hr;have Kg:N<=C:=by rw [hC];exact grownCap_ge w N 0 113
  have hle:C<=maxLen:=by rw [hC];exact grownCap_le_maxLen w N 0 113 (by unfold maxLen;omega)
  have MN:=ab hle;have HO:=ab (show (w.drew.alloc (.cells (Builtin.zeroCells (Value.pointer none).cells N++Builtin.zeroCells (Value.pointer none).cells (C - N)) 113)).ownsRow w.heap.size 113 1 (.slice (some ⟨w.heap.size,0,none⟩) 0 C) 0 [] from by
   refine ⟨rfl,.inr ⟨w.heap.size,_,_,rfl,Nat.le_refl _,heap_alloc_new w.drew _,Nat.zero_le _,hle,?_,by simp⟩⟩
   simp [Builtin.zeroCells,Value.cells]
   omega)
  have HB:=ab ((Below.refl w.heap.size w).drew.alloc (Nat.le_refl _) (.cells (Builtin.zeroCells (Value.pointer none).cells N++Builtin.zeroCells (Value.pointer none).cells (C - N)) 113));generalize (w.drew.alloc (.cells (Builtin.zeroCells (Value.pointer none).cells N++Builtin.zeroCells (Value.pointer none).cells (C - N)) 113))=w1 at hr HO HB;clear hC hi hz0 hz1 hz2 hle
  go_enter Tryz.func290,Tryz.ntmps290
  go_wp2_with (at_builtin;refine Go.Lib.wpList_append_run _ rfl (.tmp 20) (.tmp 21) _ _ rfl _ _ rfl rfl _ _ hr ?_)
  go_wp2;go_ret;exact ⟨_,rfl,OwnE.empty HO.out,HB.out⟩
abbrev ptrsE:Elem (List (Option Nat)):=slE ptrE
theorem tp{Z:an}{w:World}{ao:Option Addr}{n cap:Nat}{L:List (List (Option Nat))}(h:HeldE ptrsE Z w (.slice ao n cap) L):n=L.length/\n<=cap/\∀ i,i<L.length->∃ b off u,ao=some ⟨b,off,none⟩/\b<w.heap.size/\w.cell? ⟨b,off+i,none⟩=some u/\HeldE ptrE Z w u (L.getD i []):=by
 obtain ⟨h1,h2,h3⟩:=h.spots;refine ⟨h1,h2,fun i hi=>?_⟩;obtain ⟨b,off,rfl,hb,hz,C,hC,u,rfl,hr⟩:=h3 i hi;have hc:=hC 0 (by decide);rw [show off+i * ptrsE.size+0=off+i from by show off+i * 1+0=_;omega] at hc;exact ⟨b,off,u,rfl,hb,hc,hr⟩
theorem pD(Z:an)(v:Value)(L:List (List (Option Nat)))(w:World)(hh:HeldE ptrsE Z w v L)(hl:L.length<=1000000)(ht:L.flatten.length<=1000000):Calls Tryz.prog 266 #[v] w (fk ptrE Z 113 w L.flatten):=by
 have hh:=hh.zone (Y:=fun b=>Z b/\b<w.heap.size) (fun b hb hz=>⟨hz,hb⟩);obtain ⟨ao,cap,rfl⟩:=hh.len;obtain ⟨_,_,hs⟩:=tp hh;have HH:=ab hs;have MN:=ab (vX L);have HFA:=ab (m3 L);rw [<-m3 L] at ht ⊢;clear hh hs
 go_enter Tryz.func266,Tryz.ntmps266
 go_wp2
 go_loopw [3,11] (fun sv iv wr=>∃ k s:Nat,k<=L.length/\iv=.int .i64 k/\sv=.int .i64 s/\Hid (s=(fR L k).length)/\wr=w) (fun _ iv _=>L.length - (intOf iv).toNat)
 case atStart=>exact ⟨0,0,Nat.zero_le _,rfl,rfl,ab rfl,rfl⟩
 case round =>
  obtain ⟨k,s,hk,rfl,rfl,HS,rfl⟩:=hrel;obtain ⟨wo,PA⟩:=ae (wr);subst PA;have BV:s<=1000000:=by have:=MN.out k hk;have:=HS.out;omega
  by_cases hlt:k<L.length
  ·obtain ⟨b,off,u,rfl,hb,c0,hu⟩:=HH.out k hlt;have Hf:=iR L k hlt;have IP:=MN.out (k+1) (by omega);obtain ⟨T,hT⟩:=ae (L.getD k []);rw [<-hT] at hu Hf;obtain ⟨uo,uc,rfl⟩:=hu.len;rw [Hf,List.length_append] at IP;have hs2:s+T.length<=1000000:=by have:=HS.out;omega
   have hs3:s+T.length=(fR L (k+1)).length:=by rw [Hf,List.length_append,HS.out]
   have KJ:=ab hs3;have d1:decide ((s:Int)+(T.length:Int)<0)=false:=decide_eq_false (by omega);clear Hf hT hu hs3 IP;go_wp2
   go_roundw
   case rel=>exact ⟨k+1,s+T.length,by omega,by go_num,by go_num,KJ,trivial⟩
   case measure=>simp [intOf] <;> omega
  ·obtain rfl:k=L.length:=by omega
   have HG:=ab (qX Z s BV wo)
   go_wp2_with fail
   refine HG.out.mono ?_;rintro e w1 ⟨v1,rfl,AA,b1⟩;have A4:=ab AA;have Ah:=ab b1;clear AA b1 HG HS BV hlt;go_wp2
   go_loopw [6,27] (fun nv iv w2=>∃ k:Nat,k<=L.length/\iv=.int .i64 k/\OwnE ptrE Z w2 wo.heap.size 113 nv (fR L k)/\Below wo.heap.size wo w2) (fun _ iv _=>L.length - (intOf iv).toNat)
   case atStart=>exact ⟨0,Nat.zero_le _,rfl,A4.out,Ah.out⟩
   case round =>
    obtain ⟨k,hk,rfl,hown,zN⟩:=hrel;have HOW:=ab hown;have z5:=ab zN;clear hown zN
    by_cases hlt:k<L.length
    ·obtain ⟨b,off,u,rfl,hb,c0,hu⟩:=HH.out k hlt;have c0:=(z5.out.cell (p:=⟨b,off+k,none⟩) hb).trans c0;have Hf:=iR L k hlt;have IP:=MN.out (k+1) (by omega);obtain ⟨T,hT⟩:=ae (L.getD k []);rw [<-hT] at hu Hf;obtain ⟨uo,uc,rfl⟩:=hu.len;rw [Hf,List.length_append] at IP;obtain ⟨P0,hP⟩:=ae (fR L k);rw [<-hP] at Hf HOW IP;have Ob:=ab Hf;have AF:=HOW.out.lt;have HU:=ab (show HeldE ptrE (fun b=>Z b/\_≠some b) wr (.slice uo T.length uc) T from (hu.below z5.out).zone fun b _ hz=>⟨hz.1,fun e=>by have:=(AF b e).1;omega⟩);have hs2:P0.length+T.length<=1000000:=by omega
     clear Hf hT hu IP hP AF
     go_wp2_with (at_builtin;refine aw (E:=ptrE) (Z:=Z) rfl (.tmp 31) (.tmp 32) 117 rfl (.pointer none) 8 Tryz.underlying117 fQ rfl (by decide) rfl rfl HOW.out HU.out (by omega) (by omega) z5.out.size ?_)
     intro v2 w2 Ap hb2 _ _;have hb3:=z5.out.trans hb2;rw [<-Ob.out] at Ap;have H2:=ab Ap;have H3:=ab hb3;clear Ap hb2 hb3;go_wp2
     go_roundw
     case rel=>exact ⟨k+1,by omega,by go_num,H2.out,H3.out⟩
     case measure=>simp [intOf] <;> omega
    ·obtain rfl:k=L.length:=by omega
     go_wp2;go_ret;exact ⟨_,rfl,HOW.out,z5.out⟩
section
variable {Yo : an}
def og(Xs:List (Option Nat))(f:Nat)(Ys:List (Option Nat)):Nat->List (Option Nat)
 | 0=>Xs
 | j+1=>(og Xs f Ys j).set (f+j) (Ys.getD j none)
theorem fh(Xs:List (Option Nat))(f:Nat)(Ys:List (Option Nat)):∀ j,(og Xs f Ys j).length=Xs.length
 | 0=>rfl
 | j+1=>by unfold og;rw [List.length_set,fh]
theorem rS(Xs:List (Option Nat))(f:Nat)(Ys:List (Option Nat)):∀ j,f+j<=Xs.length->∀ i,(og Xs f Ys j).getD i none=if f<=i/\i<f+j then Ys.getD (i - f) none else Xs.getD i none
 |0,_,i=>by rw [if_neg (by omega)];rfl
 |j+1,h,i=>by
  unfold og;rw [cp _ _ _ _ _ (by rw [fh];omega),rS Xs f Ys j (by omega) i]
  by_cases e:i=f+j
  ·rw [if_pos e,if_pos (by omega),e,Nat.add_sub_cancel_left]
  ·rw [if_neg e]
   by_cases e2:f<=i/\i<f+j
   ·rw [if_pos e2,if_pos (by omega)]
   ·rw [if_neg e2,if_neg (by omega)]
theorem vI{Rs Ms:List Rw}{f:Nat}(h:f+Ms.length<=Rs.length):og (ptrs Rs) f (ptrs Ms) Ms.length=ptrs (Rs.take f++Ms++Rs.drop (f+Ms.length)):=by
 have hl:(Rs.take f++Ms++Rs.drop (f+Ms.length)).length=Rs.length:=by simp;omega
 apply List.ext_getElem (by rw [fh,bn,bn,hl])
 intro i h1 h2;rw [fh,bn] at h1;have e:=rS (ptrs Rs) f (ptrs Ms) Ms.length (by rw [bn];exact h) i;have gd:∀ (xs:List (Option Nat)) (h:i<xs.length),xs[i]=xs.getD i none:=fun xs h=>by simp [List.getD,List.getElem?_eq_getElem h]
 rw [gd _ (by rw [fh,bn];exact h1),gd _ h2,e,gm (Rs.take f++Ms++Rs.drop (f+Ms.length)) i (by rw [hl];exact h1),bU,bU];simp only [List.length_append,List.length_take]
 by_cases c1:i<f
 ·rw [if_neg (by omega),gm Rs i h1,if_pos (by omega),if_pos (by omega)]
  congr 2
  simp [List.getD,List.getElem?_take,c1]
 ·by_cases c2:i<f+Ms.length
  ·rw [if_pos ⟨by omega,c2⟩,gm Ms _ (by omega),if_pos (by omega),if_neg (by omega)]
   congr 3
   omega
  ·rw [if_neg (by omega),gm Rs i h1,if_neg (by omega)]
   congr 2
   simp only [List.getD,List.getElem?_drop]
   congr 2
   omega
def ku(Rs:List Rw)(i:Nat):List Rw:=Rs.set i ⟨(Rs.getD i r0).g,(Rs.getD i r0).gc,(Rs.getD i r0).L,false⟩
def zE(Yo:an)(B gg gr wd f:Nat)(Rs':List Rw)(w:World)(e:Ending)(w':World):Prop:=e=.returned (.tuple #[])/\GridY Yo w' B gg gr wd (if f=0 then Rs' else ku Rs' (f - 1))/\Upd (fun b=>b=gr\/(0<f/\(b=(Rs'.getD (f - 1) r0).g\/b=(Rs'.getD (f - 1) r0).gc))) w w'
theorem tm(B gg gr wd f cap:Nat)(Z:an)(Rs Ms:List Rw)(v:Value)(w:World)(hf:f+Ms.length<=Rs.length)(hM:0<Ms.length)(hn:Rs.length<=1024)
  (hz:∀ b,Z b->B<=b/\b<w.heap.size) (hYo:∀ b,(Z b\/w.heap.size<=b)->Yo b) (Mt:Has w gg [.int .i64 wd,.slice (some ⟨gr,0,none⟩) Rs.length cap] 119) (hB:B<=gg) (ho:OwnE ptrE (fun _=>True) w B 113 (.slice (some ⟨gr,0,none⟩) Rs.length cap) (ptrs Rs)) (z1:¬ Z gg) (z2:¬ Z gr)
  (hr:RowsAt Z w B (Rs.take f++Ms++Rs.drop (f+Ms.length))) (hw:∀ i,i<(Rs.take f++Ms++Rs.drop (f+Ms.length)).length->((Rs.take f++Ms++Rs.drop (f+Ms.length)).getD i r0).L.length=wd)
  (hv:HeldE ptrE (fun b=>b≠gr) w v (ptrs Ms)):Calls Tryz.prog 265 #[.pointer (some ⟨gg,0,none⟩),.int .i64 f,v] w (zE Yo B gg gr wd f (Rs.take f++Ms++Rs.drop (f+Ms.length)) w):=by
 have hpl:=vI hf;obtain ⟨R',KV⟩:=ae (Rs.take f++Ms++Rs.drop (f+Ms.length));have hmat:∀ j,j<Ms.length->R'.getD (f+j) r0=Ms.getD j r0:=fun j hj=>by
  rw [KV,bU,if_pos (by simp;omega),bU,if_neg (by simp;omega),List.length_take,show f+j - min f Rs.length=j by omega]
 have CM:R'.length=Rs.length:=by rw [KV];simp;omega
 rw [<-KV] at hr hw hpl ⊢;have MI:=ab hpl;have Hz:=ab CM;have HR:=ab hr;have HW:=ab hw;have HZ:=ab (And.intro hz (And.intro z1 z2));have HYO:=ab hYo;clear hYo;have HMAT:=ab hmat
 -- the pointers' block is of its own type
 have hgt:gg≠gr/\∀ i,i<R'.length->(R'.getD i r0).g≠gr/\(R'.getD i r0).gc≠gr:=by
  obtain ⟨C,hC⟩:=gR ho (b:=gr) rfl;refine ⟨fun e=>by subst e;exact aH Mt hC (by decide),fun i hi=>?_⟩;obtain ⟨⟨D,hD⟩,D',Ke⟩:=(hr.row i hi).types;exact ⟨fun e=>by rw [<-e] at hC;exact aH hD hC (by decide),fun e=>by rw [<-e] at hC;exact aH Ke hC (by decide)⟩
 have Ow:=ab hgt;have ED:=ab Mt;have HO:=ab ho;have Bg:Rs.length<=cap:=by
  rcases ho.ptrs.2 with ⟨e,_⟩ | ⟨g',cap',cur,e,_,_,Ox,_⟩
  ·cases e
  ·simp only [Value.slice.injEq] at e;obtain ⟨_,_,rfl⟩:=e;rw [bn] at Ox;exact Ox
 have Kh:=hv.len;obtain ⟨va,vc,hve⟩:=Kh;rw [bn] at hve;subst hve;have HV:=ab (show ∀ j,j<Ms.length->∃ b off,va=some ⟨b,off,none⟩/\b<w.heap.size/\b≠gr/\w.cell? ⟨b,off+j,none⟩=some (.pointer (some ⟨(Ms.getD j r0).g,0,none⟩)) from fun j hj=>by
  obtain ⟨b,off,e,hb,hz9,C,hC,LV⟩:=hv.spots.2.2 j (by rw [bn];exact hj);have:=hC 0 (by decide);rw [show C=[cL ((ptrs Ms).getD j none)] from LV,gm Ms j hj] at this;rw [show ptrE.size=1 from rfl,Nat.mul_one,Nat.add_zero] at this;exact ⟨b,off,e,hb,hz9,this⟩)
 obtain ⟨n,hne⟩:=ae (Rs.length);obtain ⟨q,M6⟩:=ae (Ms.length);have HN:=ab hne;have HQ:=ab M6;rw [<-M6] at HV hf hM HMAT ⊢;rw [<-hne] at hf hn Bg ED HO;clear hv hr hw hz z1 z2 Mt ho hgt hpl CM hmat KV hne M6
 go_enter Tryz.func265,Tryz.ntmps265
 go_wp2
 go_loopw [10] (fun i wr=>∃ k:Nat,k<=q/\i=.int .i64 k/\OwnE ptrE (fun _=>True) wr B 113 (.slice (some ⟨gr,0,none⟩) n cap) (og (ptrs Rs) f (ptrs Ms) k)/\Upd (fun b=>b=gr) w wr) (fun i _=>q - (intOf i).toNat)
 case atStart=>exact ⟨0,Nat.zero_le _,rfl,HO.out,Upd.refl _ _⟩
 case round =>
  obtain ⟨k,hk,rfl,hown,Mx⟩:=hrel;have HOW:=ab hown;have Ks:=ab Mx;have hgx:=Ks.out.keep.has ED.out Ow.out.1;have IF:=ab hgx;clear hown Mx hgx;have c0:=IF.out.cell 0 _ rfl;have c1:=IF.out.cell 1 _ rfl
  by_cases hlt:k<q
  ·obtain ⟨b,off,rfl,hb,FU,cv⟩:=HV.out k hlt;have cv:=(Ks.out.keep.cell (o:=off+k) hb FU).trans cv;have Oe:=(HR.out.row (f+k) (by rw [Hz.out,<-HN.out];omega)).upd Ks.out (fun b hz e=>HZ.out.2.2 (e ▸ hz)) (Ow.out.2 (f+k) (by rw [Hz.out,<-HN.out];omega)).1 (Ow.out.2 (f+k) (by rw [Hz.out,<-HN.out];omega)).2;have Jr:=HW.out (f+k) (by rw [Hz.out,<-HN.out];omega);rw [HMAT.out k hlt] at Oe Jr;have KQ:=jq HOW.out (f+k) (by rw [fh,bn,<-HN.out];omega);have Lm:=vJ gg gr wd n cap (f+k) _ _ _ _ _ _ wr c0 c1 Bg _ KQ.1 KQ.2 (by omega) hn Oe Jr;have hput:cL (some (Ms.getD k r0).g)=cL ((ptrs Ms).getD k none):=by rw [gm Ms k (by rw [<-HQ.out];exact hlt)]
   obtain ⟨p,hp⟩:=ae ((Ms.getD k r0).g);rw [<-hp] at cv Lm hput;have HFIT:=ab Lm;have LJ:=ab hput;have Cd:IntKind.i64.wrap ((f:Int)+k)=(f:Int)+k:=by rw [IntKind.wrap_i64];omega
   have hcast:((f+k:Nat):Int)=(f:Int)+k:=by omega
   rw [hcast] at HFIT;clear Oe Jr KQ Lm hput hp c0 c1 hcast
   go_wp2_with fail
   refine HFIT.out.mono ?_;rintro e w2 ⟨rfl,w3,b3,hw2⟩;have DF:=om (HOW.out.below b3) (f+k) (by rw [fh,bn,<-HN.out];omega) ((ptrs Ms).getD k none);have Dj:=(Upd.refl (fun b=>b=gr) w3).setCell (p:=⟨gr,f+k,none⟩) (.inl rfl) (cL ((ptrs Ms).getD k none));rw [LJ.out] at hw2;rw [<-hw2] at DF Dj;have H3:=ab (show OwnE ptrE (fun _=>True) w2 B 113 (.slice (some ⟨gr,0,none⟩) n cap) (og (ptrs Rs) f (ptrs Ms) (k+1)) from DF);have HU3:=ab ((Ks.out.trans (.ofBelow b3)).trans Dj);clear DF Dj hw2 b3 Cd cv;go_wp2
   go_roundw
   case rel=>exact ⟨k+1,by omega,by go_num,H3.out,HU3.out⟩
   case measure=>simp [intOf] <;> omega
  ·obtain rfl:k=q:=by omega
   have hall:og (ptrs Rs) f (ptrs Ms) k=ptrs R':=by rw [HQ.out];exact MI.out
   rw [hall] at HOW;have hG:GridY Yo wr B gg gr wd R':=⟨Z,cap,fun b hz=>⟨(HZ.out.1 b hz).1,Nat.lt_of_lt_of_le (HZ.out.1 b hz).2 Ks.out.size⟩,by rw [Hz.out,<-HN.out];exact IF.out,hB,by rw [Hz.out,<-HN.out];exact HOW.out,HZ.out.2.1,HZ.out.2.2,HR.out.upd Ks.out (fun b hz e=>HZ.out.2.2 (e ▸ hz)) Ow.out.2,HW.out,by rw [Hz.out,<-HN.out];omega,by rw [Hz.out,<-HN.out];exact hn,fun x hx=>HYO.out x (hx.imp id (Nat.le_trans Ks.out.size))⟩;have G:=ab hG;clear hG hall c0 c1
   cases f with
   |zero =>
    have h1:=vO B gg gr wd R' (-1) wr G.out (.inl (by omega))
    go_wp2_with fail
    refine h1.mono ?_;rintro e w2 ⟨rfl,rfl⟩
    go_wp2_with fail
    refine (tA false wr).mono ?_;rintro e w2 ⟨rfl,rfl⟩;go_wp2;exact bodyPost_end (by kernel_rfl) rfl ⟨rfl,by rw [if_pos rfl];exact G.out,Ks.out.mono (fun b _ e=>.inl e)⟩
   |succ f =>
    have M7:f<R'.length:=by rw [Hz.out,<-HN.out];omega
    have h1:=ie B gg gr wd R' f wr G.out M7;have h2:=mQ B gg gr wd f R' false wr G.out M7;have Cd:IntKind.i64.wrap (f:Int)=(f:Int):=by rw [IntKind.wrap_i64];omega
    have hw2:((f+1:Nat):Int) - 1=f:=by omega
    have hw3:(f:Int)+1 - 1=f:=by omega
    have hs2:=h2;obtain ⟨p,hp⟩:=ae ((R'.getD f r0).g);have H2:=ab (show Calls Tryz.prog 71 #[.pointer (some ⟨p,0,none⟩),.bool false] wr _ by rw [hp];exact hs2);rw [<-hp] at h1;clear h2 hs2 hp
    go_wp2_with fail
    refine h1.mono ?_;rintro e w2 ⟨rfl,rfl⟩
    go_wp2_with fail
    refine H2.out.mono ?_;rintro e w2 ⟨rfl,hg2,Id⟩;have HF:=ab (And.intro hg2 ((Ks.out.mono (T:=fun b=>b=gr\/(0<f+1/\(b=(R'.getD (f+1 - 1) r0).g\/b=(R'.getD (f+1 - 1) r0).gc))) (fun b _ e=>.inl e)).trans (Id.mono (fun b _ e=>.inr ⟨by omega,e⟩))));clear hg2 Id H2 h1;go_wp2;exact bodyPost_end (by kernel_rfl) rfl ⟨rfl,by rw [if_neg (by omega)];exact HF.out.1,HF.out.2⟩
end
section
theorem RowsAt.append{Z Y:an}{w:World}{B B2 M:Nat}{Rs Ns:List Rw}(h1:RowsAt Z w B Rs)(h2:RowsAt Y w B2 Ns)(hB:B<=B2)(hz:∀ b,Z b->b<M)(hr:∀ i,i<Rs.length->(Rs.getD i r0).g<M/\(Rs.getD i r0).gc<M)(hy:∀ b,Y b->M<=b)(hM:M<=B2):RowsAt (fun b=>Z b\/Y b) w B (Rs++Ns):=by
 have hat:∀ i,i<(Rs++Ns).length->(i<Rs.length/\(Rs++Ns).getD i r0=Rs.getD i r0)\/(Rs.length<=i/\i - Rs.length<Ns.length/\(Rs++Ns).getD i r0=Ns.getD (i - Rs.length) r0):=fun i hi=>by
  rw [bU];rw [List.length_append] at hi
  by_cases e:i<Rs.length
  ·exact .inl ⟨e,if_pos e⟩
  ·exact .inr ⟨by omega,by omega,if_neg e⟩
 refine ⟨fun i hi=>?_,fun i hi=>?_,fun i j hi hj Mv=>?_⟩
 ·rcases hat i hi with ⟨hl,e⟩ | ⟨_,hl,e⟩
  ·rw [e];exact (h1.row i hl).keep (.refl _ _) fun b _ hz=>.inl hz
  ·rw [e];exact ((h2.row _ hl).base hB).keep (.refl _ _) fun b _ hz=>.inr hz
 ·rcases hat i hi with ⟨hl,e⟩ | ⟨_,hl,e⟩
  ·rw [e];have:=hr i hl;exact ⟨fun hzz=>by rcases hzz with hzz | hzz;exact (h1.out i hl).1 hzz;have:=hy _ hzz;omega,fun hzz=>by rcases hzz with hzz | hzz;exact (h1.out i hl).2 hzz;have:=hy _ hzz;omega⟩
  ·rw [e];have:=h2.lt _ hl;exact ⟨fun hzz=>by rcases hzz with hzz | hzz;have:=hz _ hzz;omega;exact (h2.out _ hl).1 hzz,fun hzz=>by rcases hzz with hzz | hzz;have:=hz _ hzz;omega;exact (h2.out _ hl).2 hzz⟩
 ·rcases hat i hi with ⟨hl,e⟩ | ⟨hg,hl,e⟩ <;> rcases hat j hj with ⟨hl',e'⟩ | ⟨hg',hl',e'⟩ <;> rw [e,e']
  ·exact h1.apart i j hl hl' Mv
  ·have:=hr i hl;have:=h2.lt _ hl';exact ⟨by omega,by omega⟩
  ·have:=hr j hl';have:=h2.lt _ hl;exact ⟨by omega,by omega⟩
  ·exact h2.apart _ _ hl hl' (by omega)
theorem RowsAt.sub{Z:an}{w:World}{B:Nat}{As Rs:List Rw}(h:RowsAt Z w B As)(p:Nat->Nat)(hp:∀ i,i<Rs.length->p i<As.length/\Rs.getD i r0=As.getD (p i) r0)(hi:∀ i j,i<Rs.length->j<Rs.length->i≠j->p i≠p j):RowsAt Z w B Rs :=
 ⟨fun i hl=>by rw [(hp i hl).2];exact h.row _ (hp i hl).1,fun i hl=>by rw [(hp i hl).2];exact h.out _ (hp i hl).1,fun i j hl hl' hne=>by rw [(hp i hl).2,(hp j hl').2];exact h.apart _ _ (hp i hl).1 (hp j hl').1 (hi i j hl hl' hne)⟩
theorem pC{α:Type}(l:List α)(d:α)(i k:Nat):(l.take k).getD i d=if i<k then l.getD i d else d:=by
 by_cases h:i<k
 ·rw [if_pos h];simp [List.getD,List.getElem?_take,h]
 ·rw [if_neg h];simp [List.getD,List.getElem?_take,h]
theorem lE{α:Type}(l:List α)(d:α)(i k:Nat):(l.drop k).getD i d=l.getD (k+i) d:=by simp [List.getD,List.getElem?_drop]
def cP(Rs Ns:List Rw)(f t q:Nat):List Rw:=((Rs.drop f).take (t - f)).drop q++Ns
section
variable {Rs Ns : List Rw} {f t q : Nat}
theorem ic(hf:f<=t)(ht:t<=Rs.length)(hq:q<=t - f)(hn:Ns.length=q):(cP Rs Ns f t q).length=t - f:=by unfold cP;simp;omega
theorem jZ(Ms:List Rw)(hm:Ms.length=t - f)(hf:f<=t)(ht:t<=Rs.length)(i:Nat):(Rs.take f++Ms++Rs.drop (f+Ms.length)).getD i r0=if i<f then Rs.getD i r0 else if i<t then Ms.getD (i - f) r0 else Rs.getD i r0:=by
 rw [bU,bU,List.length_append,List.length_take,hm,show min f Rs.length=f by omega]
 by_cases c1:i<f
 ·rw [if_pos (by omega),if_pos c1,if_pos c1,pC,if_pos c1]
 ·rw [if_neg c1]
  by_cases c2:i<t
  ·rw [if_pos (by omega),if_neg c1,if_pos c2]
  ·rw [if_neg (by omega),if_neg c2,lE,show f+(t - f)+(i - (f+(t - f)))=i by omega,if_neg c1]
theorem rR(hf:f<=t)(ht:t<=Rs.length)(hq:q<=t - f)(hn:Ns.length=q)(i:Nat)(hi:i<t - f):(cP Rs Ns f t q).getD i r0=if i+q<t - f then Rs.getD (f+q+i) r0 else Ns.getD (i+q - (t - f)) r0:=by
 unfold cP;rw [bU,List.length_drop,List.length_take,List.length_drop,lE,pC,lE]
 by_cases c:i+q<t - f
 ·rw [if_pos (by omega),if_pos (by omega),if_pos c]
  congr 1
  omega
 ·rw [if_neg (by omega),if_neg c]
  congr 1
  omega
theorem yb{Z:an}{w:World}{B:Nat}(h:RowsAt Z w B (Rs++Ns))(hf:f<=t)(ht:t<=Rs.length)(hq:q<=t - f)(hn:Ns.length=q):RowsAt Z w B (Rs.take f++cP Rs Ns f t q++Rs.drop (f+(cP Rs Ns f t q).length)):=by
 have DV:=ic hf ht hq hn;have Ce:(Rs.take f++cP Rs Ns f t q++Rs.drop (f+(cP Rs Ns f t q).length)).length=Rs.length:=by rw [List.length_append,List.length_append,List.length_take,List.length_drop,DV];omega
 refine h.sub (fun i=>if i<f then i else if i<t then (if i - f+q<t - f then i+q else Rs.length+(i+q - t)) else i) (fun i hi=>?_) (fun i j hi hj hne=>?_)
 ·rw [Ce] at hi;rw [jZ _ DV hf ht,List.length_append,hn]
  by_cases c1:i<f
  ·simp only [if_pos c1];exact ⟨by omega,by rw [bU,if_pos hi]⟩
  ·simp only [if_neg c1]
   by_cases c2:i<t
   ·simp only [if_pos c2];rw [rR hf ht hq hn _ (by omega)]
    by_cases c3:i - f+q<t - f
    ·simp only [if_pos c3];refine ⟨by omega,?_⟩;rw [bU,if_pos (by omega)]
     congr 1
     omega
    ·simp only [if_neg c3];refine ⟨by omega,?_⟩;rw [bU,if_neg (by omega)]
     congr 1
     omega
   ·simp only [if_neg c2];exact ⟨by omega,by rw [bU,if_pos hi]⟩
 ·rw [Ce] at hi hj;intro e
  try simp only at e
  split at e <;> split at e <;> (try split at e) <;> (try split at e) <;> (try split at e) <;> (try split at e) <;> omega
end
end
section
variable {Yo : an}
def NsAt(w:World)(M:Nat)(Ns:List Rw):Prop:=∃ Z:an,(∀ b,Z b->M<=b/\b<w.heap.size)/\RowsAt Z w M Ns
theorem NsAt.upd{S:an}{w w':World}{M:Nat}{Ns:List Rw}(h:NsAt w M Ns)(hu:Upd S w w')(hs:∀ b,S b->b<M):NsAt w' M Ns:=by
 obtain ⟨Z,h1,h2⟩:=h;exact ⟨Z,fun b hz=>⟨(h1 b hz).1,Nat.lt_of_lt_of_le (h1 b hz).2 hu.size⟩,h2.upd hu (fun b hz e=>by have:=hs b e;have:=h1 b hz;omega) fun i hi=>⟨fun e=>by have:=hs _ e;have:=h2.lt i hi;omega,fun e=>by have:=hs _ e;have:=h2.lt i hi;omega⟩⟩
theorem vE{Z:an}{w:World}{B:Nat}{a b:Value}{la lb:List (Option Nat)}(ha:HeldE ptrE Z w a la)(hb:HeldE ptrE Z w b lb)(hB:B<=w.heap.size)(hz:∀ b,B<=b->Z b):HeldE ptrsE Z (w.alloc (.cells #[a,b] 117)) (.slice (some ⟨w.heap.size,0,none⟩) 2 2) [la,lb]:=by
 refine (OwnE.lit w ptrsE [[a],[b]] [la,lb] 2 rfl rfl hB (by decide) (fun i hi=>?_) _ rfl).held (fun b hb _=>hz b hb)
 match i,hi with
 | 0,_=>exact ⟨_,rfl,ha⟩
 | 1,_=>exact ⟨_,rfl,hb⟩
def kt(w:World)(gr:Nat)(Rs:List Rw)(b:Nat):Prop:=b=gr\/(∃ i,i<Rs.length/\(b=(Rs.getD i r0).g\/b=(Rs.getD i r0).gc))\/w.heap.size<=b
def vG(Yo:an)(w:World)(B gg gr wd f q:Nat)(Rs:List Rw)(R:List Rw->List Rw)(w':World):Prop:=∃ Ns:List Rw,(Ns.map aQ=List.replicate q (List.replicate wd zc,false)/\∀ i,i<Ns.length->w.heap.size<=(Ns.getD i r0).g/\w.heap.size<=(Ns.getD i r0).gc)/\GridY Yo w' B gg gr wd (if f=0 then R Ns else ku (R Ns) (f - 1))/\Upd (kt w gr Rs) w w'
theorem gl{Ns:List Rw}{q wd:Nat}(h:Ns.map aQ=List.replicate q (List.replicate wd zc,false)):Ns.length=q/\∀ i,i<q->(Ns.getD i r0).L.length=wd:=by
 have hl:Ns.length=q:=by have:=congrArg List.length h;simpa using this
 refine ⟨hl,fun i hi=>?_⟩;have e:(Ns.map aQ).getD i zl=(List.replicate wd zc,false):=by rw [h];simp [List.getD,List.getElem?_replicate,hi]
 have e2:(Ns.map aQ).getD i zl=aQ (Ns.getD i r0):=by simp [List.getD,List.getElem?_eq_getElem (show i<Ns.length by omega)]
 rw [e2] at e;have:=congrArg (fun x:Ln=>x.1.length) e
 simpa [aQ] using this
theorem vH(B gg gr wd f t q M:Nat)(Rs Ns:List Rw)(v:Value)(w ws:World)(h:GridY Yo w B gg gr wd Rs)(hb:Below w.heap.size w ws)(hf:f<t)(ht:t<=Rs.length)(hq:q<=t - f)(hN:NsAt ws M Ns)(hM:w.heap.size<=M)(hl:Ns.map aQ=List.replicate q (List.replicate wd zc,false))(hv:HeldE ptrE (fun b=>w.heap.size<=b) ws v (ptrs (cP Rs Ns f t q))):Calls Tryz.prog 265 #[.pointer (some ⟨gg,0,none⟩),.int .i64 f,v] ws (fun e w'=>e=.returned (.tuple #[])/\vG Yo w B gg gr wd f q Rs (fun Ns=>Rs.take f++cP Rs Ns f t q++Rs.drop (f+(cP Rs Ns f t q).length)) w'/\Upd (fun b=>b<w.heap.size) ws w'):=by
 have hlt:=h.lt;obtain ⟨IX,M4⟩:=gl hl;have DV:=ic (Rs:=Rs) (Ns:=Ns) (f:=f) (t:=t) (q:=q) (by omega) ht hq IX;obtain ⟨Z,cap,k1,k2,k3,k4,k5,k6,k7,k8,k9,k10⟩:=h;obtain ⟨Zn,n1,n2⟩:=hN;have hap:=RowsAt.append (M:=M) (k7.below hb) n2 (by have:=k2.lt;omega) (fun b hz=>by have:=k1 b hz;omega) (fun i hi=>by have:=hlt.2.2.2.2.2 i hi;omega) (fun b hz=>(n1 b hz).1) (Nat.le_refl _);have hrw:=yb hap (by omega) ht hq IX;have hs:=tm B gg gr wd f cap _ Rs (cP Rs Ns f t q) v ws (by rw [DV];omega) (by rw [DV];omega) k10.1 (fun b hz=>by
   have:=hb.size
   rcases hz with hz | hz
   ·have:=k1 b hz;omega
   ·have:=n1 b hz;have:=k2.lt;omega) (fun x hx=>k10.2 x (by
   have:=hb.size
   rcases hx with (hz | hz) | hz
   ·exact .inl hz
   ·exact .inr (by have:=n1 x hz;omega)
   ·exact .inr (by omega))) (k2.below hb k2.lt) k3 (k4.below hb) (fun hz=>by
   rcases hz with hz | hz
   ·exact k5 hz
   ·have:=n1 _ hz;have:=hlt.2.1;omega) (fun hz=>by
   rcases hz with hz | hz
   ·exact k6 hz
   ·have:=n1 _ hz;have:=hlt.2.2.2.1;omega) hrw (fun i hi=>by
   rw [jZ _ DV (by omega) ht];have Na:i<Rs.length:=by
    rw [List.length_append,List.length_append,List.length_take,List.length_drop,DV] at hi;omega
   split
   ·exact k8 i Na
   ·split
    ·rw [rR (by omega) ht hq IX _ (by omega)]
     split
     ·exact k8 _ (by omega)
     ·exact M4 _ (by omega)
    ·exact k8 i Na) (hv.zone fun b _ hz=>by have:=hlt.2.2.2.1;omega)
 refine hs.mono ?_;rintro e w' ⟨rfl,hg,hu⟩;refine ⟨rfl,⟨Ns,⟨hl,fun i hi=>by have:=n2.lt i hi;omega⟩,hg,((Upd.ofBelow hb).trans hu).mono fun b _ e=>?_⟩,hu.mono fun b _ e=>?_⟩
 ·rcases e with e | ⟨h0,e⟩
  ·exact .inl e
  ·rw [jZ _ DV (by omega) ht,if_pos (by omega)] at e;exact .inr (.inl ⟨f - 1,by omega,e⟩)
 rcases e with e | ⟨h0,e⟩
 ·have:=hlt.2.2.2.1;omega
 ·rw [jZ _ DV (by omega) ht,if_pos (by omega)] at e;have:=hlt.2.2.2.2.2 (f - 1) (by omega)
  rcases e with e | e <;> omega
theorem tj(B gg gr wd f t q:Nat)(Rs:List Rw)(a b k:Int)(w:World)(h:GridY Yo w B gg gr wd Rs)(hf:bE Rs.length a=f)(ht:bE Rs.length b=t)(hk:cy Rs.length a b k=(q:Int))(hq:0<q):Calls Tryz.prog 227 #[.pointer (some ⟨gg,0,none⟩),.int .i64 a,.int .i64 b,.int .i64 k] w (fun e w'=>e=.returned (.tuple #[])/\vG Yo w B gg gr wd f q Rs (fun Ns=>Rs.take f++cP Rs Ns f t q++Rs.drop (f+(cP Rs Ns f t q).length)) w'):=by
 have hsz:=h.sizes;have DK:t<=Rs.length:=by rw [<-ht];exact fi _ _
 have Np:q<=t - f/\f<t:=by unfold cy at hk;rw [hf,ht] at hk;omega
 have EG:=lF (.pointer (some ⟨gg,0,none⟩)) Rs.length hsz.2.1 a b k w (de B gg gr wd Rs w h);rw [hf,ht,hk] at EG;have FF:=ab EG;have HG:=ab h;have Mz:=ab (pE B gg gr wd f t Rs w h (by omega) DK);have LT:=ab h.lt;have FB:=ab DK;have Dx:decide ((q:Int)<1)=false:=ai (by omega);have Au:decide (q<1)=false:=ai (by omega);obtain ⟨T,hT⟩:=ae (ptrs ((Rs.drop f).take (t - f)));have MR:T.length=t - f:=by rw [hT,bn,List.length_take,List.length_drop];omega
 have HTE:=ab hT;rw [<-hT] at Mz;have Lz:q<=1024:=by omega
 have ht9:t - f<=1024:=by omega
 clear h hf ht hk EG hT DK hsz
 go_enter Tryz.func227,Tryz.ntmps227
 go_wp2_with fail
 refine FF.out.mono ?_;rintro e w1 ⟨rfl,rfl⟩
 go_wp2_with fail
 refine Mz.out.mono ?_;rintro e w1 ⟨v1,rfl,AA,b1⟩;obtain ⟨gt,ct,rfl,hgt1,hgt2⟩:=AA.some (by omega);have DX:=AA.held (Z:=fun b=>w.heap.size<=b) (fun b hb _=>hb);obtain ⟨l,hl⟩:=ae (t - f);rw [MR] at DX ⊢;rw [<-hl] at DX MR Np ⊢;have DH:l<=ct:=by obtain ⟨_,hn,_⟩:=DX.spots;exact hn
 have HH:=ab DX;have Ah:=ab b1;have HQT:=ab Np;have KP:=ab (show T.length=l/\l<=1024 from ⟨MR,by rw [hl];exact ht9⟩);have MN:=ab hl;have HC:=ab (show ∀ w',Below w1.heap.size w1 w'->HeldE ptrE (fun b=>w.heap.size<=b) w' (.slice (if ct=q then some ⟨gt,0,none⟩ else some ⟨gt,q,none⟩) (l - q) (ct - q)) (T.drop q) from fun w' b=>by
  have h3:=HH.out.below b;rw [<-MR] at h3;obtain ⟨_,_,e,hcm,hmx,_⟩:=id h3
  cases e
  have hp:=h3.part q T.length (by omega) (Nat.le_refl _) (if ct=q then some ⟨gt,0,none⟩ else some ⟨gt,q,none⟩) (ct - q) (fun e=>by cases e) (fun b off e hlt=>by cases e;rw [if_neg (by omega)];simp [show ptrE.size=1 from rfl]) (fun _ _=>by split <;> simp) (by omega) (by omega);rw [List.take_of_length_le (by rw [List.length_drop];exact Nat.le_refl _),MR] at hp;exact hp)
 have HMID:=ab (show ∀ Ns,T.drop q++ptrs Ns=ptrs (cP Rs Ns f t q) from fun Ns=>by rw [HTE.out];unfold cP ptrs;rw [List.map_append,List.map_drop]);have hz1:q<=l:=Np.1;have hz2:q<=ct:=by omega
 have hz3:(q:Int)<=(l:Int):=by omega
 have hz4:(q:Int)<=(ct:Int):=by omega
 clear AA b1 DX hl Mz FF Dx Au
 go_upto_region 3 with (fail)
 obtain ⟨zM,zU⟩ : ∃ CC:Array Bool->World->Prop,CC=fun L8 w'=>(Mix.one L8 10=0->Below w1.heap.size w1 w')/\(Mix.one L8 10=1->vG Yo w B gg gr wd f q Rs (fun Ns=>Rs.take f++cP Rs Ns f t q++Rs.drop (f+(cP Rs Ns f t q).length)) w'):=⟨_,rfl⟩
 obtain ⟨Ar,z7⟩ : ∃ XX:World->World->Prop,XX=fun x y=>Upd (fun b=>b<w.heap.size) x y:=⟨_,rfl⟩
 obtain ⟨Am,Ad,zR,zQ,zS,zT,zW,zV,zY,zP,zX,z4,zO,_⟩:=Reg.e12 Ar
  (fun xx _=>xx=.pointer (some ⟨gg,0,none⟩))
  (fun xx _=>xx=.int .i64 f)
  (fun xx _=>xx=.slice (some ⟨gt,0,none⟩) l ct)
  (fun xx _=>xx=.int .i64 q)
  (fun xx _=>xx=.slice (if ct=q then some ⟨gt,0,none⟩ else some ⟨gt,q,none⟩) (l - q) (ct - q))
  (fun xx _=>xx=.pointer (some ⟨gg,0,none⟩))
  (fun xx _=>xx=.int .i64 q)
  (fun x w'=>∃ Ns,NsAt w' w1.heap.size Ns/\HeldE ptrE (fun b=>w.heap.size<=b) w' x (ptrs Ns)/\Ns.map aQ=List.replicate q (List.replicate wd zc,false))
  (fun x w'=>∃ Ns,NsAt w' w1.heap.size Ns/\HeldE ptrsE (fun b=>w.heap.size<=b) w' x [T.drop q,ptrs Ns]/\Ns.map aQ=List.replicate q (List.replicate wd zc,false))
  (fun x w'=>∃ Ns,NsAt w' w1.heap.size Ns/\HeldE ptrE (fun b=>w.heap.size<=b) w' x (T.drop q++ptrs Ns)/\Ns.map aQ=List.replicate q (List.replicate wd zc,false))
  (fun xx _=>xx=.tuple #[])
  (fun _ _=>True)
  (s7:=fun x w w1 hx h=>by rw [z7] at hx;(obtain ⟨Ns,h7,h8,h9⟩:=h;exact ⟨Ns,h7.upd hx (fun b e=>Nat.lt_of_lt_of_le e Ah.out.size),HeldE.upd h8 hx (fun b hb e=>by omega),h9⟩))
  (s8:=fun x w w1 hx h=>by rw [z7] at hx;(obtain ⟨Ns,h7,h8,h9⟩:=h;exact ⟨Ns,h7.upd hx (fun b e=>Nat.lt_of_lt_of_le e Ah.out.size),HeldE.upd h8 hx (fun b hb e=>by omega),h9⟩))
  (s9:=fun x w w1 hx h=>by rw [z7] at hx;(obtain ⟨Ns,h7,h8,h9⟩:=h;exact ⟨Ns,h7.upd hx (fun b e=>Nat.lt_of_lt_of_le e Ah.out.size),HeldE.upd h8 hx (fun b hb e=>by omega),h9⟩))
 have zZ:Hid (∀ i L w,(i == 10)=false ->  zM L w->zM (L.setIfInBounds i true) w):=ab (by
  intro i L w q h;simp only [Bool.or_eq_false_iff,beq_eq_false_iff_ne] at q;rw [zU] at h ⊢;simp only [Mix.one_ne q];exact h)
 have Al:Hid (∀ L w w1,zM L w->Below w.heap.size w w1->zM L w1):=ab (by
  intro L w w1 h hb;rw [zU] at h ⊢;exact ⟨fun e=>(h.1 e).trans (hb.mono (h.1 e).size),fun e=>by obtain ⟨Ns,q1,q2,q3⟩:=h.2 e;exact ⟨Ns,q1,q2.below hb,q3.trans (.ofBelow hb)⟩⟩)
 have Ac:=ab (show ∀ w,Ar w w from fun w=>by rw [z7];exact Upd.refl _ _);have Ab:=ab (show ∀ w w1,Below w.heap.size w w1->Ar w w1 from fun w w1 hb=>by rw [z7];exact Upd.ofBelow hb);have Ao:=ab (show zM (Array.replicate 11 false) w1.drew from by rw [zU];exact ⟨fun _=>(Below.refl _ _).drew,fun e=>absurd e (by decide)⟩);have zL:=ab (fun (i:Nat) L w v q (h:zM L w) (e:Am i v w)=>Reg.hk (zZ.out i L w q h) e (Ac.out w));have zK:=ab zU;have z8:=ab z7;clear zU z7
 go_wp2_with fail
 refine Reg.regionF Am zM Ar Ad.out (by kernel_rfl) (by kernel_rfl) (by kernel_rfl) Ao.out (fun Gl zJ=>?_);simp only [Reg.frame,Reg.dsts,List.map_cons,List.map_nil,Mix.put_lit,List.set_cons_succ,List.set_cons_zero,Nat.zero_add,Nat.reduceAdd] at zJ;refine ⟨⟨?_,?_,?_,?_,?_,?_,?_,?_,?_,?_,?_,trivial⟩,?_⟩
 ·intro Lq wq xq hh;simp only [zJ];refine Reg.go rfl ?_;have HK:=zL.out 0 _ _ _ rfl hh.cls ((zR.out _ _).mpr rfl);go_simp;exact HK.out
 ·intro Lq wq xq hh;simp only [zJ];refine Reg.go rfl ?_;have HK:=zL.out 1 _ _ _ rfl hh.cls ((zQ.out _ _).mpr rfl);go_simp;exact HK.out
 ·intro Lq wq xq hh;simp only [zJ];refine Reg.go rfl ?_;have HK:=zL.out 2 _ _ _ rfl hh.cls ((zS.out _ _).mpr rfl);go_simp;exact HK.out
 ·intro Lq wq xq hh;simp only [zJ];refine Reg.go rfl ?_;have HK:=zL.out 3 _ _ _ rfl hh.cls ((zT.out _ _).mpr rfl);go_simp;exact HK.out
 ·intro Lq wq xq hh;simp only [zJ,(zS.out _ _).mp (hh.v 2),(zT.out _ _).mp (hh.v 3)];refine Reg.go rfl ?_;have HK:=zL.out 4 _ _ _ rfl hh.cls ((zW.out _ _).mpr rfl);go_simp;exact HK.out
 ·intro Lq wq xq hh;simp only [zJ];refine Reg.go rfl ?_;have HK:=zL.out 5 _ _ _ rfl hh.cls ((zV.out _ _).mpr rfl);go_simp;exact HK.out
 ·intro Lq wq xq hh;simp only [zJ];refine Reg.go rfl ?_;have HK:=zL.out 6 _ _ _ rfl hh.cls ((zY.out _ _).mpr rfl);go_simp;exact HK.out
 ·intro Lq wq xq hh;simp only [zJ,(zV.out _ _).mp (hh.v 5),(zY.out _ _).mp (hh.v 6)];refine Reg.go rfl ?_;unfold Reg.upon;have hc:zM Lq wq:=hh.cls;rw [zK.out] at hc;have MK:=hc.1 (Mix.one_un (hh.notYet 10 (by kernel_rfl)));go_simp;refine (oh B gg gr wd q Rs wq (HG.out.below (Ah.out.trans (MK.mono Ah.out.size))) Lz).mono ?_;rintro e w2 ⟨v2,Ns,rfl,⟨Zn,n1,n2,n3,n4⟩,hm,hb⟩;refine ⟨_,rfl,zZ.out 7 Lq w2 (by decide) (Al.out Lq wq w2 hh.cls hb),?_,Ab.out wq w2 hb⟩;rw [zP.out];exact ⟨Ns,⟨Zn,fun b hz=>⟨Nat.le_trans MK.size (n1 b hz).1,(n1 b hz).2⟩,⟨fun i hi=>(n4.row i hi).base MK.size,n4.out,n4.apart⟩⟩,(n2.zoneP (Y:=fun b=>w.heap.size<=b)).held (fun b hb _=>Nat.le_trans (Nat.le_trans Ah.out.size MK.size) hb),hm⟩
 ·intro Lq wq xq hh;have d7:=(zP.out _ _).mp (hh.v 7);simp only [zJ,(zW.out _ _).mp (hh.v 4)];refine Reg.go rfl ?_;unfold Reg.upon;have hc:zM Lq wq:=hh.cls;rw [zK.out] at hc;have hc0:=hc.1 (Mix.one_un (hh.notYet 10 (by kernel_rfl)));obtain ⟨Ns,hn,hh8,hm⟩:=d7;obtain ⟨ao4,ca4,e4⟩:=hh8.len;obtain ⟨A8,hA8⟩:=ae ((if ct=q then some (⟨gt,0,none⟩ : Addr) else some ⟨gt,q,none⟩));have hb1:=zI wq (.cells #[.slice A8 (l - q) (ct - q),xq 7] 117);have hcc:=HC.out wq hc0;rw [<-hA8] at hcc ⊢;have ho:=vE (Z:=fun b=>w.heap.size<=b) (B:=w.heap.size) hcc hh8 (Nat.le_trans Ah.out.size hc0.size) (fun _ h=>h);rw [e4] at ho hb1 ⊢;clear hA8 hcc;go_simp;refine ⟨zZ.out 8 Lq _ (by decide) (Al.out Lq wq _ hh.cls hb1),?_,Ab.out wq _ hb1⟩;rw [zX.out];exact ⟨Ns,hn.upd (S:=fun b=>b<w1.heap.size) (.ofBelow hb1) (fun _ e=>e),ho,hm⟩
 ·intro Lq wq xq hh;have d8:=(zX.out _ _).mp (hh.v 8);simp only [zJ];refine Reg.go rfl ?_;unfold Reg.upon;have hc:zM Lq wq:=hh.cls;rw [zK.out] at hc;have hc0:=hc.1 (Mix.one_un (hh.notYet 10 (by kernel_rfl)));obtain ⟨Ns,hn,FD,hm⟩:=d8;have IX:=(gl hm).1;go_simp;refine (pD (fun b=>w.heap.size<=b) _ _ wq FD (by simp) (by have:=KP.out;simp only [List.flatten_cons,List.flatten_nil,List.append_nil,List.length_append,List.length_drop,bn];omega)).mono ?_;rintro e w4 ⟨v4,rfl,ho,hb⟩;refine ⟨_,rfl,zZ.out 9 Lq w4 (by decide) (Al.out Lq wq w4 hh.cls hb),?_,Ab.out wq w4 hb⟩;rw [z4.out];exact ⟨Ns,hn.upd (S:=fun b=>b<w1.heap.size) (.ofBelow hb) (fun _ e=>e),by simpa using ho.held (fun b h _=>Nat.le_trans (Nat.le_trans Ah.out.size hc0.size) h),hm⟩
 ·intro Lq wq xq hh;have d9:=(z4.out _ _).mp (hh.v 9);simp only [zJ,(zR.out _ _).mp (hh.v 0),(zQ.out _ _).mp (hh.v 1)];refine Reg.go rfl ?_;unfold Reg.upon;have hc:zM Lq wq:=hh.cls;rw [zK.out] at hc;have hc0:=hc.1 hh.un;have zN:=Ah.out.trans (hc0.mono Ah.out.size);obtain ⟨Ns,hn,FD,hm⟩:=d9;rw [HMID.out] at FD;go_simp;refine (vH B gg gr wd f t q w1.heap.size Rs Ns _ w wq HG.out zN HQT.out.2 FB.out (by rw [<-MN.out];exact HQT.out.1) hn Ah.out.size hm FD).mono ?_;rintro e w4 ⟨rfl,hmd,hu⟩;refine ⟨_,rfl,?_,(by rw [zO.out]),(by rw [z8.out];exact hu)⟩;rw [zK.out]
  dsimp only
  refine ⟨fun e=>?_,fun _=>hmd⟩;rw [Mix.one_set (by rw [hh.size];decide)] at e;exact absurd e (by decide)
 intro xq Dk Af Av;rw [zK.out] at Af;simp only [zJ];have vrg10:=(zO.out _ _).mp (Av 10 (by decide));rw [vrg10];clear Av zJ zL zZ Ac Ad Ao zK z8 Al Ab zR zQ zS zT zW zV zY zP zX z4 zO;have HE:=ab (Af.2 (by kernel_rfl));clear Af vrg10;go_wp2;exact bodyPost_end (by kernel_rfl) rfl ⟨rfl,HE.out⟩
end
theorem vD(p:Value)(n:Nat)(hn:n<=1024)(a b k:Int)(w:World)(hh:Calls Tryz.prog 95 #[p] w fun e w'=>e=.returned (.int .i64 n)/\w=w')(hk:cy n a b k<1):Calls Tryz.prog 227 #[p,.int .i64 a,.int .i64 b,.int .i64 k] w fun e w'=>e=.returned (.tuple #[])/\w=w':=by
 have FF:=ab (lF p n hn a b k w hh);obtain ⟨K,hK⟩:=ae (cy n a b k);rw [<-hK] at FF hk;have hd:decide (K<1)=true:=by rw [decide_eq_true_eq];exact hk
 clear hK hh hk
 go_enter Tryz.func227,Tryz.ntmps227
 go_wp2_with fail
 refine FF.out.mono ?_;rintro e w1 ⟨rfl,rfl⟩;go_wp2
 first
  | exact bodyPost_ret (v:=.tuple #[]) (by simp [results,Tryz.results227,go_sem]) rfl ⟨rfl,rfl⟩
  | exact bodyPost_end (by kernel_rfl) rfl ⟨rfl,rfl⟩
def gF(Ls:List Ln)(f t q:Nat)(up:Bool)(i:Nat):Ln :=
 if f<=i/\i<t then (if up=true then (if i+q<t then Ls.getD (i+q) zl else (List.replicate (Ls.getD i zl).1.length zc,false)) else (if f+q<=i then Ls.getD (i - q) zl else (List.replicate (Ls.getD i zl).1.length zc,false))) else Ls.getD i zl
def cK(Ls:List Ln)(f t q:Nat)(up:Bool)(i:Nat):Ln:=((gF Ls f t q up i).1,if i+1=f\/(up=false/\i+1=t) then false else (gF Ls f t q up i).2)
def gD(Ls:List Ln)(f t q:Nat)(up:Bool):List Ln:=(List.range Ls.length).map (cK Ls f t q up)
theorem dG{Rs:List Rw}{Ls:List Ln}(h:Rs.map aQ=Ls)(i:Nat)(hi:i<Rs.length):aQ (Rs.getD i r0)=Ls.getD i zl:=by
 rw [<-h]
 simp [List.getD,List.getElem?_eq_getElem hi]
theorem mP{Rs:List Rw}{g:Nat->Ln}{n:Nat}(hl:Rs.length=n)(h:∀ i,i<n->aQ (Rs.getD i r0)=g i):Rs.map aQ=(List.range n).map g:=by
 apply List.ext_getElem (by simp [hl])
 intro i h1 h2;have hi:i<Rs.length:=by simpa using h1
 have:=h i (by omega);simp only [List.getElem_map,List.getElem_range];rw [<-this]
 simp [List.getD,List.getElem?_eq_getElem hi]
theorem yS(R:List Rw)(j i:Nat)(hj:j<R.length):aQ ((ku R j).getD i r0)=if i=j then ((aQ (R.getD i r0)).1,false) else aQ (R.getD i r0):=by
 unfold ku;rw [cp _ _ _ _ _ hj]
 by_cases e:i=j
 ·subst e;rw [if_pos rfl,if_pos rfl];rfl
 ·rw [if_neg e,if_neg e]
theorem vC{Rs Ns:List Rw}{Ls:List Ln}{f t q wd:Nat}(h:Rs.map aQ=Ls)(hf:f<t)(ht:t<=Rs.length)(hq:q<=t - f)(hm:Ns.map aQ=List.replicate q (List.replicate wd zc,false))(hw:∀ i,i<Rs.length->(Rs.getD i r0).L.length=wd) :
  (if f=0 then Rs.take f++cP Rs Ns f t q++Rs.drop (f+(cP Rs Ns f t q).length) else ku (Rs.take f++cP Rs Ns f t q++Rs.drop (f+(cP Rs Ns f t q).length)) (f - 1)).map aQ=gD Ls f t q true:=by
 have IX:=(gl hm).1;have DV:=ic (Rs:=Rs) (Ns:=Ns) (f:=f) (t:=t) (q:=q) (by omega) ht hq IX;have Oy:Ls.length=Rs.length:=by rw [<-h];simp
 obtain ⟨R',KV⟩:=ae (Rs.take f++cP Rs Ns f t q++Rs.drop (f+(cP Rs Ns f t q).length));have CM:R'.length=Rs.length:=by rw [KV,List.length_append,List.length_append,List.length_take,List.length_drop,DV];omega
 have hat:∀ i,i<Rs.length->aQ (R'.getD i r0)=gF Ls f t q true i:=fun i hi=>by
  rw [KV,jZ _ DV (by omega) ht];unfold gF
  by_cases c1:i<f
  ·rw [if_pos c1,if_neg (by omega)];exact dG h i hi
  ·rw [if_neg c1]
   by_cases c2:i<t
   ·rw [if_pos c2,if_pos ⟨by omega,c2⟩,if_pos rfl,rR (by omega) ht hq IX _ (by omega)]
    by_cases c3:i+q<t
    ·rw [if_pos (by omega),if_pos c3,show f+q+(i - f)=i+q by omega];exact dG h _ (by omega)
    ·rw [if_neg (by omega),if_neg c3,<-dG h i hi,dG hm _ (by omega)];have e:(List.replicate q ((List.replicate wd zc,false):Ln)).getD (i - f+q - (t - f)) zl=(List.replicate wd zc,false):=by simp [List.getD,List.getElem?_replicate,show i - f+q - (t - f)<q by omega]
     rw [e,show (aQ (Rs.getD i r0)).1.length=wd from hw i hi]
   ·rw [if_neg c2,if_neg (by omega)];exact dG h i hi
 rw [<-KV];unfold gD;rw [Oy]
 by_cases h0:f=0
 ·rw [if_pos h0];refine mP CM fun i hi=>?_
  rw [hat i hi];unfold cK;rw [if_neg (by rintro (e | ⟨e,_⟩);omega;exact absurd e (by decide))]
 ·rw [if_neg h0];refine mP (by unfold ku;rw [List.length_set];exact CM) fun i hi=>?_
  rw [yS _ _ _ (by rw [CM];omega),hat i hi];unfold cK
  by_cases c:i=f - 1
  ·rw [if_pos c,if_pos (.inl (by omega))]
  ·rw [if_neg c,if_neg (by rintro (e | ⟨e,_⟩);omega;exact absurd e (by decide))]
theorem qW(v:Value)(Z:an)(Ls:List Ln)(a b k:Int)(up:Bool)(w:World)(hv:HeldE lineE Z w v Ls)(hl:Ls.length<=1000)(hk:cy Ls.length a b k<1):Calls Tryz.prog 170 #[v,.int .i64 a,.int .i64 b,.int .i64 k,.bool up] w (Gives w v):=by
 obtain ⟨ao,ca,rfl⟩:=hv.len;obtain ⟨n,hn⟩:=ae (Ls.length);rw [<-hn] at hl hk ⊢;have h1:max 0 (min a (n:Int))=(bE n a:Int):=by unfold bE;omega
 have h2:max 0 (min b (n:Int))=(bE n b:Int):=by unfold bE;omega
 unfold cy at hk;obtain ⟨f,hf⟩:=ae (bE n a);obtain ⟨t,ht⟩:=ae (bE n b);rw [<-hf] at h1 hk;rw [<-ht] at h2 hk;clear hf ht hv hn
 by_cases IV:t<=f
 ·have hd:decide ((t:Int)<=f)=true:=ah (by omega);have hdn:decide (t<=f)=true:=ah (by omega);clear hk IV
  go_enter Tryz.func170,Tryz.ntmps170
  go_wp2;go_ret;exact ⟨af,Below.refl _ _⟩
 ·have hd:decide ((t:Int)<=f)=false:=ai (by omega);have hdn:decide (t<=f)=false:=ai (by omega);have Ii:decide (k<1)=true:=ah (by omega);clear hk IV
  go_enter Tryz.func170,Tryz.ntmps170
  go_wp2;go_ret;exact ⟨af,Below.refl _ _⟩
end Go.Proofs.YtoeggiplcaegoaaGreatDoor
