import Derived.Test.YtechjomepdahiaaDoorZ0
import Derived.Test.YtechjomepdahiaaDoorRowP
import Derived.Test.YtechjomepdahiaaDoorMg3
import Derived.Test.YtechjomepdahiaaDoorCellU
import Derived.Lib.MinMax
import Derived.Deep.Cut
import Derived.Test.YtechjomepdahiaaDoorMg1
import Derived.Test.YtechjomepdahiaaDoorRowR
import Derived.Test.YtechjomepdahiaaDoorMg2
set_option maxRecDepth 100000
set_option linter.unusedVariables false
set_option linter.unusedSimpArgs false
set_option maxHeartbeats 400000
namespace Go.Proofs.YtechjomepdahiaaDoor
open Go.RowKit Go.ChangeShapes Go.WideShapes
section
variable {Yo : an}
abbrev Ln:=List Cl × Bool
abbrev zl:Ln:=([],false)
def lineE:Elem Ln:=prE lL jl
theorem line_rep{Z:an}{w:World}{C:List Value}{x:Ln}:lineE.rep Z w C x↔∃ v,C=[v,.bool x.2]/\HeldE cellE Z w v x.1:=by
 constructor
 ·rintro ⟨C1,C2,rfl,⟨v,rfl,h⟩,rfl⟩;exact ⟨v,rfl,h⟩
 ·rintro ⟨v,rfl,h⟩;exact ⟨[v],[_],rfl,⟨v,rfl,h⟩,rfl⟩
theorem aP{Z:an}{w:World}{ao:Option Addr}{n cap:Nat}{L:List Ln}(h:HeldE lineE Z w (.slice ao n cap) L):n=L.length/\n<=cap/\∀ i,i<L.length->∃ b off v,ao=some ⟨b,off,none⟩/\b<w.heap.size/\Z b /\
  w.cell? ⟨b,off+i * 2,none⟩=some v/\w.cell? ⟨b,off+i * 2+1,none⟩=some (.bool (L.getD i zl).2)/\HeldE cellE Z w v (L.getD i zl).1:=by
 obtain ⟨h1,h2,h3⟩:=h.spots;refine ⟨h1,h2,fun i hi=>?_⟩;obtain ⟨b,off,rfl,hb,hz,C,hC,hr⟩:=h3 i hi;obtain ⟨v,rfl,ht⟩:=line_rep.1 hr;exact ⟨b,off,v,rfl,hb,hz,hC 0 (by decide),hC 1 (by decide),ht⟩
theorem jy:(Tryd.prog.info? 69).map (fun i=>(i.zero,i.size,i.bytes))=some (some (.agg #[.slice none 0 0,.bool false]),lineE.size,32):=by kernel_rfl
def cV(x:Option Nat):Value:=.pointer (x.map fun g=>⟨g,0,none⟩)
def eO:Elem (Option Nat) where
 size:=1
 zero:=none
 rep:=fun _ _ C x=>C=[cV x]
 len:=by rintro _ _ _ _ rfl;rfl
 one:=by
  rintro _ _ _ _ rfl u hu
  simp at hu
  subst hu;rfl
 keep:=fun _ _ h=>h
theorem gT:∀ xs:List (Option Nat),(xs.map fun x=>[cV x]).flatten=xs.map cV
 | []=>rfl
 | x :: xs=>by rw [List.map_cons,List.flatten_cons,gT xs];rfl
theorem eP{Z:an}{w:World}{B n:Nat}{ty:TypeId}{v:Value}{xs:List (Option Nat)}(h:w.ownsRow B ty 1 v n (xs.map cV)):OwnE eO Z w B ty v xs:=by
 have hn:xs.length=n:=by have:=h.1;simpa using this
 subst hn;refine ⟨xs.map fun x=>[cV x],?_,by simp,fun i hi=>?_⟩
 ·rw [gT];exact h
 ·show _=_
  simp [List.getD,List.getElem?_eq_getElem hi]
theorem OwnE.ptrs{Z:an}{w:World}{B:Nat}{ty:TypeId}{v:Value}{xs:List (Option Nat)}(h:OwnE eO Z w B ty v xs):w.ownsRow B ty 1 v xs.length (xs.map cV):=by
 obtain ⟨CS,h1,h2,h3⟩:=h;have e:CS.flatten=xs.map cV:=by
  apply List.ext_getElem?
  intro i;have na:∀ C ∈ CS,C.length=1:=cF h2 h3
  by_cases hi:i<xs.length
  ·have:=cP na i 0 (by omega) (by omega);rw [Nat.mul_one,Nat.add_zero] at this;rw [this,show CS.getD i []=[cV (xs.getD i none)] from h3 i hi]
   simp [List.getD,List.getElem?_eq_getElem hi]
  ·rw [List.getElem?_eq_none (by rw [bw na];omega),List.getElem?_eq_none (by simp;omega)]
 rw [<-e];exact h1
theorem jh{Z:an}{w:World}{B g n cap:Nat}{ty:TypeId}{xs:List (Option Nat)}(h:OwnE eO Z w B ty (.slice (some ⟨g,0,none⟩) n cap) xs):n=xs.length:=by
 rcases h.ptrs.2 with ⟨e,_⟩ | ⟨g',cap',cur,e,_⟩
 ·cases e
 ·simp only [Value.slice.injEq] at e;exact e.2.1
theorem eQ{Z:an}{w:World}{B g n cap:Nat}{ty:TypeId}{xs:List (Option Nat)}(h:OwnE eO Z w B ty (.slice (some ⟨g,0,none⟩) n cap) xs)(i:Nat)(hi:i<xs.length):w.cell? ⟨g,i,none⟩=some (cV (xs.getD i none))/\w.frozen? ⟨g,i,none⟩=false:=by
 have hr:=h.ptrs;obtain rfl:=jh h;refine ⟨?_,hr.frozenAt i⟩;rw [hr.cellAt i (by omega)]
 simp [List.getD,List.getElem?_eq_getElem hi]
theorem ji{Z:an}{w:World}{B g n cap:Nat}{ty:TypeId}{xs:List (Option Nat)}(h:OwnE eO Z w B ty (.slice (some ⟨g,0,none⟩) n cap) xs)(i:Nat)(_:i<xs.length)(x:Option Nat):OwnE eO Z (w.setCell ⟨g,i,none⟩ (cV x)) B ty (.slice (some ⟨g,0,none⟩) n cap) (xs.set i x):=by
 have hr:=h.ptrs;obtain rfl:=jh h;have hst:=(hr.stored i (cV x)).1;rw [<-List.map_set] at hst;exact eP hst
structure Rw where
 g:Nat
 gc:Nat
 L:List Cl
 wrap:Bool
def r0:Rw:=⟨0,0,[],false⟩
def ks(r:Rw):Ln:=(r.L,r.wrap)
def ptrs(Rs:List Rw):List (Option Nat):=Rs.map fun r=>some r.g
theorem bu(Rs:List Rw):(ptrs Rs).length=Rs.length:=by simp [ptrs]
theorem lf(Rs:List Rw)(i:Nat)(h:i<Rs.length):(ptrs Rs).getD i none=some (Rs.getD i r0).g:=by simp [ptrs,List.getD,List.getElem?_eq_getElem h]
theorem RowAt.tight{Z:an}{w:World}{B g gc:Nat}{L:List Cl}{wrap:Bool}(h:RowAt Z w B g gc L wrap):RowAt (fun b=>Z b/\b<w.heap.size/\b≠g/\b≠gc) w B g gc L wrap:=by
 obtain ⟨cap,h1,h2,h3,⟨CS,k1,k2,k3⟩,h5⟩:=h;exact ⟨cap,h1,h2,h3,⟨CS,k1,k2,fun i hi=>cellE.keep (.refl _ _) (fun b hb hz=>⟨⟨⟨hz.1.1,hb,hz.1.2,fun e=>hz.2 (by subst e;rfl)⟩,hz.1.2⟩,hz.2⟩) (k3 i hi)⟩,h5⟩
theorem RowAt.types{Z:an}{w:World}{B g gc:Nat}{L:List Cl}{wrap:Bool}(h:RowAt Z w B g gc L wrap):(∃ C,w.heap[g]? = some (.cells C 149 (0,0)))/\∃ C,w.heap[gc]? = some (.cells C 85 (0,0)):=by
 obtain ⟨cap,h1,h2,h3,⟨CS,⟨_,k1⟩,k2,k3⟩,h5,_⟩:=h;refine ⟨⟨_,h1⟩,?_⟩
 rcases k1 with ⟨e,_⟩ | ⟨g',cap',cur,e,_,hg,_⟩
 ·cases e
 ·simp only [Value.slice.injEq,Option.some.injEq,Addr.mk.injEq] at e;obtain ⟨⟨rfl,_⟩,_⟩:=e;exact ⟨cur,hg⟩
structure RowsAt (Z:an) (w:World) (B:Nat) (Rs:List Rw):Prop where
 row:∀ i,i<Rs.length->RowAt Z w B (Rs.getD i r0).g (Rs.getD i r0).gc (Rs.getD i r0).L (Rs.getD i r0).wrap
 out:∀ i,i<Rs.length->¬ Z (Rs.getD i r0).g/\¬ Z (Rs.getD i r0).gc
 apart:∀ i j,i<Rs.length->j<Rs.length->i≠j->(Rs.getD i r0).g≠(Rs.getD j r0).g/\(Rs.getD i r0).gc≠(Rs.getD j r0).gc
section
variable {Z Y S : an} {w w' : World} {B : Nat} {Rs : List Rw}
theorem RowsAt.nil(Z:an)(w:World)(B:Nat):RowsAt Z w B []:=⟨fun i hi=>absurd hi (Nat.not_lt_zero _),fun i hi=>absurd hi (Nat.not_lt_zero _),fun i j hi=>absurd hi (Nat.not_lt_zero _)⟩
theorem RowsAt.upd(h:RowsAt Z w B Rs)(hu:Upd S w w')(hz:∀ b,Z b->¬ S b)(hs:∀ i,i<Rs.length->¬ S (Rs.getD i r0).g/\¬ S (Rs.getD i r0).gc):RowsAt Z w' B Rs :=
 ⟨fun i hi=>(h.row i hi).upd hu hz (hs i hi).1 (hs i hi).2,h.out,h.apart⟩
theorem RowsAt.below(h:RowsAt Z w B Rs)(hb:Below w.heap.size w w'):RowsAt Z w' B Rs:=⟨fun i hi=>(h.row i hi).below hb,h.out,h.apart⟩
theorem RowsAt.lt(h:RowsAt Z w B Rs):∀ i,i<Rs.length->(Rs.getD i r0).g<w.heap.size/\(Rs.getD i r0).gc<w.heap.size/\B<=(Rs.getD i r0).gc/\B<=(Rs.getD i r0).g:=fun i hi=>(h.row i hi).lt
theorem RowsAt.snoc(h:RowsAt Z w B Rs)(hz:∀ b,Z b->b<w.heap.size){g gc B':Nat}{L:List Cl}{wrap:Bool}(hB:B<=B')(hB':w.heap.size<=B')(hr:RowAt (fun b=>w.heap.size<=b) w' B' g gc L wrap)(hb:Below w.heap.size w w') :
  RowsAt (fun b=>Z b\/(w.heap.size<=b/\b<w'.heap.size/\b≠g/\b≠gc)) w' B (Rs++[⟨g,gc,L,wrap⟩]):=by
 have hlt:=hr.lt;have hat:∀ i,i<(Rs++[(⟨g,gc,L,wrap⟩ : Rw)]).length->(i<Rs.length/\(Rs++[(⟨g,gc,L,wrap⟩ : Rw)]).getD i r0=Rs.getD i r0)\/(i=Rs.length/\(Rs++[(⟨g,gc,L,wrap⟩ : Rw)]).getD i r0=⟨g,gc,L,wrap⟩):=fun i hi=>by
  rw [cD];rw [List.length_append,List.length_singleton] at hi
  by_cases e:i<Rs.length
  ·exact .inl ⟨e,if_pos e⟩
  ·have:i=Rs.length:=by omega
   subst this;exact .inr ⟨rfl,by rw [if_neg e,Nat.sub_self];rfl⟩
 refine ⟨fun i hi=>?_,fun i hi=>?_,fun i j hi hj wm=>?_⟩
 ·rcases hat i hi with ⟨hl,e⟩ | ⟨_,e⟩
  ·rw [e];exact ((h.row i hl).below hb).keep (.refl _ _) fun b _ hz=>.inl hz
  ·rw [e];exact (hr.tight.base hB).keep (.refl _ _) fun b _ hz=>.inr hz
 ·rcases hat i hi with ⟨hl,e⟩ | ⟨_,e⟩
  ·rw [e];have:=h.lt i hl;have:=h.out i hl;exact ⟨fun hz=>by rcases hz with hz | hz;exact this.1 hz;omega,fun hz=>by rcases hz with hz | hz;exact this.2 hz;omega⟩
  ·rw [e];exact ⟨fun hzz=>by rcases hzz with hzz | hzz;have:=hz _ hzz;simp only at this;omega;exact hzz.2.2.1 rfl,fun hzz=>by rcases hzz with hzz | hzz;have:=hz _ hzz;simp only at this;omega;exact hzz.2.2.2 rfl⟩
 ·rcases hat i hi with ⟨hl,e⟩ | ⟨hl,e⟩ <;> rcases hat j hj with ⟨hl',e'⟩ | ⟨hl',e'⟩ <;> rw [e,e']
  ·exact h.apart i j hl hl' wm
  ·have:=h.lt i hl;exact ⟨by simp only;omega,by simp only;omega⟩
  ·have:=h.lt j hl';exact ⟨by simp only;omega,by simp only;omega⟩
  ·omega
end
def GridY(Yo:an)(w:World)(B gg gr wd:Nat)(Rs:List Rw):Prop :=
 ∃ (Z:an) (cap:Nat),(∀ b,Z b->B<=b/\b<w.heap.size)/\Has w gg [.int .i64 wd,.slice (some ⟨gr,0,none⟩) Rs.length cap] 111/\B<=gg/\OwnE eO (fun _=>True) w B 112 (.slice (some ⟨gr,0,none⟩) Rs.length cap) (ptrs Rs)/\¬ Z gg/\¬ Z gr/\RowsAt Z w B Rs/\(∀ i,i<Rs.length->(Rs.getD i r0).L.length=wd)/\0<Rs.length/\Rs.length<=1024/\∀ b,(Z b\/w.heap.size<=b)->Yo b
abbrev ge(w:World)(B gg gr wd:Nat)(Rs:List Rw):Prop:=GridY (fun _=>True) w B gg gr wd Rs
section
variable {S : an} {w w' : World} {B gg gr wd : Nat} {Rs : List Rw}
theorem GridY.lt(h:GridY Yo w B gg gr wd Rs):B<=gg/\gg<w.heap.size/\B<=gr/\gr<w.heap.size/\gg≠gr/\∀ i,i<Rs.length->(Rs.getD i r0).g<w.heap.size/\(Rs.getD i r0).gc<w.heap.size/\B<=(Rs.getD i r0).gc/\B<=(Rs.getD i r0).g:=by
 obtain ⟨Z,cap,h1,h2,h3,h4,h5,h6,h7,h8⟩:=h;refine ⟨h3,h2.lt,(h4.lt gr rfl).1,(h4.lt gr rfl).2,fun e=>?_,h7.lt⟩;obtain ⟨_,k⟩:=h4.ptrs
 rcases k with ⟨e',_⟩ | ⟨g',cap',cur,e',_,hg,_⟩
 ·cases e'
 ·simp only [Value.slice.injEq,Option.some.injEq,Addr.mk.injEq] at e';obtain ⟨⟨rfl,_⟩,_⟩:=e';rw [<-e] at hg;unfold Has at h2;rw [h2] at hg;simp only [Option.some.injEq,Obj.cells.injEq] at hg;exact absurd hg.2.1 (by decide)
theorem GridY.keep(h:GridY Yo w B gg gr wd Rs)(hu:Upd S w w')(hs:∀ b,B<=b->b<w.heap.size->¬ S b):GridY Yo w' B gg gr wd Rs:=by
 have hlt:=h.lt;obtain ⟨Z,cap,h1,h2,h3,h4,h5,h6,h7,h8,h9,h10,hY⟩:=h;have hk:=hu.keep;refine ⟨Z,cap,fun b hb=>⟨(h1 b hb).1,Nat.lt_of_lt_of_le (h1 b hb).2 hu.size⟩,hk.has h2 (hs _ hlt.1 hlt.2.1),h3,?_,h5,h6,h7.upd hu (fun b hz=>hs b (h1 b hz).1 (h1 b hz).2) (fun i hi=>⟨hs _ (hlt.2.2.2.2.2 i hi).2.2.2 (hlt.2.2.2.2.2 i hi).1,hs _ (hlt.2.2.2.2.2 i hi).2.2.1 (hlt.2.2.2.2.2 i hi).2.1⟩),h8,h9,h10,fun b hb=>hY b (hb.imp id (Nat.le_trans hu.size))⟩;exact eP (hk.own h4.ptrs fun b hb=>by
  have:gr=b:=by simpa [Value.ownBlock] using hb
  subst this;exact hs _ hlt.2.2.1 hlt.2.2.2.1)
theorem GridY.below(h:GridY Yo w B gg gr wd Rs)(hb:Below w.heap.size w w'):GridY Yo w' B gg gr wd Rs:=h.keep (S:=fun b=>w.heap.size<=b) (.ofBelow hb) fun b _ h1 h2=>by omega
theorem GridY.row(h:GridY Yo w B gg gr wd Rs){i:Nat}(hi:i<Rs.length):RowAt (fun _=>True) w B (Rs.getD i r0).g (Rs.getD i r0).gc (Rs.getD i r0).L (Rs.getD i r0).wrap:=by
 obtain ⟨Z,cap,h1,h2,h3,h4,h5,h6,h7,h8⟩:=h;exact (h7.row i hi).keep (.refl _ _) fun _ _ _=>trivial
theorem GridY.any(h:GridY Yo w B gg gr wd Rs):ge w B gg gr wd Rs:=by
 obtain ⟨Z,cap,h1,h2,h3,h4,h5,h6,h7,h8,h9,h10,hY⟩:=h;exact ⟨Z,cap,h1,h2,h3,h4,h5,h6,h7,h8,h9,h10,fun _ _=>trivial⟩
theorem GridY.new(h:GridY Yo w B gg gr wd Rs)(o:Obj):GridY (fun b=>b≠w.heap.size) (w.alloc o) B gg gr wd Rs:=by
 have hb:=l7 w o;have hlt:=h.lt;obtain ⟨Z,cap,h1,h2,h3,h4,h5,h6,h7,h8,h9,h10,hY⟩:=h.below hb;obtain ⟨Z',cap',k1,k2,k3,k4,k5,k6,k7,k8,k9,k10,kY⟩:=h;have hs:(w.alloc o).heap.size=w.heap.size+1:=by simp
 refine ⟨Z',cap',fun b hz=>⟨(k1 b hz).1,by have:=(k1 b hz).2;omega⟩,k2.below hb k2.lt,k3,k4.below hb,k5,k6,k7.below hb,k8,k9,k10,fun b hz=>?_⟩
 rcases hz with hz | hz
 ·have:=(k1 b hz).2;omega
 ·omega
theorem GridY.cells(h:GridY Yo w B gg gr wd Rs):∃ cap,w.cell? ⟨gg,0,none⟩=some (.int .i64 wd)/\w.cell? ⟨gg,1,none⟩=some (.slice (some ⟨gr,0,none⟩) Rs.length cap)/\Rs.length<=cap/\∀ i,i<Rs.length->w.cell? ⟨gr,i,none⟩=some (.pointer (some ⟨(Rs.getD i r0).g,0,none⟩)):=by
 obtain ⟨Z,cap,h1,h2,h3,h4,h5,h6,h7,h8,h9,h10⟩:=h;refine ⟨cap,h2.cell 0 _ rfl,h2.cell 1 _ rfl,?_,fun i hi=>?_⟩
 ·obtain ⟨_,k⟩:=h4.ptrs
  rcases k with ⟨e,_⟩ | ⟨g',cap',cur,e,_,_,hn,_⟩
  ·cases e
  ·simp only [Value.slice.injEq] at e;obtain ⟨_,_,rfl⟩:=e;rw [bu] at hn;exact hn
 ·have:=(eQ h4 i (by rw [bu];exact hi)).1;rw [lf Rs i hi] at this;exact this
end
end
section
def PartAt(w:World)(B gg wd:Nat)(v:Value)(Xs:List (Option Nat))(Rs:List Rw):Prop :=
 ∃ Z:an,(∀ b,Z b->B<=b/\b<w.heap.size)/\Has w gg [.int .i64 wd,v] 111/\B<=gg/\OwnE eO (fun _=>True) w B 112 v Xs/\¬ Z gg/\(∀ b,v.ownBlock=some b->¬ Z b)/\RowsAt Z w B Rs/\∀ i,i<Rs.length->(Rs.getD i r0).L.length=wd
section
variable {w w' : World} {B gg wd : Nat} {v : Value} {Xs : List (Option Nat)} {Rs : List Rw}
theorem kr{Z:an}{ty:TypeId}(h:OwnE eO Z w B ty v Xs){b:Nat}(hb:v.ownBlock=some b):∃ C,w.heap[b]? = some (.cells C ty (0,0)):=by
 rcases h.ptrs.2 with ⟨rfl,_⟩ | ⟨g',cap',cur,rfl,_,hg,_⟩
 ·cases hb
 ·have:g'=b:=by simpa [Value.ownBlock] using hb
  subst this;exact ⟨cur,hg⟩
theorem cd{b:Nat}{C D:Array Value}{t u:TypeId}(h:w.heap[b]? = some (.cells C t (0,0)))(k:w.heap[b]? = some (.cells D u (0,0)))(hn:t≠u):False:=by
 rw [h] at k;simp only [Option.some.injEq,Obj.cells.injEq] at k;exact hn k.2.1
theorem PartAt.apart(h:PartAt w B gg wd v Xs Rs){b:Nat}(hb:v.ownBlock=some b):gg≠b/\∀ i,i<Rs.length->(Rs.getD i r0).g≠b/\(Rs.getD i r0).gc≠b:=by
 obtain ⟨Z,h1,h2,h3,h4,h5,h6,h7,h8⟩:=h;obtain ⟨C,hC⟩:=kr h4 hb;refine ⟨fun e=>by subst e;exact cd h2 hC (by decide),fun i hi=>?_⟩;obtain ⟨⟨D,hD⟩,D',hD'⟩:=(h7.row i hi).types;exact ⟨fun e=>by rw [<-e] at hC;exact cd hD hC (by decide),fun e=>by rw [<-e] at hC;exact cd hD' hC (by decide)⟩
theorem PartAt.below(h:PartAt w B gg wd v Xs Rs)(hb:Below w.heap.size w w'):PartAt w' B gg wd v Xs Rs:=by
 obtain ⟨Z,h1,h2,h3,h4,h5,h6,h7,h8⟩:=h;exact ⟨Z,fun b hz=>⟨(h1 b hz).1,Nat.lt_of_lt_of_le (h1 b hz).2 hb.size⟩,h2.below hb h2.lt,h3,h4.below hb,h5,h6,h7.below hb,h8⟩
theorem PartAt.lt(h:PartAt w B gg wd v Xs Rs):B<=gg/\gg<w.heap.size/\∀ b,v.ownBlock=some b->B<=b/\b<w.heap.size:=by
 obtain ⟨Z,h1,h2,h3,h4,h5,h6,h7,h8⟩:=h;exact ⟨h3,h2.lt,h4.lt⟩
theorem PartAt.next(h:PartAt w B gg wd v Xs Rs){g gc:Nat}{L:List Cl}{wrap:Bool}(hr:RowAt (fun b=>w.heap.size<=b) w' w.heap.size g gc L wrap)(hl:L.length=wd)(hb:Below w.heap.size w w'):PartAt w' B gg wd v Xs (Rs++[⟨g,gc,L,wrap⟩]):=by
 obtain ⟨Z,h1,h2,h3,h4,h5,h6,h7,h8⟩:=h;have hlt:=h2.lt;refine ⟨_,fun b hz=>?_,h2.below hb h2.lt,h3,h4.below hb,?_,fun b wA=>?_,h7.snoc (fun b hz=>(h1 b hz).2) (by omega) (Nat.le_refl _) hr hb,fun i hi=>?_⟩
 ·rcases hz with hz | hz
  ·have:=h1 b hz;have:=hb.size;omega
  ·omega
 ·rintro (hz | hz)
  ·exact h5 hz
  ·omega
 ·have:=h4.lt b wA;rintro (hz | hz)
  ·exact h6 b wA hz
  ·omega
 ·rw [cD];rw [List.length_append,List.length_singleton] at hi
  by_cases e:i<Rs.length
  ·rw [if_pos e];exact h8 i e
  ·rw [if_neg e,show i - Rs.length=0 by omega];exact hl
theorem PartAt.put{gr n cap:Nat}(h:PartAt w B gg wd (.slice (some ⟨gr,0,none⟩) n cap) Xs Rs)(k:Nat)(hk:k<Xs.length)(x:Option Nat):PartAt (w.setCell ⟨gr,k,none⟩ (cV x)) B gg wd (.slice (some ⟨gr,0,none⟩) n cap) (Xs.set k x) Rs/\Upd (fun b=>b=gr) w (w.setCell ⟨gr,k,none⟩ (cV x)):=by
 have hu:=(Upd.refl (fun b=>b=gr) w).setCell (p:=⟨gr,k,none⟩) (.inl rfl) (cV x);have ha:=h.apart (b:=gr) rfl;obtain ⟨Z,h1,h2,h3,h4,h5,h6,h7,h8⟩:=h;refine ⟨⟨Z,fun b hz=>⟨(h1 b hz).1,Nat.lt_of_lt_of_le (h1 b hz).2 hu.size⟩,hu.keep.has h2 ha.1,h3,ji h4 k hk x,h5,h6,h7.upd hu (fun b hz e=>h6 gr rfl (e ▸ hz)) ha.2,h8⟩,hu⟩
theorem PartAt.full(h:PartAt w B gg wd v (ptrs Rs) Rs)(h0:0<Rs.length)(h1:Rs.length<=1024):∃ gr,ge w B gg gr wd Rs:=by
 obtain ⟨Z,k1,k2,k3,k4,k5,k6,k7,k8⟩:=h;obtain ⟨gr,cap,rfl,hg1,hg2⟩:=k4.some (by rw [bu];exact h0);rw [bu] at k2 k4 k6;exact ⟨gr,Z,cap,k1,k2,k3,k4,k5,k6 gr rfl,k7,k8,h0,h1,fun _ _=>trivial⟩
end
def NewInv(w:World)(B gg gr W N:Nat)(Ls:List Ln)(k:Nat)(wr:World):Prop:=∃ Rs:List Rw,Rs.length=k/\PartAt wr B gg W (.slice (some ⟨gr,0,none⟩) N N) (ptrs Rs++List.replicate (N - k) none) Rs/\Rs.map ks=Ls.take k/\Below B w wr
theorem NewInv.step{w wr ws:World}{B gg gr W N:Nat}{Ls:List Ln}{k:Nat}(h:NewInv w B gg gr W N Ls k wr)(hk:k<N)(na:Ls.length=N){g gc:Nat}{L:List Cl}{wrap:Bool}(hl:L.length=W)(hln:Ls.getD k zl=(L,wrap))(hr:RowAt (fun b=>wr.heap.size<=b) ws wr.heap.size g gc L wrap)(hb:Below wr.heap.size wr ws):NewInv w B gg gr W N Ls (k+1) (ws.setCell ⟨gr,k,none⟩ (cV (some g)))/\Upd (fun b=>b=gr) ws (ws.setCell ⟨gr,k,none⟩ (cV (some g)))/\(∃ u,ws.cell? ⟨gr,k,none⟩=some u)/\ws.frozen? ⟨gr,k,none⟩=false:=by
 obtain ⟨Rs,hn,hp,hm,mP⟩:=h;have hBg:=hp.lt;have ou:=hp.next hr hl hb;have hxl:k<(ptrs Rs++List.replicate (N - k) none).length:=by rw [List.length_append,bu,List.length_replicate];omega
 obtain ⟨h3,hu⟩:=ou.put k hxl (some g);have hpc:OwnE eO (fun _=>True) ws B 112 (.slice (some ⟨gr,0,none⟩) N N) (ptrs Rs++List.replicate (N - k) none):=by
  obtain ⟨Z,k1,k2,k3,k4,_⟩:=ou;exact k4
 have hcc:=eQ hpc k hxl;refine ⟨⟨Rs++[⟨g,gc,L,wrap⟩],by simp [hn],?_,?_,?_⟩,hu,⟨_,hcc.1⟩,hcc.2⟩
 ·have e:(ptrs Rs++List.replicate (N - k) none).set k (some g)=ptrs (Rs++[⟨g,gc,L,wrap⟩])++List.replicate (N - (k+1)) none:=by
   rw [List.set_append_right _ _ (by rw [bu];omega),bu,hn,Nat.sub_self,show N - k=(N - (k+1))+1 by omega,List.replicate_succ]
   simp [ptrs]
  rw [<-e];exact h3
 ·rw [List.map_append,hm,List.take_succ_eq_append_getElem (by omega)];have:Ls[k]'(by omega)=(L,wrap):=by rw [<-hln];simp [List.getD,List.getElem?_eq_getElem (show k<Ls.length by omega)]
  rw [this]
  rfl
 ·have oP:=hBg.2.2 gr rfl;have wA:=mP.trans (hb.mono (show B<=wr.heap.size by omega));exact wA.upd hu (by have:=hb.size;omega) (fun x e=>by omega)
end
section
variable {Yo : an}
theorem cz{α:Type}(l:List α)(d x:α)(i j:Nat)(hi:i<l.length):(l.set i x).getD j d=if j=i then x else l.getD j d:=by
 by_cases e:j=i
 ·subst e;rw [if_pos rfl]
  simp [List.getD,List.getElem?_set_self hi]
 ·rw [if_neg e]
  simp [List.getD,List.getElem?_set_ne (Ne.symm e)]
theorem RowsAt.put{Z Y:an}{w w':World}{B i:Nat}{Rs:List Rw}(_:RowsAt Z w B Rs)(hi:i<Rs.length){g gc:Nat}{L:List Cl}{wrap:Bool}(hr:RowAt Y w' B g gc L wrap)(ho:¬ Y g/\¬ Y gc)
  (hk:∀ j,j<Rs.length->j≠i->RowAt Y w' B (Rs.getD j r0).g (Rs.getD j r0).gc (Rs.getD j r0).L (Rs.getD j r0).wrap) (vM:∀ j,j<Rs.length->j≠i->¬ Y (Rs.getD j r0).g/\¬ Y (Rs.getD j r0).gc) (ha:∀ j,j<Rs.length->j≠i->g≠(Rs.getD j r0).g/\gc≠(Rs.getD j r0).gc)
  (hb:∀ j k,j<Rs.length->k<Rs.length->j≠k->(Rs.getD j r0).g≠(Rs.getD k r0).g/\(Rs.getD j r0).gc≠(Rs.getD k r0).gc):RowsAt Y w' B (Rs.set i ⟨g,gc,L,wrap⟩):=by
 refine ⟨fun j hj=>?_,fun j hj=>?_,fun j k hj ph hjk=>?_⟩
 ·rw [List.length_set] at hj;rw [cz _ _ _ _ _ hi]
  by_cases e:j=i
  ·rw [if_pos e];exact hr
  ·rw [if_neg e];exact hk j hj e
 ·rw [List.length_set] at hj;rw [cz _ _ _ _ _ hi]
  by_cases e:j=i
  ·rw [if_pos e];exact ho
  ·rw [if_neg e];exact vM j hj e
 ·rw [List.length_set] at hj ph;rw [cz _ _ _ _ _ hi,cz _ _ _ _ _ hi]
  by_cases e:j=i
  ·have e2:k≠i:=fun e2=>hjk (e.trans e2.symm)
   rw [if_pos e,if_neg e2];exact ha k ph e2
  ·rw [if_neg e]
   by_cases e2:k=i
   ·rw [if_pos e2];exact ⟨Ne.symm (ha j hj e).1,Ne.symm (ha j hj e).2⟩
   ·rw [if_neg e2];exact hb j k hj ph hjk
theorem GridY.part{w:World}{B gg gr wd:Nat}{Rs:List Rw}(h:GridY Yo w B gg gr wd Rs):∃ cap,PartAt w B gg wd (.slice (some ⟨gr,0,none⟩) Rs.length cap) (ptrs Rs) Rs:=by
 obtain ⟨Z,cap,h1,h2,h3,h4,h5,h6,h7,h8,_⟩:=h;exact ⟨cap,Z,h1,h2,h3,h4,h5,(fun b e=>by
  have:gr=b:=by simpa [Value.ownBlock] using e
  subst this;exact h6),h7,h8⟩
theorem GridY.put{w w':World}{B gg gr wd i:Nat}{Rs:List Rw}(h:GridY Yo w B gg gr wd Rs)(hi:i<Rs.length)(hb:Below w.heap.size w w'){g gc:Nat}{L:List Cl}{wrap:Bool}(hr:RowAt (fun b=>w.heap.size<=b) w' w.heap.size g gc L wrap)(hl:L.length=wd):GridY Yo (w'.setCell ⟨gr,i,none⟩ (cV (some g))) B gg gr wd (Rs.set i ⟨g,gc,L,wrap⟩)/\(∃ u,w'.cell? ⟨gr,i,none⟩=some u)/\w'.frozen? ⟨gr,i,none⟩=false:=by
 obtain ⟨cap',hp⟩:=h.part;have hap:=hp.apart (b:=gr) rfl;have hlt:=h.lt;obtain ⟨Z,cap,h1,h2,h3,h4,h5,h6,h7,h8,h9,h10⟩:=h;have th:=hr.lt;have hu:=(Upd.refl (fun b=>b=gr) w').setCell (p:=⟨gr,i,none⟩) (.inl rfl) (cV (some g));have h4':=h4.below hb;have hcc:=eQ h4' i (by rw [bu];exact hi);refine ⟨?_,⟨_,hcc.1⟩,hcc.2⟩;have tP:=ji h4' i (by rw [bu];exact hi) (some g);have he:(ptrs Rs).set i (some g)=ptrs (Rs.set i ⟨g,gc,L,wrap⟩):=by unfold ptrs;rw [List.map_set]
 rw [he] at tP;have mQ:=hu.keep.has (h2.below hb h2.lt) (fun e=>hap.1 e);refine ⟨fun b=>Z b\/(w.heap.size<=b/\b<w'.heap.size/\b≠g/\b≠gc),cap,fun b hz=>?_,by rw [List.length_set];exact mQ,h3,by rw [List.length_set];exact tP,?_,?_,?_,fun j hj=>?_,by rw [List.length_set];exact h9,by rw [List.length_set];exact h10.1,fun x hx=>h10.2 x (by
  have:=hb.size;have:=hu.size
  rcases hx with (hz | hz) | hz
  ·exact .inl hz
  ·exact .inr hz.1
  ·exact .inr (by omega))⟩
 ·have:=hu.size
  rcases hz with hz | hz
  ·have:=h1 b hz;have:=hb.size;omega
  ·omega
 ·rintro (hz | hz)
  ·exact h5 hz
  ·omega
 ·rintro (hz | hz)
  ·exact h6 hz
  ·omega
 ·refine h7.put hi ((hr.tight.base (B':=B) (by omega)).keep (hu.keep.mono fun b _ hz=>?_) fun b _ hz=>.inr hz) ?_ (fun j hj hne=>?_) (fun j hj hne=>?_) (fun j hj hne=>?_) h7.apart
  ·rcases hz with hz | hz | hz <;> omega
  ·exact ⟨fun hz=>by rcases hz with hz | hz;have:=h1 _ hz;omega;exact hz.2.2.1 rfl,fun hz=>by rcases hz with hz | hz;have:=h1 _ hz;omega;exact hz.2.2.2 rfl⟩
  ·exact ((h7.row j hj).below hb).keep (hu.keep.mono fun b _ hz=>by
    rcases hz with hz | rfl | rfl
    ·exact fun e=>h6 (e ▸ hz)
    ·exact (hap.2 j hj).1
    ·exact (hap.2 j hj).2) fun b _ hz=>.inl hz
  ·have:=h7.lt j hj;exact ⟨fun hz=>by rcases hz with hz | hz;exact (h7.out j hj).1 hz;omega,fun hz=>by rcases hz with hz | hz;exact (h7.out j hj).2 hz;omega⟩
  ·have:=h7.lt j hj;exact ⟨by omega,by omega⟩
 ·rw [List.length_set] at hj;rw [cz _ _ _ _ _ hi]
  by_cases e:j=i
  ·rw [if_pos e];exact hl
  ·rw [if_neg e];exact h8 j hj
end
def Turned3Z(Z:an)(w:World)(B g gc:Nat)(r:List Cl × Bool × Bool)(e:Ending)(w':World):Prop:=e=.returned (.bool r.2.2)/\RowAt Z w' B g gc r.1 r.2.1/\Upd (fun b=>b=g\/b=gc) w w'
def Turned3(w:World)(B g gc:Nat)(r:List Cl × Bool × Bool)(e:Ending)(w':World):Prop:=e=.returned (.bool r.2.2)/\RowAt (fun _=>True) w' B g gc r.1 r.2.1/\Upd (fun b=>b=g\/b=gc) w w'
theorem Turned3Z.same{Z:an}{w w':World}{B g gc:Nat}{L:List Cl}{wrap:Bool}(h:RowAt Z w B g gc L wrap)(b:Below w.heap.size w w'):Turned3Z Z w B g gc (L,wrap,false) (.returned (.bool false)) w':=⟨rfl,h.below b,.ofBelow b⟩
theorem Turned3.same{w w':World}{B g gc:Nat}{L:List Cl}{wrap:Bool}(h:RowAt (fun _=>True) w B g gc L wrap)(b:Below w.heap.size w w'):Turned3 w B g gc (L,wrap,false) (.returned (.bool false)) w':=⟨rfl,h.below b,.ofBelow b⟩
theorem RowAt.lower{Z:an}{w:World}{B g gc:Nat}{L:List Cl}{wrap:Bool}(h:RowAt Z w B g gc L wrap):RowAt (fun b=>b<w.heap.size) w B g gc L wrap:=h.keep (.refl _ _) fun b hb _=>hb
theorem RowAt.any{Z:an}{w:World}{B g gc:Nat}{L:List Cl}{wrap:Bool}(h:RowAt Z w B g gc L wrap):RowAt (fun _=>True) w B g gc L wrap:=h.keep (.refl _ _) fun b hb _=>trivial
end Go.Proofs.YtechjomepdahiaaDoor
