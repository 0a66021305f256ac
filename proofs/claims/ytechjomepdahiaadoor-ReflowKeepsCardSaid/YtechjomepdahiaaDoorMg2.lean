import Derived.Test.YtechjomepdahiaaDoorZ0
import Derived.Test.YtechjomepdahiaaDoorErfC
import Derived.Test.YtechjomepdahiaaDoorRows
import Derived.LaidMore
import Derived.Test.YtechjomepdahiaaDoorErrS
import Derived.Test.YtechjomepdahiaaDoorScalarC
import Derived.Laws.OwnMore
import Derived.Test.YtechjomepdahiaaDoorMg1
import Derived.Test.YtechjomepdahiaaDoorScalarR
set_option maxRecDepth 100000
set_option linter.unusedVariables false
set_option linter.unusedSimpArgs false
set_option maxHeartbeats 400000
namespace Go.Proofs.YtechjomepdahiaaDoor.F
open Go.RowKit Go.Extern.Stop Go.Stop Go.Extern
end Go.Proofs.YtechjomepdahiaaDoor.F
namespace Go.Proofs.YtechjomepdahiaaDoor.F
open Go.RowKit
end Go.Proofs.YtechjomepdahiaaDoor.F
namespace Go.Proofs.YtechjomepdahiaaDoor.F
open Go.RowKit Go.ChangeShapes
end Go.Proofs.YtechjomepdahiaaDoor.F
namespace Go.Proofs.YtechjomepdahiaaDoor
open Go.RowKit Go.ChangeShapes Go.WideShapes
def aZ(x:Int):Int:=if ar x=true then x else 65533
theorem Tryd.info21r:(Tryd.prog.info? 21).map (fun i=>(i.zero,i.size,i.bytes))=some (some (.int .i32 0),1,4):=by kernel_rfl
def bD(xs:List Int)(k:Nat):List Int:=(xs.take k).map aZ++List.replicate (xs.length - k) 0
theorem eA(xs:List Int)(k:Nat)(h:k<=xs.length):(bD xs k).length=xs.length:=by simp [bD];omega
theorem eB(xs:List Int)(k:Nat)(h:k<xs.length):(bD xs k).set k (aZ (xs.getD k 0))=bD xs (k+1):=by
 unfold bD;have e1:xs.length - k=(xs.length - (k+1))+1:=by omega
 have e3:((xs.take k).map aZ).length=k:=by simp;omega
 rw [e1,List.replicate_succ,List.set_append,if_neg (by omega),List.take_succ_eq_append_getElem h,e3,Nat.sub_self]
 simp [List.getD,List.getElem?_eq_getElem h,List.take_succ_eq_append_getElem (show k<(xs.map aZ).length by simpa using h)]
theorem eC(k:IntKind)(n:Nat):(madeCells (Value.int k 0).cells (n * 1)).toList=(List.replicate n (0:Int)).map (Value.int k):=by
 apply List.ext_getElem
 ·simp [madeCells]
 ·intro i h1 h2
  simp [madeCells,Value.cells,Nat.mod_one]
def dr(w:World)(g:Nat)(xs:List Int)(k:Nat)(wr:World):Prop :=
 wr.ownsRow w.heap.size 21 1 (.slice (some ⟨g,0,none⟩) xs.length xs.length) xs.length ((bD xs k).map (Value.int .i32))/\Below w.heap.size w wr
theorem dC(v:Value)(xs:List Int)(w:World)(hh:Held .i32 w v xs)(hlen:xs.length<=1000000000) :
  Calls Tryd.prog 82 #[v] w (fun e w'=>∃ v',e=.returned v'/\w'.ownsRow w.heap.size 21 1 v' xs.length ((xs.map aZ).map (Value.int .i32))/\Below w.heap.size w w'):=by
 obtain ⟨ao,cap,rfl,hc⟩:=hh.view;have HC:=aa hc;clear hc hh;obtain ⟨i0,hi,hz0,hz1,hz2⟩:=info_parts Tryd.info21r
 go_enter Tryd.func82,Tryd.ntmps82
 go_wp2_with (at_make;refine wpList_make_full w rfl (.tmp 7) (.tmp 7) 25 rfl w.heap.size 21 i0 (.int .i32 0) 1 Tryd.underlying25 hi hz0 hz1 .i64 .i64 _ _ xs.length rfl rfl rfl rfl (by rw [hz2];omega) (by unfold maxLen;omega) (Nat.le_refl _) ?_)
 intro w1 hown1 hg1;have hb1:Below w.heap.size w w1:=(Below.refl _ _).grown hg1 (Nat.le_refl _) (by intro k hk;cases hk);have hrel0:dr w w.heap.size xs 0 w1:=by
  refine ⟨?_,hb1⟩;have e:bD xs 0=List.replicate xs.length 0:=by simp [bD]
  rw [e,<-eC,Nat.mul_one];exact hown1
 clear hown1 hg1 hb1;have HR:=aa hrel0;clear hrel0;generalize hgn:w.heap.size=g at HR;have HG:=aa hgn;clear hgn;go_wp2
 go_loopw [11] (fun i wr=>∃ k:Nat,k<=xs.length/\i=.int .i64 k/\dr w g xs k wr) (fun i _=>xs.length - (intOf i).toNat)
 case atStart=>exact ⟨0,Nat.zero_le _,rfl,HR.out⟩
 case round =>
  obtain ⟨m,hm,rfl,hrel⟩:=hrel
  by_cases hlm:m<xs.length
  ·obtain ⟨b,off,rfl,hb,fZ⟩:=HC.out m hlm;have fZ:=(hrel.2.cell (p:=⟨b,off+m,none⟩) hb).trans fZ;obtain ⟨x,hx⟩:=ab (xs.getD m 0);rw [<-hx] at fZ;have hcell0:∃ y,wr.cell? ⟨g,m,none⟩=some y:=by
    rw [hrel.1.cellAt m (by omega)];exact ⟨_,List.getElem?_eq_getElem (by simp [eA xs m (by omega)];omega)⟩
   obtain ⟨y,hy⟩:=hcell0;have hfro:=hrel.1.frozenAt m;have hst:=fun u=>hrel.1.stored m u
   have jv:w.heap.size<=g:=(hrel.1.lt g rfl).1;have next:∀ z,z=aZ x->dr w g xs (m+1) (wr.setCell ⟨g,m,none⟩ (.int .i32 z)):=by
    intro z hz;refine ⟨?_,hrel.2.setCell (p:=⟨g,m,none⟩) jv _⟩;rw [hz,hx];have:=(hst (.int .i32 (aZ (xs.getD m 0)))).1;rw [<-List.map_set,eB xs m hlm] at this;exact this
   have NX:=aa next;clear next hst hx hrel
   by_cases hvx:ar x=true
   ·have HV:=aa hvx;clear hvx
    go_wp2_with fail
    refine (cd _ _).mono ?_;rintro e w' ⟨rfl,rfl⟩;rw [HV.out];go_wp2
    go_roundw
    case rel=>exact ⟨m+1,by omega,by go_num,NX.out x (by unfold aZ;rw [if_pos HV.out])⟩
    case measure=>simp [intOf];omega
   ·have HV:=aa (show ar x=false by simpa using hvx);clear hvx
    go_wp2_with fail
    refine (cd _ _).mono ?_;rintro e w' ⟨rfl,rfl⟩;rw [HV.out];go_wp2
    go_roundw
    case rel=>exact ⟨m+1,by omega,by go_num,NX.out 65533 (by unfold aZ;rw [if_neg (by rw [HV.out];decide)])⟩
    case measure=>simp [intOf];omega
  ·go_wp2;go_ret;have fW:m=xs.length:=by omega
   subst fW;have hr1:=hrel.1;rw [show bD xs xs.length=xs.map aZ by simp [bD]] at hr1;exact ⟨_,rfl,hr1,hrel.2⟩
abbrev Cl:=Int × List Int
abbrev zc:Cl:=(0,[])
def aw(t:List Int):Bool:=t.all ar
def ak(c:Cl):Bool:=if c.1 == 0 || c.1 == 3 then c.2.length == 0 else (c.1 == 1 || c.1 == 2) && decide (0<c.2.length) && decide (c.2.length<=16) && aw c.2
def az(lead:Bool):List Cl->Bool
 | []=>!lead
 | c :: l=>ak c && (lead == (c.1 == 3)) && az (c.1 == 2) l
def aj(l:List Cl):Bool:=az false l
def a8(l:List Cl)(i:Int):Int:=if i<0 then 0 else (l.getD i.toNat zc).1
def dp(l:List Cl)(i:Nat):Bool:=ak (l.getD i zc) && !((l.getD i zc).1 == 2 && a8 l ((i:Int)+1) != 3) && !((l.getD i zc).1 == 3 && a8 l ((i:Int) - 1) != 2)
def ez(l:List Cl)(n:Nat):Bool:=(List.range n).all (dp l)
theorem dq{l:List Cl}{k n:Nat}(hk:k<n)(h:ez l n=true):dp l k=true:=by
 unfold ez at h;rw [List.all_eq_true] at h;exact h k (List.mem_range.2 hk)
def aA(l:List Cl)(k:Nat):Bool:=if k=0 then false else (l.getD (k - 1) zc).1 == 2
def aM(l:List Cl)(k:Nat):Bool:=ak (l.getD k zc) && (aA l k == ((l.getD k zc).1 == 3))
theorem aR(l:List Cl)(k:Nat):aA l (k+1)=((l.getD k zc).1 == 2):=by unfold aA;rw [if_neg (by omega)];rfl
theorem bp(l:List Cl)(k:Nat)(hk:k<l.length):az (aA l k) (l.drop k)=(aM l k && az (aA l (k+1)) (l.drop (k+1))):=by
 rw [List.drop_eq_getElem_cons hk,aR];unfold aM;have e:l.getD k zc=l[k]:=by simp [List.getD,List.getElem?_eq_getElem hk]
 rw [e]
 rfl
theorem dS{l:List Cl}{k:Nat}(hk:k<l.length)(hp:az (aA l k) (l.drop k)=aj l)(h:aM l k=false):aj l=false:=by
 rw [<-hp,bp l k hk,h];rfl
theorem dB{l:List Cl}{k:Nat}(hk:k<l.length)(hp:az (aA l k) (l.drop k)=aj l)(h:aM l k=true):az (aA l (k+1)) (l.drop (k+1))=aj l:=by
 rw [<-hp,bp l k hk,h];rfl
theorem dT{l:List Cl}(hp:az (aA l l.length) (l.drop l.length)=aj l):aj l = !aA l l.length:=by
 rw [<-hp,List.drop_length];rfl
theorem fg{α:Type}(l:List α)(d:α)(k:Nat)(h:l.length<=k):l.getD k d=d:=by simp [List.getD,List.getElem?_eq_none h]
theorem c5(l:List Cl):aj l=ez l l.length:=by
 have key:∀ n,n<=l.length->((∀ k,k<n->aM l k=true)/\aA l n=false↔(∀ k,k<n->dp l k=true)/\(0<n->n<l.length->(l.getD n zc).1≠3->True)/\(∀ k,k<n->True)/\(aA l n=false))\/True:=fun _ _=>.inr trivial
 clear key
 -- by induction: all places up tz9 n are sound just if all are so,but for what a lead at n - 1 awaits
 have ind:∀ n,n<=l.length->((∀ k,k<n->aM l k=true)↔(∀ k,k<n->ak (l.getD k zc)=true)/\(∀ k,k+1<n->((l.getD k zc).1 == 2)=((l.getD (k+1) zc).1 == 3))/\(0<n->((l.getD 0 zc).1 == 3)=false)):=by
  intro n hn
  induction n with
  |zero=>simp
  |succ n ih =>
   have ih:=ih (by omega);constructor
   ·intro h;obtain ⟨h1,h2,h3⟩:=ih.1 fun k hk=>h k (by omega)
    have iR:=h n (by omega);unfold aM at iR;simp only [Bool.and_eq_true,beq_iff_eq] at iR;refine ⟨fun k hk=>?_,fun k hk=>?_,fun _=>?_⟩
    ·rcases Nat.lt_or_ge k n with h4 | h4
     ·exact h1 k h4
     ·obtain rfl:k=n:=by omega
      exact iR.1
    ·rcases Nat.lt_or_ge (k+1) n with h4 | h4
     ·exact h2 k h4
     ·obtain rfl:n=k+1:=by omega
      rw [<-aR];exact iR.2
    ·rcases Nat.eq_zero_or_pos n with h4 | h4
     ·subst h4;have:=iR.2;unfold aA at this;rw [if_pos rfl] at this;exact this.symm
     ·exact h3 h4
   ·rintro ⟨h1,h2,h3⟩ k hk
    rcases Nat.lt_or_ge k n with h4 | h4
    ·exact (ih.2 ⟨fun k hk=>h1 k (by omega),fun k hk=>h2 k (by omega),fun h=>h3 (by omega)⟩) k h4
    ·obtain rfl:k=n:=by omega
     unfold aM;rw [h1 k (by omega)];simp only [Bool.true_and,beq_iff_eq]
     cases k with
     |zero=>unfold aA;rw [if_pos rfl,h3 (by omega)]
     |succ k=>rw [aR];exact h2 k (by omega)
 have hs:aj l=true↔(∀ k,k<l.length->aM l k=true)/\aA l l.length=false:=by
  have step:∀ m k,l.length - k=m->k<=l.length->(az (aA l k) (l.drop k)=true↔(∀ j,k<=j->j<l.length->aM l j=true)/\aA l l.length=false):=by
   intro m
   induction m with
   |zero =>
    intro k hm hk;obtain rfl:k=l.length:=by omega
    rw [List.drop_length];unfold az;constructor
    ·intro h;exact ⟨fun j h1 h2=>by omega,by simpa using h⟩
    ·rintro ⟨_,h⟩;simpa using h
   |succ m ih =>
    intro k hm hk;rw [bp l k (by omega),Bool.and_eq_true,ih (k+1) (by omega) (by omega)];constructor
    ·rintro ⟨h1,h2,h3⟩;refine ⟨fun j h4 h5=>?_,h3⟩
     rcases Nat.eq_or_lt_of_le h4 with h6 | h6
     ·subst h6;exact h1
     ·exact h2 j h6 h5
    ·rintro ⟨h1,h2⟩;exact ⟨h1 k (Nat.le_refl _) (by omega),fun j h3 h4=>h1 j (by omega) h4,h2⟩
  have:=step l.length 0 (by omega) (Nat.zero_le _);rw [show aj l=az (aA l 0) (l.drop 0) from rfl,this];constructor
  ·rintro ⟨h1,h2⟩;exact ⟨fun k hk=>h1 k (Nat.zero_le _) hk,h2⟩
  ·rintro ⟨h1,h2⟩;exact ⟨fun k _ hk=>h1 k hk,h2⟩
 have hr:ez l l.length=true↔∀ k,k<l.length->dp l k=true:=by
  constructor
  ·intro h k hk;exact dq hk h
  ·intro h;unfold ez;rw [List.all_eq_true];intro k hk;exact h k (List.mem_range.1 hk)
 have fU:∀ k:Nat,a8 l ((k:Int)+1)=(l.getD (k+1) zc).1:=fun k=>by
  unfold a8;rw [if_neg (by omega),show ((k:Int)+1).toNat=k+1 by omega]
 have hk2:∀ k:Nat,a8 l ((k:Int) - 1)=if k=0 then 0 else (l.getD (k - 1) zc).1:=fun k=>by
  unfold a8
  by_cases h:k=0
  ·subst h;rfl
  ·rw [if_neg (by omega),if_neg h,show ((k:Int) - 1).toNat=k - 1 by omega]
 rw [Bool.eq_iff_iff,hs,hr,ind l.length (Nat.le_refl _)];constructor
 ·rintro ⟨⟨h1,h2,h3⟩,h4⟩ k hk;unfold dp;rw [h1 k hk,fU,hk2];simp only [Bool.true_and,Bool.and_eq_true,Bool.not_eq_true',Bool.and_eq_false_iff,bne_eq_false_iff_eq,beq_eq_false_iff_ne];refine ⟨?_,?_⟩
  ·by_cases h5:(l.getD k zc).1=2
   ·right
    rcases Nat.lt_or_ge (k+1) l.length with h6 | h6
    ·have:=h2 k h6;rw [h5] at this
     simpa using this.symm
    ·exfalso;have h7:aA l (k+1)=true:=by rw [aR,h5];rfl
     rw [show k+1=l.length by omega,h4] at h7
     cases h7
   ·exact .inl h5
  ·by_cases h5:(l.getD k zc).1=3
   ·right
    cases k with
    |zero =>
     have:=h3 hk;rw [h5] at this
     cases this
    |succ k =>
     have:=h2 k hk;rw [h5] at this;rw [if_neg (by omega)]
     simpa using this
   ·exact .inl h5
 ·intro h;have hx:∀ k,k<l.length->ak (l.getD k zc)=true/\((l.getD k zc).1=2->(l.getD (k+1) zc).1=3)/\((l.getD k zc).1=3->k≠0/\(l.getD (k - 1) zc).1=2):=by
   intro k hk;have h1:=h k hk;unfold dp at h1;rw [fU,hk2] at h1;simp only [Bool.and_eq_true,Bool.not_eq_true',Bool.and_eq_false_iff,bne_eq_false_iff_eq,beq_eq_false_iff_ne] at h1;obtain ⟨⟨h1,h2⟩,h3⟩:=h1;refine ⟨h1,fun h4=>?_,fun h4=>?_⟩
   ·rcases h2 with h2 | h2
    ·exact absurd h4 h2
    ·exact h2
   ·rcases h3 with h3 | h3
    ·exact absurd h4 h3
    ·split at h3
     ·cases h3
     ·exact ⟨by assumption,h3⟩
  refine ⟨⟨fun k hk=>(hx k hk).1,fun k hk=>?_,fun h0=>?_⟩,?_⟩
  ·rw [Bool.eq_iff_iff,beq_iff_eq,beq_iff_eq];exact ⟨(hx k (by omega)).2.1,fun h4=>((hx (k+1) hk).2.2 h4).2⟩
  ·rw [beq_eq_false_iff_ne];intro h4;exact ((hx 0 h0).2.2 h4).1 rfl
  ·unfold aA
   split
   ·rfl
   ·rename_i hne
    rw [beq_eq_false_iff_ne];intro h4;have h5:=(hx (l.length - 1) (by omega)).2.1 h4;rw [show l.length - 1+1=l.length by omega,fg _ _ _ (Nat.le_refl _)] at h5
    cases h5
def bq(a b:List Cl):Bool:=decide (a=b)
def ofC(wide:Int)(text:List Int):List Cl :=
 let t:=(text.take 16).map aZ
 if t.length=0 then (if 2<=wide then [zc,zc] else [zc]) else if 2<=wide then [(2,t),(3,[])] else [(1,t)]
def cellE:Elem Cl:=prE (bj .i64) (slE (bj .i32))
abbrev cellsE:Elem (List Cl):=slE cellE
theorem cell_rep{Z:ai}{w:World}{C:List Value}{x:Cl}:cellE.rep Z w C x↔∃ tv,C=[.int .i64 x.1,tv]/\HeldE (bj .i32) Z w tv x.2:=by
 constructor
 ·rintro ⟨C1,C2,rfl,rfl,tv,rfl,h⟩;exact ⟨tv,rfl,h⟩
 ·rintro ⟨tv,rfl,h⟩;exact ⟨[_],[tv],rfl,rfl,tv,rfl,h⟩
theorem aK{Z:ai}{w:World}{ao:Option Addr}{n cap:Nat}{L:List Cl}(h:HeldE cellE Z w (.slice ao n cap) L):n=L.length/\n<=cap/\∀ i,i<L.length->∃ b off tv,ao=some ⟨b,off,none⟩/\b<w.heap.size/\Z b /\
  w.cell? ⟨b,off+i * 2,none⟩=some (.int .i64 (L.getD i zc).1)/\w.cell? ⟨b,off+i * 2+1,none⟩=some tv/\HeldE (bj .i32) Z w tv (L.getD i zc).2:=by
 obtain ⟨h1,h2,h3⟩:=h.spots;refine ⟨h1,h2,fun i hi=>?_⟩;obtain ⟨b,off,rfl,hb,hz,C,hC,hr⟩:=h3 i hi;obtain ⟨tv,rfl,ht⟩:=cell_rep.1 hr;exact ⟨b,off,tv,rfl,hb,hz,hC 0 (by decide),hC 1 (by decide),ht⟩
theorem bz:(Tryd.prog.info? 85).map (fun i=>(i.zero,i.size,i.bytes))=some (some (.agg #[.int .i64 0,.slice none 0 0]),cellE.size,32):=by kernel_rfl
theorem dI{a b:List Cl}(hl:b.length=a.length)(h:∀ j,j<a.length->a.getD j zc=b.getD j zc):bq a b=true:=by
 unfold bq;rw [decide_eq_true_eq]
 apply List.ext_getElem hl.symm
 intro i h1 h2;have:=h i h1
 simpa [List.getD,List.getElem?_eq_getElem h1,List.getElem?_eq_getElem h2] using this
theorem df{a b:List Cl}(j:Nat)(h:a.getD j zc≠b.getD j zc):bq a b=false:=by
 unfold bq;rw [decide_eq_false_iff_not];rintro rfl;exact h rfl
theorem dg{a b:List Cl}(h:¬ b.length=a.length):bq a b=false:=by
 unfold bq;rw [decide_eq_false_iff_not];rintro rfl;exact h rfl
theorem d7(a:List Cl):bq a a=true:=by simp [bq]
def AlikeC(a b:List Cl)(k:Nat):Prop:=∀ j,j<k->a.getD j zc=b.getD j zc
theorem AlikeC.next{a b:List Cl}{k:Nat}(h:AlikeC a b k)(e:a.getD k zc=b.getD k zc):AlikeC a b (k+1):=by
 intro j hj
 by_cases h2:j=k
 ·subst h2;exact e
 ·exact h j (by omega)
theorem d8(L:List Cl):aj L=true↔∀ i,i<L.length->ak (L.getD i zc)=true/\((L.getD i zc).1=2->(L.getD (i+1) zc).1=3)/\((L.getD i zc).1=3->0<i/\(L.getD (i - 1) zc).1=2):=by
 have fU:∀ k:Nat,a8 L ((k:Int)+1)=(L.getD (k+1) zc).1:=fun k=>by
  unfold a8;rw [if_neg (by omega),show ((k:Int)+1).toNat=k+1 by omega]
 have hk2:∀ k:Nat,a8 L ((k:Int) - 1)=if k=0 then 0 else (L.getD (k - 1) zc).1:=fun k=>by
  unfold a8
  by_cases h:k=0
  ·subst h;rfl
  ·rw [if_neg (by omega),if_neg h,show ((k:Int) - 1).toNat=k - 1 by omega]
 have one:∀ i,dp L i=true↔ak (L.getD i zc)=true/\((L.getD i zc).1=2->(L.getD (i+1) zc).1=3)/\((L.getD i zc).1=3->0<i/\(L.getD (i - 1) zc).1=2):=by
  intro i;unfold dp;rw [fU,hk2];simp only [Bool.and_eq_true,Bool.not_eq_true',Bool.and_eq_false_iff,bne_eq_false_iff_eq,beq_eq_false_iff_ne];constructor
  ·rintro ⟨⟨h1,h2⟩,h3⟩;refine ⟨h1,fun h=>?_,fun h=>?_⟩
   ·rcases h2 with h2 | h2
    ·exact absurd h h2
    ·exact h2
   ·rcases h3 with h3 | h3
    ·exact absurd h h3
    ·split at h3
     ·cases h3
     ·exact ⟨by omega,h3⟩
  ·rintro ⟨h1,h2,h3⟩;refine ⟨⟨h1,?_⟩,?_⟩
   ·by_cases h:(L.getD i zc).1=2
    ·exact .inr (h2 h)
    ·exact .inl h
   ·by_cases h:(L.getD i zc).1=3
    ·obtain ⟨h4,h5⟩:=h3 h;rw [if_neg (by omega)];exact .inr h5
    ·exact .inl h
 rw [c5];constructor
 ·intro h i hi;exact (one i).1 (dq hi h)
 ·intro h;unfold ez;rw [List.all_eq_true];intro i hi;exact (one i).2 (h i (List.mem_range.1 hi))
def inP(a m i:Nat):Prop:=a<=i/\i<a+m
instance (a m i:Nat):Decidable (inP a m i):=by unfold inP;infer_instance
def fm(L:List Cl)(a m i:Nat):Prop:=((L.getD i zc).1=2/\inP a m (i+1))\/((L.getD i zc).1=3/\0<i/\inP a m (i - 1))
instance (L:List Cl) (a m i:Nat):Decidable (fm L a m i):=by unfold fm;infer_instance
theorem eb(x:Int):ar (aZ x)=true:=by
 unfold aZ
 by_cases h:ar x=true
 ·rw [if_pos h];exact h
 ·rw [if_neg h];decide
theorem ec{x:Int}(h:ar x=true):aZ x=x:=by unfold aZ;rw [if_pos h]
theorem fd(xs:List Int):aw (xs.map aZ)=true:=by
 unfold aw;rw [List.all_eq_true];intro y hy;obtain ⟨x,_,rfl⟩:=List.mem_map.1 hy;exact eb x
theorem dh{t:List Int}(h:aw t=true):t.map aZ=t:=by
 unfold aw at h;rw [List.all_eq_true] at h
 induction t with
 |nil=>rfl
 |cons x t ih =>
  rw [List.map_cons,ec (h x (by simp)),ih (fun y hy=>h y (by simp [hy]))]
theorem eO(wide:Int)(xs:List Int):aj (ofC wide xs)=true:=by
 have hv:=fd (xs.take 16);have hl:((xs.take 16).map aZ).length<=16:=by simp;omega
 unfold ofC;generalize (xs.take 16).map aZ=t at hv hl;simp only
 by_cases h0:t.length=0
 ·rw [if_pos h0]
  split <;> decide
 ·rw [if_neg h0];have r1:ak (1,t)=true:=by
   unfold ak
   simp [hv]
   omega
  have r2:ak (2,t)=true:=by
   unfold ak
   simp [hv]
   omega
  split
  ·unfold aj
   simp [az,r2]
   decide
  ·unfold aj
   simp [az,r1]
theorem dK{wide:Int}{t:List Int}(h0:0<t.length)(h1:t.length<=16):ofC wide t=if 2<=wide then [(2,t.map aZ),(3,[])] else [(1,t.map aZ)]:=by
 unfold ofC;rw [List.take_of_length_le h1];simp only;rw [if_neg (by simp;intro h;simp [h] at h0)]
theorem aU{c:Cl}(h:ak c=true):(c.1=0\/c.1=3)/\c.2=[]\/(c.1=1\/c.1=2)/\0<c.2.length/\c.2.length<=16/\aw c.2=true:=by
 unfold ak at h
 by_cases h0:(c.1 == 0 || c.1 == 3)=true
 ·rw [if_pos h0] at h
  simp at h0 h
  exact .inl ⟨h0,h⟩
 ·rw [if_neg h0] at h;simp only [Bool.and_eq_true,Bool.or_eq_true,beq_iff_eq,decide_eq_true_eq] at h;exact .inr ⟨h.1.1.1,h.1.1.2,h.1.2,h.2⟩
theorem cQ{b:List Cl}(hb:aj b=true):∀ (a:List Cl) (lead:Bool),az lead a=true->az lead (a++b)=true
 |[],lead,h=>by
  unfold az at h;have:lead=false:=by simpa using h
  subst this;exact hb
 |c :: a,lead,h=>by
  unfold az at h;rw [List.cons_append];unfold az;simp only [Bool.and_eq_true] at h ⊢;exact ⟨h.1,cQ hb a _ h.2⟩
theorem aX{a b:List Cl}(ha:aj a=true)(hb:aj b=true):aj (a++b)=true:=cQ hb a false ha
theorem ch{α:Type}(l:List α)(d:α)(k i:Nat):(l.take k).getD i d=if i<k then l.getD i d else d:=by
 simp only [List.getD,List.getElem?_take]
 split <;> rfl
theorem dk(n i:Nat):(List.replicate n zc).getD i zc=zc:=by
 simp only [List.getD,List.getElem?_replicate]
 split <;> rfl
end Go.Proofs.YtechjomepdahiaaDoor
