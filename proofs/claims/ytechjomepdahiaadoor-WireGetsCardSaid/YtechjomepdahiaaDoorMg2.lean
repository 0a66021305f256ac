import Derived.Test.YtechjomepdahiaaDoorZ0
import Derived.Test.YtechjomepdahiaaDoorErfC
import Derived.Test.YtechjomepdahiaaDoorRows
import Derived.LaidMore
import Derived.Test.YtechjomepdahiaaDoorErrS
import Derived.Test.YtechjomepdahiaaDoorScalarR
import Derived.Test.YtechjomepdahiaaDoorUallE
import Derived.Laws.OwnMore
import Derived.Test.YtechjomepdahiaaDoorScalarC
import Derived.Test.YtechjomepdahiaaDoorMg1
set_option maxRecDepth 100000
set_option linter.unusedVariables false
set_option linter.unusedSimpArgs false
set_option maxHeartbeats 1000000
namespace Go.Proofs.YtechjomepdahiaaDoor.F
open Go.RowKit Go.Extern.Stop Go.Stop Go.Extern
end Go.Proofs.YtechjomepdahiaaDoor.F
namespace Go.Proofs.YtechjomepdahiaaDoor.F
open Go.RowKit
end Go.Proofs.YtechjomepdahiaaDoor.F
namespace Go.Proofs.YtechjomepdahiaaDoor.F
open Go.RowKit Go.ChangeShapes
def sentD (t : List UInt8) : DataW Unit := .iface "*errors.errorString" (.ptr (.agg [.lit (.string t)]))
theorem laidVars_sents{P:Program}{W:World}{ti tp te ts:TypeId}{ms:Array (String × TypeId)}{f:Field}
  (hi : P.underlying ti = some (.interface ms)) (hrow : ∀ u, P.typeName? 3 u = some "*errors.errorString" → u = tp)
  (hp:P.underlying tp=some (.pointer te)) (he:P.underlying te=some (.struct #[f])) (uF:f.type=ts) (uu:f.offset=0) (hs:P.underlying ts=some .string) (hc:P.cellsOf te=1) (hcs:P.cellsOf ts=1) :
  ∀ (l:List (String × List UInt8 × Nat)) (ps:List MemPlace),(∀ x ∈ l,P.globalNamed x.1=some x.2.2/\(P.globals[x.2.2]?).map (·.type)=some ti) ->
   DataW.LaidVars P W (l.map fun x=>(x.1,sentD x.2.1)) ps ->
   (∀ b off,MemPlace.cell b off ∈ ps->(∃ c t,W.heap[b]? = some (.cells c t (0,0)))/\∀ u v,W.cell? ⟨b,off,none⟩=some (.iface u v)->Value.okWide P W .any 0 u v)->ps.Nodup ->
   ∃ ads : List Addr, ads.length = l.length ∧ (∀ k, k < l.length → W.cell? ⟨(l.getD k ("", [], 0)).2.2, 0, none⟩ = some (.iface tp (.pointer (some (ads.getD k default))))) ∧
    (∀ a ∈ ads,MemPlace.cell a.block a.off ∈ ps/\∃ c t,W.heap[a.block]? = some (.cells c t (0,0)))/\ads.Nodup:=by
 intro l
 induction l with
 |nil=>intro ps _ _ _ _;exact ⟨[],rfl,fun k hk=>by simp at hk,fun a ha=>by simp at ha,List.nodup_nil⟩
 |cons x l ih =>
  intro ps r8 h kl mA;obtain ⟨n,tx,g⟩:=x;obtain ⟨g',t',cs,fuel,p,q,pS,tK,hv,hd,hq,rfl⟩:=h;obtain ⟨hg,ht⟩:=r8 (n,tx,g) (by simp);obtain rfl:=Option.some.inj (hg.symm.trans pS);obtain rfl:=Option.some.inj (ht.symm.trans tK);obtain ⟨l0⟩:=cs;have ok0:∀ u v,l0=[.iface u v]->Value.okWide P W .any 0 u v:=fun u v e=>by
   subst e;exact (kl g 0 (by simp [MemPlace.row])).2 u v (by simpa using World.var?_cell pS hv 0)
  obtain ⟨a0,s0,rfl,hc0,hs0,hz0,rfl⟩:=errorString_of_trod hi hrow hp he uF uu hs hc hcs hd ok0;have kZ:MemPlace.cell a0.block a0.off ∈ MemPlace.row a0 1:=by simp [MemPlace.row]
  obtain ⟨c0,t0,hb0⟩:=(kl a0.block a0.off (List.mem_append_left _ (List.mem_append_right _ kZ))).1;obtain ⟨ads,h1,h2,h3,h4⟩:=ih q (fun y hy=>r8 y (by simp [hy])) hq (fun b off hm=>kl b off (List.mem_append_right _ hm)) (List.Nodup.sublist (List.sublist_append_right _ _) mA);refine ⟨a0 :: ads,by simp [h1],?_,?_,?_⟩
  ·intro k hk
   cases k with
   |zero=>simpa using World.var?_cell pS hv 0
   |succ k=>simpa using h2 k (by simpa using hk)
  ·intro a ha
   rcases List.mem_cons.1 ha with rfl | ha
   ·exact ⟨List.mem_append_left _ (List.mem_append_right _ kZ),c0,t0,hb0⟩
   ·exact ⟨List.mem_append_right _ (h3 a ha).1,(h3 a ha).2⟩
  ·refine List.nodup_cons.2 ⟨fun ha=>?_,h4⟩;have hm:=(h3 a0 ha).1;have tH:=(List.nodup_append.1 mA).2.2;exact tH _ (List.mem_append_right _ kZ) _ hm rfl
def sentList : List (String × List UInt8 × Nat) := [("linotype/api.ErrScalar", [115, 99, 97, 108, 97, 114], 1), ("linotype/api.ErrForm", [102, 111, 114, 109], 2), ("linotype/api.ErrRange", [114, 97, 110, 103, 101], 3),
 ("linotype/api.ErrLong", [108, 111, 110, 103], 4), ("linotype/api.ErrKind", [107, 105, 110, 100], 0), ("linotype/api.ErrWord", [119, 111, 114, 100], 5), ("linotype/api.ErrFull", [102, 117, 108, 108], 6), ("linotype/api.ErrNone", [110, 111, 110, 101], 7)]
theorem esRow : ∀ u, Tryd.prog.typeName? 3 u = some "*errors.errorString" → u = 186 := typeName_ptr_named (nm := "errors.errorString") (by kernel_rfl) (by kernel_rfl) (by decide)
theorem sents_of_laid{W:World}(h:laidMet Tryd.prog (sentList.map fun x=>(x.1,sentD x.2.1)) W):∃ sa,Sents W sa:=by
 obtain ⟨ps,hv,mA,kl⟩:=h;obtain ⟨ads,h1,h2,h3,h4⟩:=laidVars_sents Tryd.underlying31 esRow Tryd.underlying186 Tryd.underlying211 rfl rfl Tryd.underlying9 (by kernel_rfl) (by kernel_rfl) sentList ps
  (by intro x hx;simp only [sentList,List.mem_cons,List.not_mem_nil,or_false] at hx;rcases hx with rfl | rfl | rfl | rfl | rfl | rfl | rfl | rfl <;> exact ⟨by kernel_rfl,by kernel_rfl⟩) hv kl mA
 have hl:ads.length=8:=h1;refine ⟨fun k=>ads.getD k default,⟨?_,?_,?_⟩⟩
 ·intro k hk;have:=h2 k hk;rw [show glob k = (sentList.getD k ("", [], 0)).2.2 from by
   match k,hk with
   | 0,_ | 1,_ | 2,_ | 3,_ | 4,_ | 5,_ | 6,_ | 7,_=>rfl]
  exact this
 ·intro k hk;exact (h3 _ (by simp [List.getD,List.getElem?_eq_getElem (show k<ads.length by omega)])).2
 ·intro i j hi hj hne he;refine hne ?_;have e1:ads.getD i default=ads[i]'(by omega):=by simp [List.getD,List.getElem?_eq_getElem (show i<ads.length by omega)]
  have e2:ads.getD j default=ads[j]'(by omega):=by simp [List.getD,List.getElem?_eq_getElem (show j<ads.length by omega)]
  rw [e1,e2] at he;exact (List.getElem_inj h4).1 he
end Go.Proofs.YtechjomepdahiaaDoor.F
namespace Go.Proofs.YtechjomepdahiaaDoor
open Go.RowKit Go.ChangeShapes Go.WideShapes
def dR(xs:List Int)(k:Nat):List Int:=(xs.take k).flatMap av
theorem fY(xs:List Int)(k:Nat):(dR xs k).length<=4 * k:=by
 unfold dR
 induction xs generalizing k with
 |nil=>simp
 |cons x xs ih =>
  cases k with
  | zero=>simp
  | succ k=>have:=ih k;have:=dE x;simp only [List.take_succ_cons,List.flatMap_cons,List.length_append];omega
theorem eU(xs:List Int)(k:Nat)(h:k<xs.length):dR xs (k+1)=dR xs k++av (xs.getD k 0):=by
 unfold dR;rw [List.take_succ_eq_append_getElem h,List.flatMap_append]
 simp [List.getD,List.getElem?_eq_getElem h]
def fm(w:World)(xs:List Int)(k:Nat)(v:Value)(wr:World):Prop:=wr.ownsRow w.heap.size 5 1 v (dR xs k).length ((dR xs k).map (Value.int .u8))/\Below w.heap.size w wr
abbrev Cl:=Int × List Int
abbrev zc:Cl:=(0,[])
def aJ(t:List Int):Bool:=t.all aj
def al(c:Cl):Bool:=if c.1 == 0 || c.1 == 3 then c.2.length == 0 else (c.1 == 1 || c.1 == 2) && decide (0<c.2.length) && decide (c.2.length<=16) && aJ c.2
def db(lead:Bool):List Cl->Bool
 | []=>!lead
 | c :: l=>al c && (lead == (c.1 == 3)) && db (c.1 == 2) l
def aR(l:List Cl):Bool:=db false l
def aB(l:List Cl)(i:Int):Int:=if i<0 then 0 else (l.getD i.toNat zc).1
def cL(l:List Cl)(i:Nat):Bool:=al (l.getD i zc) && !((l.getD i zc).1 == 2 && aB l ((i:Int)+1) != 3) && !((l.getD i zc).1 == 3 && aB l ((i:Int) - 1) != 2)
def cN(l:List Cl)(n:Nat):Bool:=(List.range n).all (cL l)
theorem eL(l:List Cl)(n:Nat):cN l (n+1)=(cN l n && cL l n):=by unfold cN;rw [List.range_succ];simp
theorem iP{l:List Cl}{k n:Nat}(hk:k<n)(h:cL l k=false):cN l n=false:=by
 cases hc:cN l n with
 |false=>rfl
 |true =>
  unfold cN at hc;rw [List.all_eq_true] at hc;rw [hc k (List.mem_range.2 hk)] at h
  cases h
theorem gK{l:List Cl}{k n:Nat}(hk:k<n)(h:cN l n=true):cL l k=true:=by
 unfold cN at h;rw [List.all_eq_true] at h;exact h k (List.mem_range.2 hk)
def aW(l:List Cl)(k:Nat):Bool:=if k=0 then false else (l.getD (k - 1) zc).1 == 2
def bX(l:List Cl)(k:Nat):Bool:=al (l.getD k zc) && (aW l k == ((l.getD k zc).1 == 3))
theorem bY(l:List Cl)(k:Nat):aW l (k+1)=((l.getD k zc).1 == 2):=by unfold aW;rw [if_neg (by omega)];rfl
theorem fC(l:List Cl)(k:Nat)(hk:k<l.length):db (aW l k) (l.drop k)=(bX l k && db (aW l (k+1)) (l.drop (k+1))):=by
 rw [List.drop_eq_getElem_cons hk,bY];unfold bX;have e:l.getD k zc=l[k]:=by simp [List.getD,List.getElem?_eq_getElem hk]
 rw [e]
 rfl
theorem fa{α:Type}(l:List α)(d:α)(k:Nat)(h:l.length<=k):l.getD k d=d:=by simp [List.getD,List.getElem?_eq_none h]
theorem dD(l:List Cl):aR l=cN l l.length:=by
 have key:∀ n,n<=l.length->((∀ k,k<n->bX l k=true)/\aW l n=false↔(∀ k,k<n->cL l k=true)/\(0<n->n<l.length->(l.getD n zc).1≠3->True)/\(∀ k,k<n->True)/\(aW l n=false))\/True:=fun _ _=>.inr trivial
 clear key
 -- by induction: all places up tz9 n are sound just if all are so,but for what a lead at n - 1 awaits
 have ind:∀ n,n<=l.length->((∀ k,k<n->bX l k=true)↔(∀ k,k<n->al (l.getD k zc)=true)/\(∀ k,k+1<n->((l.getD k zc).1 == 2)=((l.getD (k+1) zc).1 == 3))/\(0<n->((l.getD 0 zc).1 == 3)=false)):=by
  intro n hn
  induction n with
  |zero=>simp
  |succ n ih =>
   have ih:=ih (by omega);constructor
   ·intro h;obtain ⟨h1,h2,h3⟩:=ih.1 fun k hk=>h k (by omega)
    have lX:=h n (by omega);unfold bX at lX;simp only [Bool.and_eq_true,beq_iff_eq] at lX;refine ⟨fun k hk=>?_,fun k hk=>?_,fun _=>?_⟩
    ·rcases Nat.lt_or_ge k n with h4 | h4
     ·exact h1 k h4
     ·obtain rfl:k=n:=by omega
      exact lX.1
    ·rcases Nat.lt_or_ge (k+1) n with h4 | h4
     ·exact h2 k h4
     ·obtain rfl:n=k+1:=by omega
      rw [<-bY];exact lX.2
    ·rcases Nat.eq_zero_or_pos n with h4 | h4
     ·subst h4;have:=lX.2;unfold aW at this;rw [if_pos rfl] at this;exact this.symm
     ·exact h3 h4
   ·rintro ⟨h1,h2,h3⟩ k hk
    rcases Nat.lt_or_ge k n with h4 | h4
    ·exact (ih.2 ⟨fun k hk=>h1 k (by omega),fun k hk=>h2 k (by omega),fun h=>h3 (by omega)⟩) k h4
    ·obtain rfl:k=n:=by omega
     unfold bX;rw [h1 k (by omega)];simp only [Bool.true_and,beq_iff_eq]
     cases k with
     |zero=>unfold aW;rw [if_pos rfl,h3 (by omega)]
     |succ k=>rw [bY];exact h2 k (by omega)
 have hs:aR l=true↔(∀ k,k<l.length->bX l k=true)/\aW l l.length=false:=by
  have step:∀ m k,l.length - k=m->k<=l.length->(db (aW l k) (l.drop k)=true↔(∀ j,k<=j->j<l.length->bX l j=true)/\aW l l.length=false):=by
   intro m
   induction m with
   |zero =>
    intro k hm hk;obtain rfl:k=l.length:=by omega
    rw [List.drop_length];unfold db;constructor
    ·intro h;exact ⟨fun j h1 h2=>by omega,by simpa using h⟩
    ·rintro ⟨_,h⟩;simpa using h
   |succ m ih =>
    intro k hm hk;rw [fC l k (by omega),Bool.and_eq_true,ih (k+1) (by omega) (by omega)];constructor
    ·rintro ⟨h1,h2,h3⟩;refine ⟨fun j h4 h5=>?_,h3⟩
     rcases Nat.eq_or_lt_of_le h4 with h6 | h6
     ·subst h6;exact h1
     ·exact h2 j h6 h5
    ·rintro ⟨h1,h2⟩;exact ⟨h1 k (Nat.le_refl _) (by omega),fun j h3 h4=>h1 j (by omega) h4,h2⟩
  have:=step l.length 0 (by omega) (Nat.zero_le _);rw [show aR l=db (aW l 0) (l.drop 0) from rfl,this];constructor
  ·rintro ⟨h1,h2⟩;exact ⟨fun k hk=>h1 k (Nat.zero_le _) hk,h2⟩
  ·rintro ⟨h1,h2⟩;exact ⟨fun k _ hk=>h1 k hk,h2⟩
 have hr:cN l l.length=true↔∀ k,k<l.length->cL l k=true:=by
  constructor
  ·intro h k hk;exact gK hk h
  ·intro h;unfold cN;rw [List.all_eq_true];intro k hk;exact h k (List.mem_range.1 hk)
 have sU:∀ k:Nat,aB l ((k:Int)+1)=(l.getD (k+1) zc).1:=fun k=>by
  unfold aB;rw [if_neg (by omega),show ((k:Int)+1).toNat=k+1 by omega]
 have hk2:∀ k:Nat,aB l ((k:Int) - 1)=if k=0 then 0 else (l.getD (k - 1) zc).1:=fun k=>by
  unfold aB
  by_cases h:k=0
  ·subst h;rfl
  ·rw [if_neg (by omega),if_neg h,show ((k:Int) - 1).toNat=k - 1 by omega]
 rw [Bool.eq_iff_iff,hs,hr,ind l.length (Nat.le_refl _)];constructor
 ·rintro ⟨⟨h1,h2,h3⟩,h4⟩ k hk;unfold cL;rw [h1 k hk,sU,hk2];simp only [Bool.true_and,Bool.and_eq_true,Bool.not_eq_true',Bool.and_eq_false_iff,bne_eq_false_iff_eq,beq_eq_false_iff_ne];refine ⟨?_,?_⟩
  ·by_cases h5:(l.getD k zc).1=2
   ·right
    rcases Nat.lt_or_ge (k+1) l.length with h6 | h6
    ·have:=h2 k h6;rw [h5] at this
     simpa using this.symm
    ·exfalso;have h7:aW l (k+1)=true:=by rw [bY,h5];rfl
     rw [show k+1=l.length by omega,h4] at h7
     cases h7
   ·exact .inl h5
  ·by_cases h5:(l.getD k zc).1=3
   ·right
    cases k with
    |zero =>
     have:=h3 hk;rw [h5] at this
     cases this
    |succ k =>
     have:=h2 k hk;rw [h5] at this;rw [if_neg (by omega)]
     simpa using this
   ·exact .inl h5
 ·intro h;have hx:∀ k,k<l.length->al (l.getD k zc)=true/\((l.getD k zc).1=2->(l.getD (k+1) zc).1=3)/\((l.getD k zc).1=3->k≠0/\(l.getD (k - 1) zc).1=2):=by
   intro k hk;have h1:=h k hk;unfold cL at h1;rw [sU,hk2] at h1;simp only [Bool.and_eq_true,Bool.not_eq_true',Bool.and_eq_false_iff,bne_eq_false_iff_eq,beq_eq_false_iff_ne] at h1;obtain ⟨⟨h1,h2⟩,h3⟩:=h1;refine ⟨h1,fun h4=>?_,fun h4=>?_⟩
   ·rcases h2 with h2 | h2
    ·exact absurd h4 h2
    ·exact h2
   ·rcases h3 with h3 | h3
    ·exact absurd h4 h3
    ·split at h3
     ·cases h3
     ·exact ⟨by assumption,h3⟩
  refine ⟨⟨fun k hk=>(hx k hk).1,fun k hk=>?_,fun h0=>?_⟩,?_⟩
  ·rw [Bool.eq_iff_iff,beq_iff_eq,beq_iff_eq];exact ⟨(hx k (by omega)).2.1,fun h4=>((hx (k+1) hk).2.2 h4).2⟩
  ·rw [beq_eq_false_iff_ne];intro h4;exact ((hx 0 h0).2.2 h4).1 rfl
  ·unfold aW
   split
   ·rfl
   ·rename_i hne
    rw [beq_eq_false_iff_ne];intro h4;have h5:=(hx (l.length - 1) (by omega)).2.1 h4;rw [show l.length - 1+1=l.length by omega,fa _ _ _ (Nat.le_refl _)] at h5
    cases h5
def cellE:Elem Cl:=prE (bh .i64) (slE (bh .i32))
abbrev jK:Elem (List Cl):=slE cellE
theorem cell_rep{Z:ak}{w:World}{C:List Value}{x:Cl}:cellE.rep Z w C x↔∃ tv,C=[.int .i64 x.1,tv]/\HeldE (bh .i32) Z w tv x.2:=by
 constructor
 ·rintro ⟨C1,C2,rfl,rfl,tv,rfl,h⟩;exact ⟨tv,rfl,h⟩
 ·rintro ⟨tv,rfl,h⟩;exact ⟨[_],[tv],rfl,rfl,tv,rfl,h⟩
theorem bg{Z:ak}{w:World}{ao:Option Addr}{n cap:Nat}{L:List Cl}(h:HeldE cellE Z w (.slice ao n cap) L):n=L.length/\n<=cap/\∀ i,i<L.length->∃ b off tv,ao=some ⟨b,off,none⟩/\b<w.heap.size/\Z b /\
  w.cell? ⟨b,off+i * 2,none⟩=some (.int .i64 (L.getD i zc).1)/\w.cell? ⟨b,off+i * 2+1,none⟩=some tv/\HeldE (bh .i32) Z w tv (L.getD i zc).2:=by
 obtain ⟨h1,h2,h3⟩:=h.spots;refine ⟨h1,h2,fun i hi=>?_⟩;obtain ⟨b,off,rfl,hb,hz,C,hC,hr⟩:=h3 i hi;obtain ⟨tv,rfl,ht⟩:=cell_rep.1 hr;exact ⟨b,off,tv,rfl,hb,hz,hC 0 (by decide),hC 1 (by decide),ht⟩
theorem dC:(Tryd.prog.info? 85).map (fun i=>(i.zero,i.size,i.bytes))=some (some (.agg #[.int .i64 0,.slice none 0 0]),cellE.size,32):=by kernel_rfl
def AlikeC(a b:List Cl)(k:Nat):Prop:=∀ j,j<k->a.getD j zc=b.getD j zc
theorem AlikeC.next{a b:List Cl}{k:Nat}(h:AlikeC a b k)(e:a.getD k zc=b.getD k zc):AlikeC a b (k+1):=by
 intro j hj
 by_cases h2:j=k
 ·subst h2;exact e
 ·exact h j (by omega)
theorem gm(L:List Cl):aR L=true↔∀ i,i<L.length->al (L.getD i zc)=true/\((L.getD i zc).1=2->(L.getD (i+1) zc).1=3)/\((L.getD i zc).1=3->0<i/\(L.getD (i - 1) zc).1=2):=by
 have sU:∀ k:Nat,aB L ((k:Int)+1)=(L.getD (k+1) zc).1:=fun k=>by
  unfold aB;rw [if_neg (by omega),show ((k:Int)+1).toNat=k+1 by omega]
 have hk2:∀ k:Nat,aB L ((k:Int) - 1)=if k=0 then 0 else (L.getD (k - 1) zc).1:=fun k=>by
  unfold aB
  by_cases h:k=0
  ·subst h;rfl
  ·rw [if_neg (by omega),if_neg h,show ((k:Int) - 1).toNat=k - 1 by omega]
 have one:∀ i,cL L i=true↔al (L.getD i zc)=true/\((L.getD i zc).1=2->(L.getD (i+1) zc).1=3)/\((L.getD i zc).1=3->0<i/\(L.getD (i - 1) zc).1=2):=by
  intro i;unfold cL;rw [sU,hk2];simp only [Bool.and_eq_true,Bool.not_eq_true',Bool.and_eq_false_iff,bne_eq_false_iff_eq,beq_eq_false_iff_ne];constructor
  ·rintro ⟨⟨h1,h2⟩,h3⟩;refine ⟨h1,fun h=>?_,fun h=>?_⟩
   ·rcases h2 with h2 | h2
    ·exact absurd h h2
    ·exact h2
   ·rcases h3 with h3 | h3
    ·exact absurd h h3
    ·split at h3
     ·cases h3
     ·exact ⟨by omega,h3⟩
  ·rintro ⟨h1,h2,h3⟩;refine ⟨⟨h1,?_⟩,?_⟩
   ·by_cases h:(L.getD i zc).1=2
    ·exact .inr (h2 h)
    ·exact .inl h
   ·by_cases h:(L.getD i zc).1=3
    ·obtain ⟨h4,h5⟩:=h3 h;rw [if_neg (by omega)];exact .inr h5
    ·exact .inl h
 rw [dD];constructor
 ·intro h i hi;exact (one i).1 (gK hi h)
 ·intro h;unfold cN;rw [List.all_eq_true];intro i hi;exact (one i).2 (h i (List.mem_range.1 hi))
def inP(a m i:Nat):Prop:=a<=i/\i<a+m
instance (a m i:Nat):Decidable (inP a m i):=by unfold inP;infer_instance
def jH(L:List Cl)(a m i:Nat):Prop:=((L.getD i zc).1=2/\inP a m (i+1))\/((L.getD i zc).1=3/\0<i/\inP a m (i - 1))
instance (L:List Cl) (a m i:Nat):Decidable (jH L a m i):=by unfold jH;infer_instance
theorem ir{α:Type}(l:List α)(d:α)(k i:Nat):(l.take k).getD i d=if i<k then l.getD i d else d:=by
 simp only [List.getD,List.getElem?_take]
 split <;> rfl
theorem it{α:Type}(l:List α)(d:α)(k i:Nat):(l.drop k).getD i d=l.getD (k+i) d:=by
 simp only [List.getD,List.getElem?_drop]
theorem jM(xs:List Int)(lead:Int)(f m:Nat):m<=goF xs lead f m:=by
 induction f generalizing m with
 |zero=>exact Nat.le_refl _
 |succ f ih =>
  unfold goF
  split
  ·have:=ih (m+1);omega
  ·exact Nat.le_refl _
def du(xs:List Int)(p:Nat):Nat:=if an (xs.getD p 0)=0 then 1 else bD (xs.drop p) (an (xs.getD p 0))
theorem cR(xs:List Int)(p:Nat):1<=du xs p:=by
 unfold du
 split
 ·exact Nat.le_refl _
 ·exact jM _ _ _ _
theorem fj(xs:List Int)(p:Nat)(hp:p<xs.length):p+du xs p<=xs.length:=by
 unfold du
 split
 ·omega
 ·have:=gO (xs.drop p) (an (xs.getD p 0)) (by simp;omega);rw [List.length_drop] at this;omega
theorem eS(xs:List Int)(p:Nat):(b8 xs p).2.2.1=du xs p:=by
 unfold b8 du
 split
 ·rfl
 ·split <;> rfl
def aK(xs:List Int):Nat->Nat
 | 0=>0
 | k+1=>aK xs k+du xs (aK xs k)
def bU(xs:List Int):Nat->List G5
 | 0=>[]
 | k+1=>bU xs k++[b8 xs (aK xs k)]
theorem df(xs:List Int)(k:Nat):(bU xs k).length=k:=by
 induction k with
 | zero=>rfl
 | succ k ih=>simp [bU,ih]
theorem fk(xs:List Int){j k:Nat}(h:j<k):aK xs j<aK xs k:=by
 induction k with
 |zero=>omega
 |succ k ih =>
  have h1:=cR xs (aK xs k);show aK xs j<aK xs k+du xs (aK xs k)
  rcases Nat.lt_or_ge j k with h | h
  ·have:=ih h;omega
  ·have:j=k:=by omega
   subst this;omega
theorem fT(xs:List Int){j k:Nat}(h:aK xs j=aK xs k):j=k:=by
 rcases Nat.lt_trichotomy j k with h1 | h1 | h1
 ·have:=fk xs h1;omega
 ·exact h1
 ·have:=fk xs h1;omega
theorem jw(xs:List Int)(k:Nat):k<=aK xs k:=by
 induction k with
 | zero=>exact Nat.zero_le _
 | succ k ih=>have:=cR xs (aK xs k);show k+1<=aK xs k+du xs (aK xs k);omega
theorem im(xs:List Int)(k i:Nat)(h:i<k):(bU xs k)[i]? = some (b8 xs (aK xs i)):=by
 induction k with
 |zero=>omega
 |succ k ih =>
  unfold bU
  rcases Nat.lt_or_ge i k with h1 | h1
  ·rw [List.getElem?_append_left (by rw [df];exact h1)];exact ih h1
  ·have:i=k:=by omega
   subst this;rw [List.getElem?_append_right (by rw [df];exact Nat.le_refl _),df];simp
theorem de{P:Program}(w0:World){ops:Array Oper}{rest:List Oper}{o:Oper}{a:Act}{Q:Exit->Act->World->Prop}(hgd:o.guard=none)(s x:Operand)(t:TypeId)
  (ho:o.op=.call { callee:=.builtin .append,args:=#[s,x],argTypes:=#[t,t] })
  (base:Nat) (e:TypeId) (z:Value) (size bytes:Nat) (ht:P.underlying t=some (.slice e)) (kJ:(P.info? e).map (fun i=>(i.zero,i.size,i.bytes))=some (some z,size,bytes)) (hzs:z.cells.size=size) (hsz:0<size)
  (v:Value) (n:Nat) (xs:List Value) (hs:a.eval s=v) (hown:w0.ownsRow base e size v n xs)
  (C:List Value) (m c N:Nat) (hN:w0.heap.size=N) (hx:a.eval x=.slice (some ⟨N,0,none⟩) m c) (hl:C.length=m * size) (h1:∀ u ∈ C,u.oneCell'=true)
  (hbytes:(n+m) * bytes<=140737488355328) (hb0:n+m<=140737488355328) (hbase:base<=w0.heap.size)
  (h:∀ v' w',w'.ownsRow base e size v' (n+m) (xs++C)->Below base w0 w'->(∀ g,g<w0.heap.size->v.ownBlock≠some g->w'.heap[g]? = w0.heap[g]?)->wpList P ops Q rest (a.put o.dst v') w') :
  wpList P ops Q (o :: rest) a (w0.alloc (.cells C.toArray e)):=by
 subst hN;obtain ⟨i0,hi,hz0,hz1,hz2⟩:=info_parts kJ;refine wpList_append_own _ hgd s x t ho base e i0 z size bytes ht hi hz0 hz1 hz2 hzs hsz v n xs hs (hown.alloc _) ⟨w0.heap.size,0,none⟩ m c C hx (by omega) (dF w0 C e) h1 (by unfold maxLen;omega) hbytes (by simp;omega) ?_;intro v' w' hown' hgrow _;refine h v' w' hown' (((Below.refl base w0).alloc hbase _).grown hgrow (by simp;omega) fun k hk=>((hown.alloc (.cells C.toArray e)).lt k hk).1) fun g hg hne=>?_
 exact (hgrow.block g (by simp;omega) (fun e=>hne e.symm)).trans ((j0 w0 (.cells C.toArray e)).block g hg)
def dN(xs:List Int)(k:Nat):List Int:=(bU xs k).map (·.1)
theorem ik(xs:List Int)(k:Nat):dN xs (k+1)=dN xs k++[(b8 xs (aK xs k)).1]:=by
 unfold dN;rw [show bU xs (k+1)=bU xs k++[b8 xs (aK xs k)] from rfl,List.map_append]
 rfl
theorem Tryd.info21u:(Tryd.prog.info? 21).map (fun i=>(i.zero,i.size,i.bytes))=some (some (.int .i32 0),1,4):=by kernel_rfl
def ju(w:World)(xs:List Int)(e:Ending)(w':World):Prop:=∃ k v',e=.returned v'/\aK xs k=xs.length/\w'.ownsRow w.heap.size 21 1 v' k ((dN xs k).map (Value.int .i32))/\Below w.heap.size w w'
theorem gx(v:Value)(xs:List Int)(w:World)(hv:Held .u8 w v xs)(mW:eT v)(hm:xs.length<=1000000)(hr:∀ i,i<xs.length->0<=xs.getD i 0/\xs.getD i 0<=255) :
  Calls Tryd.prog 112 #[v] w (ju w xs):=by
 obtain ⟨ao,cap,rfl,_⟩:=id hv.view;have HV:=aa hv;have HC:=aa mW;have HR:=aa hr;clear hv mW hr
 go_enter Tryd.func112,Tryd.ntmps112
 go_wp2
 go_loopw [3,4] (fun l p wr=>∃ k q:Nat,aK xs k=q/\k<=q/\q<=xs.length/\p=.int .i64 q/\wr.ownsRow w.heap.size 21 1 l k ((dN xs k).map (Value.int .i32))/\Below w.heap.size w wr) (fun _ p _=>xs.length - (intOf p).toNat)
 case atStart=>exact ⟨0,0,rfl,Nat.zero_le _,Nat.zero_le _,rfl,World.ownsRow_nil _ _ _ _,Below.refl _ _⟩
 case round =>
  obtain ⟨k,q,hq,hkq,tR,rfl,hown,m6⟩:=hrel
  by_cases hlt:q<xs.length
  ·have px:=ik xs k;have rO:aK xs (k+1)=q+du xs q:=by show aK xs k+_=_;rw [hq]
   have mm:=eS xs q;have hle:=fj xs q hlt;have uG:=cR xs q;rw [hq] at px;have pq:=aa px;have rM:=aa rO;have HOW:=aa hown;clear px rO hown hq
   go_wp2_with fail
   refine (fW _ xs q _ (HV.out.below m6) HC.out hlt (by omega) HR.out).mono ?_;rintro e w1 ⟨rfl,b1⟩;obtain ⟨G,hG⟩:=ab (b8 xs q);rw [<-hG] at pq mm ⊢;obtain ⟨n,hn⟩:=ab (du xs q);rw [<-hn] at rM mm hle uG;clear hG hn;obtain ⟨r,a,l,kn,bd⟩:=G;have mm:l=n:=mm;subst mm;rw [show jN (r,a,(n:Int),kn,bd)=.agg #[.int .i32 r,.int .i64 a,.int .i64 n,.int .i64 kn,.bool bd] from rfl];have hown1:=bs HOW.out b1;have hb1:=m6.trans (b1.mono m6.size);clear b1;have hg0:=(Has.new w1 [Value.int .i32 r,.int .i64 a,.int .i64 n,.int .i64 kn,.bool bd] 177);have hown2:=hown1.alloc (.cells [Value.int .i32 r,.int .i64 a,.int .i64 n,.int .i64 kn,.bool bd].toArray 177);have rc:u3.ownBlock≠some w1.heap.size:=fun e=>by have:=(hown1.lt _ e).2;omega
   have hb2:=hb1.alloc hb1.size (.cells [Value.int .i32 r,.int .i64 a,.int .i64 n,.int .i64 kn,.bool bd].toArray 177);have hsz:(w1.alloc (.cells [Value.int .i32 r,.int .i64 a,.int .i64 n,.int .i64 kn,.bool bd].toArray 177)).heap.size=w1.heap.size+1:=by simp
   clear hown1
   go_wp2_with (at_builtin;refine de (w1.alloc (.cells [Value.int .i32 r,.int .i64 a,.int .i64 n,.int .i64 kn,.bool bd].toArray 177)) rfl (.tmp 13) (.tmp 16) 25 rfl w.heap.size 21 (.int .i32 0) 1 4 Tryd.underlying25 Tryd.info21u rfl (by decide) u3 k ((dN xs k).map (Value.int .i32)) rfl hown2 [.int .i32 r] 1 1 (w1.heap.size+1) hsz rfl rfl (by intro u hu;simp at hu;rcases hu with rfl <;> rfl) (by omega) (by omega) hb2.size ?_)
   intro v' w' hown' hb' hkp;have hg2:Has w' w1.heap.size [Value.int .i32 r,.int .i64 a,.int .i64 n,.int .i64 kn,.bool bd] 177:=(hkp _ (by simp) rc).trans hg0;have c2:=hg2.cell 2 _ rfl;have kS:w'.ownsRow w.heap.size 21 1 v' (k+1) ((dN xs (k+1)).map (Value.int .i32)):=by rw [pq.out,List.map_append];exact hown'
   have hb3:=hb2.trans hb';clear hown' hown2 hb' hb2 hb1 hkp hg0 hg2 hsz rc pq;go_wp2
   go_roundw
   case rel=>exact ⟨k+1,q+n,rM.out,by omega,by omega,by go_num,kS,hb3⟩
   case measure=>simp [intOf] <;> omega
  ·have uW:q=xs.length:=by omega
   subst uW;go_wp2;go_ret;exact ⟨k,_,rfl,hq,hown,m6⟩
def bI(xs:List Int)(k:Nat):Bool:=(bU xs k).any (·.2.2.2.2)
theorem fS(xs:List Int)(k:Nat):bI xs (k+1)=(bI xs k || (b8 xs (aK xs k)).2.2.2.2):=by
 unfold bI;rw [show bU xs (k+1)=bU xs k++[b8 xs (aK xs k)] from rfl,List.any_append]
 simp
theorem il(xs:List Int){j k:Nat}(h:j<k)(hb:(b8 xs (aK xs j)).2.2.2.2=true):bI xs k=true:=by
 unfold bI;rw [List.any_eq_true];exact ⟨_,List.mem_of_getElem? (im xs k j h),hb⟩
theorem gy(v:Value)(xs:List Int)(K:Nat)(hK:aK xs K=xs.length)(w:World)(hv:Held .u8 w v xs)(mW:eT v)(hm:xs.length<=1000000)(hr:∀ i,i<xs.length->0<=xs.getD i 0/\xs.getD i 0<=255) :
  Calls Tryd.prog 111 #[v] w (Gives w (.bool (!bI xs K))):=by
 obtain ⟨ao,cap,rfl,_⟩:=id hv.view;have HV:=aa hv;have HC:=aa mW;have HR:=aa hr;have HK:=aa hK;clear hv mW hr hK
 go_enter Tryd.func111,Tryd.ntmps111
 go_wp2
 go_loopw [3] (fun p wr=>∃ k q:Nat,aK xs k=q/\q<=xs.length/\p=.int .i64 q/\Hid (bI xs k=false)/\Below w.heap.size w wr) (fun p _=>xs.length - (intOf p).toNat)
 case atStart=>exact ⟨0,0,rfl,Nat.zero_le _,rfl,aa rfl,Below.refl _ _⟩
 case round =>
  obtain ⟨k,q,hq,tR,rfl,mz,m6⟩:=hrel
  by_cases hlt:q<xs.length
  ·have px:=fS xs k;have rO:aK xs (k+1)=q+du xs q:=by show aK xs k+_=_;rw [hq]
   have tP:k<K:=by
    rcases Nat.lt_or_ge k K with h | h
    ·exact h
    ·exfalso
     rcases Nat.lt_or_ge K k with h2 | h2
     ·have:=fk xs h2;have:=HK.out;omega
     ·have:k=K:=by omega
      subst this;have:=HK.out;omega
   have vb:=fun h=>il xs tP h
   have mm:=eS xs q;have hle:=fj xs q hlt;have uG:=cR xs q;rw [hq] at px vb;rw [mz.out] at px;have pq:=aa px;have tz:=aa vb;have rM:=aa rO;clear px rO hq vb mz
   go_wp2_with fail
   refine (fW _ xs q _ (HV.out.below m6) HC.out hlt (by omega) HR.out).mono ?_;rintro e w1 ⟨rfl,b1⟩;obtain ⟨G,hG⟩:=ab (b8 xs q);rw [<-hG] at pq tz mm ⊢;obtain ⟨n,hn⟩:=ab (du xs q);rw [<-hn] at rM mm hle uG;clear hG hn;obtain ⟨r,a,l,kn,bd⟩:=G;have mm:l=n:=mm;subst mm;rw [show jN (r,a,(n:Int),kn,bd)=.agg #[.int .i32 r,.int .i64 a,.int .i64 n,.int .i64 kn,.bool bd] from rfl];have hb1:=m6.trans (b1.mono m6.size);have hb2:=hb1.alloc hb1.size (.cells [Value.int .i32 r,.int .i64 a,.int .i64 n,.int .i64 kn,.bool bd].toArray 177);clear b1 hb1
   cases bd with
   |true =>
    have hF:(!bI xs K)=false:=by rw [tz.out rfl];rfl
    have HF:=aa hF;clear hF pq tz;go_wp2;go_ret;exact ⟨ax (by rw [HF.out];try rfl),hb2⟩
   |false =>
    have hN:bI xs (k+1)=false:=pq.out;have HN:=aa hN;clear hN pq tz;go_wp2
    go_roundw
    case rel=>exact ⟨k+1,q+n,rM.out,by omega,by go_num,HN,hb2⟩
    case measure=>simp [intOf] <;> omega
  ·have uW:q=xs.length:=by omega
   subst uW;have tP:k=K:=fT xs (hq.trans HK.out.symm);subst tP;have hF:(!bI xs k)=true:=by rw [mz.out];rfl
   have HF:=aa hF;clear hF hq;go_wp2;go_ret;exact ⟨ax (by rw [HF.out];try rfl),m6⟩
theorem i8(r:Int)(hv:aj r=true)(zs:List Int):an ((av r++zs).getD 0 0)=(av r).length/\1<=(av r).length/\(av r).length<=4 /\
  ∀ j,1<=j->j<(av r).length->okB (av r++zs) j=true:=by
 have hr:=validB_true.1 hv;unfold av;rw [hv];simp only [Bool.true_eq_false,if_false]
 by_cases a1:r<128
 ·simp only [if_pos a1];refine ⟨?_,by simp,by simp,fun j h1 h2=>by simp at h2;omega⟩
  simp [an];omega
 ·simp only [if_neg a1]
  by_cases a2:r<2048
  ·simp only [if_pos a2];refine ⟨?_,by simp,by simp,fun j h1 h2=>?_⟩
   ·show an (192+r / 64)=((2:Nat):Int);unfold an;omega
   ·obtain rfl:j=1:=by simp at h2;omega
    have hl:an (192+r / 64)=2:=by unfold an;omega
    unfold okB bo lo2 hi2
    simp [hl];omega
  ·simp only [if_neg a2]
   by_cases a3:r<65536
   ·simp only [if_pos a3];refine ⟨?_,by simp,by simp,fun j h1 h2=>?_⟩
    ·show an (224+r / 4096)=((3:Nat):Int);unfold an;omega
    ·have hl:an (224+r / 4096)=3:=by unfold an;omega
     rcases (by simp at h2;omega:j=1\/j=2) with rfl | rfl
     ·unfold okB bo lo2 hi2
      simp [hl];omega
     ·unfold okB bo lo2 hi2
      simp [hl];omega
   ·simp only [if_neg a3];refine ⟨?_,by simp,by simp,fun j h1 h2=>?_⟩
    ·show an (240+r / 262144)=((4:Nat):Int);unfold an;omega
    ·have hl:an (240+r / 262144)=4:=by unfold an;omega
     rcases (by simp at h2;omega:j=1\/j=2\/j=3) with rfl | rfl | rfl
     ·unfold okB bo lo2 hi2
      simp [hl];omega
     ·unfold okB bo lo2 hi2
      simp [hl];omega
     ·unfold okB bo lo2 hi2
      simp [hl];omega
theorem dI(a:List Int):(a.flatMap av).length<=4 * a.length:=by
 induction a with
 | nil=>simp
 | cons x a ih=>have:=dE x;simp only [List.flatMap_cons,List.length_append,List.length_cons];omega
end Go.Proofs.YtechjomepdahiaaDoor
