import Derived.Test.YtechjomepdahiaaDoorZ0
import Derived.Test.YtechjomepdahiaaDoorErfC
import Derived.Test.YtechjomepdahiaaDoorRows
import Derived.LaidMore
import Derived.Test.YtechjomepdahiaaDoorErrS
import Derived.Test.YtechjomepdahiaaDoorScalarR
import Derived.Test.YtechjomepdahiaaDoorUallE
import Derived.Laws.OwnMore
import Derived.Test.YtechjomepdahiaaDoorScalarC
import Derived.Test.YtechjomepdahiaaDoorMg1
set_option maxRecDepth 100000
set_option linter.unusedVariables false
set_option linter.unusedSimpArgs false
set_option maxHeartbeats 1000000
namespace Go.Proofs.YtechjomepdahiaaDoor.F
open Go.RowKit Go.Extern.Stop Go.Stop Go.Extern
end Go.Proofs.YtechjomepdahiaaDoor.F
namespace Go.Proofs.YtechjomepdahiaaDoor.F
open Go.RowKit
end Go.Proofs.YtechjomepdahiaaDoor.F
namespace Go.Proofs.YtechjomepdahiaaDoor.F
open Go.RowKit Go.ChangeShapes
def sentD (t : List UInt8) : DataW Unit := .iface "*errors.errorString" (.ptr (.agg [.lit (.string t)]))
theorem laidVars_sents{P:Program}{W:World}{ti tp te ts:TypeId}{ms:Array (String × TypeId)}{f:Field}
  (hi : P.underlying ti = some (.interface ms)) (hrow : ∀ u, P.typeName? 3 u = some "*errors.errorString" → u = tp)
  (hp:P.underlying tp=some (.pointer te)) (he:P.underlying te=some (.struct #[f])) (yq:f.type=ts) (wT:f.offset=0) (hs:P.underlying ts=some .string) (hc:P.cellsOf te=1) (hcs:P.cellsOf ts=1) :
  ∀ (l:List (String × List UInt8 × Nat)) (ps:List MemPlace),(∀ x ∈ l,P.globalNamed x.1=some x.2.2/\(P.globals[x.2.2]?).map (·.type)=some ti) ->
   DataW.LaidVars P W (l.map fun x=>(x.1,sentD x.2.1)) ps ->
   (∀ b off,MemPlace.cell b off ∈ ps->(∃ c t,W.heap[b]? = some (.cells c t (0,0)))/\∀ u v,W.cell? ⟨b,off,none⟩=some (.iface u v)->Value.okWide P W .any 0 u v)->ps.Nodup ->
   ∃ ads : List Addr, ads.length = l.length ∧ (∀ k, k < l.length → W.cell? ⟨(l.getD k ("", [], 0)).2.2, 0, none⟩ = some (.iface tp (.pointer (some (ads.getD k default))))) ∧
    (∀ a ∈ ads,MemPlace.cell a.block a.off ∈ ps/\∃ c t,W.heap[a.block]? = some (.cells c t (0,0)))/\ads.Nodup:=by
 intro l
 induction l with
 |nil=>intro ps _ _ _ _;exact ⟨[],rfl,fun k hk=>by simp at hk,fun a ha=>by simp at ha,List.nodup_nil⟩
 |cons x l ih =>
  intro ps vx h my oZ;obtain ⟨n,tx,g⟩:=x;obtain ⟨g',t',cs,fuel,p,q,sP,xK,hv,hd,hq,rfl⟩:=h;obtain ⟨hg,ht⟩:=vx (n,tx,g) (by simp);obtain rfl:=Option.some.inj (hg.symm.trans sP);obtain rfl:=Option.some.inj (ht.symm.trans xK);obtain ⟨l0⟩:=cs;have ok0:∀ u v,l0=[.iface u v]->Value.okWide P W .any 0 u v:=fun u v e=>by
   subst e;exact (my g 0 (by simp [MemPlace.row])).2 u v (by simpa using World.var?_cell sP hv 0)
  obtain ⟨a0,s0,rfl,hc0,hs0,hz0,rfl⟩:=errorString_of_trod hi hrow hp he yq wT hs hc hcs hd ok0;have mS:MemPlace.cell a0.block a0.off ∈ MemPlace.row a0 1:=by simp [MemPlace.row]
  obtain ⟨c0,t0,hb0⟩:=(my a0.block a0.off (List.mem_append_left _ (List.mem_append_right _ mS))).1;obtain ⟨ads,h1,h2,h3,h4⟩:=ih q (fun y hy=>vx y (by simp [hy])) hq (fun b off hm=>my b off (List.mem_append_right _ hm)) (List.Nodup.sublist (List.sublist_append_right _ _) oZ);refine ⟨a0 :: ads,by simp [h1],?_,?_,?_⟩
  ·intro k hk
   cases k with
   |zero=>simpa using World.var?_cell sP hv 0
   |succ k=>simpa using h2 k (by simpa using hk)
  ·intro a ha
   rcases List.mem_cons.1 ha with rfl | ha
   ·exact ⟨List.mem_append_left _ (List.mem_append_right _ mS),c0,t0,hb0⟩
   ·exact ⟨List.mem_append_right _ (h3 a ha).1,(h3 a ha).2⟩
  ·refine List.nodup_cons.2 ⟨fun ha=>?_,h4⟩;have hm:=(h3 a0 ha).1;have vF:=(List.nodup_append.1 oZ).2.2;exact vF _ (List.mem_append_right _ mS) _ hm rfl
def sentList : List (String × List UInt8 × Nat) := [("linotype/api.ErrScalar", [115, 99, 97, 108, 97, 114], 1), ("linotype/api.ErrForm", [102, 111, 114, 109], 2), ("linotype/api.ErrRange", [114, 97, 110, 103, 101], 3),
 ("linotype/api.ErrLong", [108, 111, 110, 103], 4), ("linotype/api.ErrKind", [107, 105, 110, 100], 0), ("linotype/api.ErrWord", [119, 111, 114, 100], 5), ("linotype/api.ErrFull", [102, 117, 108, 108], 6), ("linotype/api.ErrNone", [110, 111, 110, 101], 7)]
theorem esRow : ∀ u, Tryd.prog.typeName? 3 u = some "*errors.errorString" → u = 186 := typeName_ptr_named (nm := "errors.errorString") (by kernel_rfl) (by kernel_rfl) (by decide)
theorem sents_of_laid{W:World}(h:laidMet Tryd.prog (sentList.map fun x=>(x.1,sentD x.2.1)) W):∃ sa,Sents W sa:=by
 obtain ⟨ps,hv,oZ,my⟩:=h;obtain ⟨ads,h1,h2,h3,h4⟩:=laidVars_sents Tryd.underlying31 esRow Tryd.underlying186 Tryd.underlying211 rfl rfl Tryd.underlying9 (by kernel_rfl) (by kernel_rfl) sentList ps
  (by intro x hx;simp only [sentList,List.mem_cons,List.not_mem_nil,or_false] at hx;rcases hx with rfl | rfl | rfl | rfl | rfl | rfl | rfl | rfl <;> exact ⟨by kernel_rfl,by kernel_rfl⟩) hv my oZ
 have hl:ads.length=8:=h1;refine ⟨fun k=>ads.getD k default,⟨?_,?_,?_⟩⟩
 ·intro k hk;have:=h2 k hk;rw [show glob k = (sentList.getD k ("", [], 0)).2.2 from by
   match k,hk with
   | 0,_ | 1,_ | 2,_ | 3,_ | 4,_ | 5,_ | 6,_ | 7,_=>rfl]
  exact this
 ·intro k hk;exact (h3 _ (by simp [List.getD,List.getElem?_eq_getElem (show k<ads.length by omega)])).2
 ·intro i j hi hj hne he;refine hne ?_;have e1:ads.getD i default=ads[i]'(by omega):=by simp [List.getD,List.getElem?_eq_getElem (show i<ads.length by omega)]
  have e2:ads.getD j default=ads[j]'(by omega):=by simp [List.getD,List.getElem?_eq_getElem (show j<ads.length by omega)]
  rw [e1,e2] at he;exact (List.getElem_inj h4).1 he
end Go.Proofs.YtechjomepdahiaaDoor.F
namespace Go.Proofs.YtechjomepdahiaaDoor
open Go.RowKit Go.ChangeShapes Go.WideShapes
def eD(xs:List Int)(k:Nat):List Int:=(xs.take k).flatMap aj
theorem iq(xs:List Int)(k:Nat):(eD xs k).length<=4 * k:=by
 unfold eD
 induction xs generalizing k with
 |nil=>simp
 |cons x xs ih =>
  cases k with
  | zero=>simp
  | succ k=>have:=ih k;have:=eg x;simp only [List.take_succ_cons,List.flatMap_cons,List.length_append];omega
theorem fT(xs:List Int)(k:Nat)(h:k<xs.length):eD xs (k+1)=eD xs k++aj (xs.getD k 0):=by
 unfold eD;rw [List.take_succ_eq_append_getElem h,List.flatMap_append]
 simp [List.getD,List.getElem?_eq_getElem h]
def gA(w:World)(xs:List Int)(k:Nat)(v:Value)(wr:World):Prop:=wr.ownsRow w.heap.size 5 1 v (eD xs k).length ((eD xs k).map (Value.int .u8))/\Below w.heap.size w wr
abbrev Cl:=Int × List Int
abbrev zc:Cl:=(0,[])
def aM(t:List Int):Bool:=t.all ai
def am(c:Cl):Bool:=if c.1 == 0 || c.1 == 3 then c.2.length == 0 else (c.1 == 1 || c.1 == 2) && decide (0<c.2.length) && decide (c.2.length<=16) && aM c.2
def aL(lead:Bool):List Cl->Bool
 | []=>!lead
 | c :: l=>am c && (lead == (c.1 == 3)) && aL (c.1 == 2) l
def aI(l:List Cl):Bool:=aL false l
def aG(l:List Cl)(i:Int):Int:=if i<0 then 0 else (l.getD i.toNat zc).1
def cW(l:List Cl)(i:Nat):Bool:=am (l.getD i zc) && !((l.getD i zc).1 == 2 && aG l ((i:Int)+1) != 3) && !((l.getD i zc).1 == 3 && aG l ((i:Int) - 1) != 2)
def c8(l:List Cl)(n:Nat):Bool:=(List.range n).all (cW l)
theorem fI(l:List Cl)(n:Nat):c8 l (n+1)=(c8 l n && cW l n):=by unfold c8;rw [List.range_succ];simp
theorem kw{l:List Cl}{k n:Nat}(hk:k<n)(h:cW l k=false):c8 l n=false:=by
 cases hc:c8 l n with
 |false=>rfl
 |true =>
  unfold c8 at hc;rw [List.all_eq_true] at hc;rw [hc k (List.mem_range.2 hk)] at h
  cases h
theorem jk{l:List Cl}{k n:Nat}(hk:k<n)(h:c8 l n=true):cW l k=true:=by
 unfold c8 at h;rw [List.all_eq_true] at h;exact h k (List.mem_range.2 hk)
def bf(l:List Cl)(k:Nat):Bool:=if k=0 then false else (l.getD (k - 1) zc).1 == 2
def cm(l:List Cl)(k:Nat):Bool:=am (l.getD k zc) && (bf l k == ((l.getD k zc).1 == 3))
theorem cn(l:List Cl)(k:Nat):bf l (k+1)=((l.getD k zc).1 == 2):=by unfold bf;rw [if_neg (by omega)];rfl
theorem gU(l:List Cl)(k:Nat)(hk:k<l.length):aL (bf l k) (l.drop k)=(cm l k && aL (bf l (k+1)) (l.drop (k+1))):=by
 rw [List.drop_eq_getElem_cons hk,cn];unfold cm;have e:l.getD k zc=l[k]:=by simp [List.getD,List.getElem?_eq_getElem hk]
 rw [e]
 rfl
theorem gh{α:Type}(l:List α)(d:α)(k:Nat)(h:l.length<=k):l.getD k d=d:=by simp [List.getD,List.getElem?_eq_none h]
theorem ef(l:List Cl):aI l=c8 l l.length:=by
 have key:∀ n,n<=l.length->((∀ k,k<n->cm l k=true)/\bf l n=false↔(∀ k,k<n->cW l k=true)/\(0<n->n<l.length->(l.getD n zc).1≠3->True)/\(∀ k,k<n->True)/\(bf l n=false))\/True:=fun _ _=>.inr trivial
 clear key
 -- by induction: all places up tz9 n are sound just if all are so,but for what a lead at n - 1 awaits
 have ind:∀ n,n<=l.length->((∀ k,k<n->cm l k=true)↔(∀ k,k<n->am (l.getD k zc)=true)/\(∀ k,k+1<n->((l.getD k zc).1 == 2)=((l.getD (k+1) zc).1 == 3))/\(0<n->((l.getD 0 zc).1 == 3)=false)):=by
  intro n hn
  induction n with
  |zero=>simp
  |succ n ih =>
   have ih:=ih (by omega);constructor
   ·intro h;obtain ⟨h1,h2,h3⟩:=ih.1 fun k hk=>h k (by omega)
    have ol:=h n (by omega);unfold cm at ol;simp only [Bool.and_eq_true,beq_iff_eq] at ol;refine ⟨fun k hk=>?_,fun k hk=>?_,fun _=>?_⟩
    ·rcases Nat.lt_or_ge k n with h4 | h4
     ·exact h1 k h4
     ·obtain rfl:k=n:=by omega
      exact ol.1
    ·rcases Nat.lt_or_ge (k+1) n with h4 | h4
     ·exact h2 k h4
     ·obtain rfl:n=k+1:=by omega
      rw [<-cn];exact ol.2
    ·rcases Nat.eq_zero_or_pos n with h4 | h4
     ·subst h4;have:=ol.2;unfold bf at this;rw [if_pos rfl] at this;exact this.symm
     ·exact h3 h4
   ·rintro ⟨h1,h2,h3⟩ k hk
    rcases Nat.lt_or_ge k n with h4 | h4
    ·exact (ih.2 ⟨fun k hk=>h1 k (by omega),fun k hk=>h2 k (by omega),fun h=>h3 (by omega)⟩) k h4
    ·obtain rfl:k=n:=by omega
     unfold cm;rw [h1 k (by omega)];simp only [Bool.true_and,beq_iff_eq]
     cases k with
     |zero=>unfold bf;rw [if_pos rfl,h3 (by omega)]
     |succ k=>rw [cn];exact h2 k (by omega)
 have hs:aI l=true↔(∀ k,k<l.length->cm l k=true)/\bf l l.length=false:=by
  have step:∀ m k,l.length - k=m->k<=l.length->(aL (bf l k) (l.drop k)=true↔(∀ j,k<=j->j<l.length->cm l j=true)/\bf l l.length=false):=by
   intro m
   induction m with
   |zero =>
    intro k hm hk;obtain rfl:k=l.length:=by omega
    rw [List.drop_length];unfold aL;constructor
    ·intro h;exact ⟨fun j h1 h2=>by omega,by simpa using h⟩
    ·rintro ⟨_,h⟩;simpa using h
   |succ m ih =>
    intro k hm hk;rw [gU l k (by omega),Bool.and_eq_true,ih (k+1) (by omega) (by omega)];constructor
    ·rintro ⟨h1,h2,h3⟩;refine ⟨fun j h4 h5=>?_,h3⟩
     rcases Nat.eq_or_lt_of_le h4 with h6 | h6
     ·subst h6;exact h1
     ·exact h2 j h6 h5
    ·rintro ⟨h1,h2⟩;exact ⟨h1 k (Nat.le_refl _) (by omega),fun j h3 h4=>h1 j (by omega) h4,h2⟩
  have:=step l.length 0 (by omega) (Nat.zero_le _);rw [show aI l=aL (bf l 0) (l.drop 0) from rfl,this];constructor
  ·rintro ⟨h1,h2⟩;exact ⟨fun k hk=>h1 k (Nat.zero_le _) hk,h2⟩
  ·rintro ⟨h1,h2⟩;exact ⟨fun k _ hk=>h1 k hk,h2⟩
 have hr:c8 l l.length=true↔∀ k,k<l.length->cW l k=true:=by
  constructor
  ·intro h k hk;exact jk hk h
  ·intro h;unfold c8;rw [List.all_eq_true];intro k hk;exact h k (List.mem_range.1 hk)
 have v9:∀ k:Nat,aG l ((k:Int)+1)=(l.getD (k+1) zc).1:=fun k=>by
  unfold aG;rw [if_neg (by omega),show ((k:Int)+1).toNat=k+1 by omega]
 have hk2:∀ k:Nat,aG l ((k:Int) - 1)=if k=0 then 0 else (l.getD (k - 1) zc).1:=fun k=>by
  unfold aG
  by_cases h:k=0
  ·subst h;rfl
  ·rw [if_neg (by omega),if_neg h,show ((k:Int) - 1).toNat=k - 1 by omega]
 rw [Bool.eq_iff_iff,hs,hr,ind l.length (Nat.le_refl _)];constructor
 ·rintro ⟨⟨h1,h2,h3⟩,h4⟩ k hk;unfold cW;rw [h1 k hk,v9,hk2];simp only [Bool.true_and,Bool.and_eq_true,Bool.not_eq_true',Bool.and_eq_false_iff,bne_eq_false_iff_eq,beq_eq_false_iff_ne];refine ⟨?_,?_⟩
  ·by_cases h5:(l.getD k zc).1=2
   ·right
    rcases Nat.lt_or_ge (k+1) l.length with h6 | h6
    ·have:=h2 k h6;rw [h5] at this
     simpa using this.symm
    ·exfalso;have h7:bf l (k+1)=true:=by rw [cn,h5];rfl
     rw [show k+1=l.length by omega,h4] at h7
     cases h7
   ·exact .inl h5
  ·by_cases h5:(l.getD k zc).1=3
   ·right
    cases k with
    |zero =>
     have:=h3 hk;rw [h5] at this
     cases this
    |succ k =>
     have:=h2 k hk;rw [h5] at this;rw [if_neg (by omega)]
     simpa using this
   ·exact .inl h5
 ·intro h;have hx:∀ k,k<l.length->am (l.getD k zc)=true/\((l.getD k zc).1=2->(l.getD (k+1) zc).1=3)/\((l.getD k zc).1=3->k≠0/\(l.getD (k - 1) zc).1=2):=by
   intro k hk;have h1:=h k hk;unfold cW at h1;rw [v9,hk2] at h1;simp only [Bool.and_eq_true,Bool.not_eq_true',Bool.and_eq_false_iff,bne_eq_false_iff_eq,beq_eq_false_iff_ne] at h1;obtain ⟨⟨h1,h2⟩,h3⟩:=h1;refine ⟨h1,fun h4=>?_,fun h4=>?_⟩
   ·rcases h2 with h2 | h2
    ·exact absurd h4 h2
    ·exact h2
   ·rcases h3 with h3 | h3
    ·exact absurd h4 h3
    ·split at h3
     ·cases h3
     ·exact ⟨by assumption,h3⟩
  refine ⟨⟨fun k hk=>(hx k hk).1,fun k hk=>?_,fun h0=>?_⟩,?_⟩
  ·rw [Bool.eq_iff_iff,beq_iff_eq,beq_iff_eq];exact ⟨(hx k (by omega)).2.1,fun h4=>((hx (k+1) hk).2.2 h4).2⟩
  ·rw [beq_eq_false_iff_ne];intro h4;exact ((hx 0 h0).2.2 h4).1 rfl
  ·unfold bf
   split
   ·rfl
   ·rename_i hne
    rw [beq_eq_false_iff_ne];intro h4;have h5:=(hx (l.length - 1) (by omega)).2.1 h4;rw [show l.length - 1+1=l.length by omega,gh _ _ _ (Nat.le_refl _)] at h5
    cases h5
def et(a b:List Cl):Bool:=decide (a=b)
def cellE:Elem Cl:=prE (a8 .i64) (slE (a8 .i32))
abbrev lL:Elem (List Cl):=slE cellE
theorem cell_rep{Z:an}{w:World}{C:List Value}{x:Cl}:cellE.rep Z w C x↔∃ tv,C=[.int .i64 x.1,tv]/\HeldE (a8 .i32) Z w tv x.2:=by
 constructor
 ·rintro ⟨C1,C2,rfl,rfl,tv,rfl,h⟩;exact ⟨tv,rfl,h⟩
 ·rintro ⟨tv,rfl,h⟩;exact ⟨[_],[tv],rfl,rfl,tv,rfl,h⟩
theorem aW{Z:an}{w:World}{ao:Option Addr}{n cap:Nat}{L:List Cl}(h:HeldE cellE Z w (.slice ao n cap) L):n=L.length/\n<=cap/\∀ i,i<L.length->∃ b off tv,ao=some ⟨b,off,none⟩/\b<w.heap.size/\Z b /\
  w.cell? ⟨b,off+i * 2,none⟩=some (.int .i64 (L.getD i zc).1)/\w.cell? ⟨b,off+i * 2+1,none⟩=some tv/\HeldE (a8 .i32) Z w tv (L.getD i zc).2:=by
 obtain ⟨h1,h2,h3⟩:=h.spots;refine ⟨h1,h2,fun i hi=>?_⟩;obtain ⟨b,off,rfl,hb,hz,C,hC,hr⟩:=h3 i hi;obtain ⟨tv,rfl,ht⟩:=cell_rep.1 hr;exact ⟨b,off,tv,rfl,hb,hz,hC 0 (by decide),hC 1 (by decide),ht⟩
theorem ee:(Tryd.prog.info? 85).map (fun i=>(i.zero,i.size,i.bytes))=some (some (.agg #[.int .i64 0,.slice none 0 0]),cellE.size,32):=by kernel_rfl
theorem kK{a b:List Cl}(hl:b.length=a.length)(h:∀ j,j<a.length->a.getD j zc=b.getD j zc):et a b=true:=by
 unfold et;rw [decide_eq_true_eq]
 apply List.ext_getElem hl.symm
 intro i h1 h2;have:=h i h1
 simpa [List.getD,List.getElem?_eq_getElem h1,List.getElem?_eq_getElem h2] using this
theorem jJ{a b:List Cl}(j:Nat)(h:a.getD j zc≠b.getD j zc):et a b=false:=by
 unfold et;rw [decide_eq_false_iff_not];rintro rfl;exact h rfl
theorem jK{a b:List Cl}(h:¬ b.length=a.length):et a b=false:=by
 unfold et;rw [decide_eq_false_iff_not];rintro rfl;exact h rfl
def AlikeC(a b:List Cl)(k:Nat):Prop:=∀ j,j<k->a.getD j zc=b.getD j zc
theorem AlikeC.next{a b:List Cl}{k:Nat}(h:AlikeC a b k)(e:a.getD k zc=b.getD k zc):AlikeC a b (k+1):=by
 intro j hj
 by_cases h2:j=k
 ·subst h2;exact e
 ·exact h j (by omega)
theorem dE(L:List Cl):aI L=true↔∀ i,i<L.length->am (L.getD i zc)=true/\((L.getD i zc).1=2->(L.getD (i+1) zc).1=3)/\((L.getD i zc).1=3->0<i/\(L.getD (i - 1) zc).1=2):=by
 have v9:∀ k:Nat,aG L ((k:Int)+1)=(L.getD (k+1) zc).1:=fun k=>by
  unfold aG;rw [if_neg (by omega),show ((k:Int)+1).toNat=k+1 by omega]
 have hk2:∀ k:Nat,aG L ((k:Int) - 1)=if k=0 then 0 else (L.getD (k - 1) zc).1:=fun k=>by
  unfold aG
  by_cases h:k=0
  ·subst h;rfl
  ·rw [if_neg (by omega),if_neg h,show ((k:Int) - 1).toNat=k - 1 by omega]
 have one:∀ i,cW L i=true↔am (L.getD i zc)=true/\((L.getD i zc).1=2->(L.getD (i+1) zc).1=3)/\((L.getD i zc).1=3->0<i/\(L.getD (i - 1) zc).1=2):=by
  intro i;unfold cW;rw [v9,hk2];simp only [Bool.and_eq_true,Bool.not_eq_true',Bool.and_eq_false_iff,bne_eq_false_iff_eq,beq_eq_false_iff_ne];constructor
  ·rintro ⟨⟨h1,h2⟩,h3⟩;refine ⟨h1,fun h=>?_,fun h=>?_⟩
   ·rcases h2 with h2 | h2
    ·exact absurd h h2
    ·exact h2
   ·rcases h3 with h3 | h3
    ·exact absurd h h3
    ·split at h3
     ·cases h3
     ·exact ⟨by omega,h3⟩
  ·rintro ⟨h1,h2,h3⟩;refine ⟨⟨h1,?_⟩,?_⟩
   ·by_cases h:(L.getD i zc).1=2
    ·exact .inr (h2 h)
    ·exact .inl h
   ·by_cases h:(L.getD i zc).1=3
    ·obtain ⟨h4,h5⟩:=h3 h;rw [if_neg (by omega)];exact .inr h5
    ·exact .inl h
 rw [ef];constructor
 ·intro h i hi;exact (one i).1 (jk hi h)
 ·intro h;unfold c8;rw [List.all_eq_true];intro i hi;exact (one i).2 (h i (List.mem_range.1 hi))
def inP(a m i:Nat):Prop:=a<=i/\i<a+m
instance (a m i:Nat):Decidable (inP a m i):=by unfold inP;infer_instance
def lE(L:List Cl)(a m i:Nat):Prop:=((L.getD i zc).1=2/\inP a m (i+1))\/((L.getD i zc).1=3/\0<i/\inP a m (i - 1))
instance (L:List Cl) (a m i:Nat):Decidable (lE L a m i):=by unfold lE;infer_instance
theorem fd:∀ (L:List Cl) (lead:Bool) (k:Nat),aL lead L=true->(k≠0\/lead=false)->(L.getD k zc).1≠3->aL lead (L.take k)=true/\aL false (L.drop k)=true
 |[],lead,k,h,_,_=>by
  have:lead=false:=by unfold aL at h;simpa using h
  subst this
  simp [aL]
 |c :: L,lead,0,h,hk,_=>by
  rcases hk with hk | hk
  ·exact absurd rfl hk
  ·subst hk;exact ⟨by simp [aL],by simpa using h⟩
 |c :: L,lead,k+1,h,_,h3=>by
  unfold aL at h;simp only [Bool.and_eq_true] at h;rw [List.take_succ_cons,List.drop_succ_cons];have wJ:(L.getD k zc).1≠3:=by simpa using h3
  have hz:k≠0\/(c.1 == 2)=false:=by
   rcases Nat.eq_zero_or_pos k with rfl | hp
   ·right
    cases L with
    |nil=>have:=h.2;unfold aL at this;simpa using this
    |cons d L =>
     have:=h.2;unfold aL at this;simp only [Bool.and_eq_true,beq_iff_eq] at this;have e:=this.1.2;have e3:(d.1 == 3)=false:=by rw [beq_eq_false_iff_ne];simpa using wJ
     rw [e,e3]
   ·left;omega
  obtain ⟨h4,h5⟩:=fd L (c.1 == 2) k h.2 hz wJ;refine ⟨?_,h5⟩;unfold aL;simp only [Bool.and_eq_true];exact ⟨h.1,h4⟩
theorem jX{L:List Cl}(h:aI L=true)(k:Nat)(h3:(L.getD k zc).1≠3):aI (L.take k)=true/\aI (L.drop k)=true:=fd L false k h (.inr rfl) h3
theorem jY{α:Type}(l:List α)(d:α)(k i:Nat):(l.take k).getD i d=if i<k then l.getD i d else d:=by
 simp only [List.getD,List.getElem?_take]
 split <;> rfl
theorem jZ{α:Type}(l:List α)(d:α)(k i:Nat):(l.drop k).getD i d=l.getD (k+i) d:=by
 simp only [List.getD,List.getElem?_drop]
theorem j0(n i:Nat):(List.replicate n zc).getD i zc=zc:=by
 simp only [List.getD,List.getElem?_replicate]
 split <;> rfl
theorem kP{α:Type}(d:α){a b:List α}(hl:a.length=b.length)(h:∀ i,i<a.length->a.getD i d=b.getD i d):a=b:=by
 apply List.ext_getElem?
 intro i
 by_cases hi:i<a.length
 ·have:=h i hi;simp only [List.getD,List.getElem?_eq_getElem hi,List.getElem?_eq_getElem (show i<b.length by omega),Option.getD_some] at this;rw [List.getElem?_eq_getElem hi,List.getElem?_eq_getElem (show i<b.length by omega),this]
 ·rw [List.getElem?_eq_none (by omega),List.getElem?_eq_none (by omega)]
theorem lN(xs:List Int)(lead:Int)(f m:Nat):m<=goF xs lead f m:=by
 induction f generalizing m with
 |zero=>exact Nat.le_refl _
 |succ f ih =>
  unfold goF
  split
  ·have:=ih (m+1);omega
  ·exact Nat.le_refl _
def dd(xs:List Int)(p:Nat):Nat:=if al (xs.getD p 0)=0 then 1 else bi (xs.drop p) (al (xs.getD p 0))
theorem de(xs:List Int)(p:Nat):1<=dd xs p:=by
 unfold dd
 split
 ·exact Nat.le_refl _
 ·exact lN _ _ _ _
theorem gu(xs:List Int)(p:Nat)(hp:p<xs.length):p+dd xs p<=xs.length:=by
 unfold dd
 split
 ·omega
 ·have:=gy (xs.drop p) (al (xs.getD p 0)) (by simp;omega);rw [List.length_drop] at this;omega
theorem fR(xs:List Int)(p:Nat):(bD xs p).2.2.1=dd xs p:=by
 unfold bD dd
 split
 ·rfl
 ·split <;> rfl
def aK(xs:List Int):Nat->Nat
 | 0=>0
 | k+1=>aK xs k+dd xs (aK xs k)
def cg(xs:List Int):Nat->List G5
 | 0=>[]
 | k+1=>cg xs k++[bD xs (aK xs k)]
theorem dG(xs:List Int)(k:Nat):(cg xs k).length=k:=by
 induction k with
 | zero=>rfl
 | succ k ih=>simp [cg,ih]
theorem gx(xs:List Int){j k:Nat}(h:j<k):aK xs j<aK xs k:=by
 induction k with
 |zero=>omega
 |succ k ih =>
  have h1:=de xs (aK xs k);show aK xs j<aK xs k+dd xs (aK xs k)
  rcases Nat.lt_or_ge j k with h | h
  ·have:=ih h;omega
  ·have:j=k:=by omega
   subst this;omega
theorem ik(xs:List Int){j k:Nat}(h:aK xs j=aK xs k):j=k:=by
 rcases Nat.lt_trichotomy j k with h1 | h1 | h1
 ·have:=gx xs h1;omega
 ·exact h1
 ·have:=gx xs h1;omega
theorem lp(xs:List Int)(k:Nat):k<=aK xs k:=by
 induction k with
 | zero=>exact Nat.zero_le _
 | succ k ih=>have:=de xs (aK xs k);show k+1<=aK xs k+dd xs (aK xs k);omega
theorem jT(xs:List Int)(k i:Nat)(h:i<k):(cg xs k)[i]? = some (bD xs (aK xs i)):=by
 induction k with
 |zero=>omega
 |succ k ih =>
  unfold cg
  rcases Nat.lt_or_ge i k with h1 | h1
  ·rw [List.getElem?_append_left (by rw [dG];exact h1)];exact ih h1
  ·have:i=k:=by omega
   subst this;rw [List.getElem?_append_right (by rw [dG];exact Nat.le_refl _),dG];simp
theorem dF{P:Program}(w0:World){ops:Array Oper}{rest:List Oper}{o:Oper}{a:Act}{Q:Exit->Act->World->Prop}(hgd:o.guard=none)(s x:Operand)(t:TypeId)
  (ho:o.op=.call { callee:=.builtin .append,args:=#[s,x],argTypes:=#[t,t] })
  (base:Nat) (e:TypeId) (z:Value) (size bytes:Nat) (ht:P.underlying t=some (.slice e)) (mX:(P.info? e).map (fun i=>(i.zero,i.size,i.bytes))=some (some z,size,bytes)) (hzs:z.cells.size=size) (hsz:0<size)
  (v:Value) (n:Nat) (xs:List Value) (hs:a.eval s=v) (hown:w0.ownsRow base e size v n xs)
  (C:List Value) (m c N:Nat) (hN:w0.heap.size=N) (hx:a.eval x=.slice (some ⟨N,0,none⟩) m c) (hl:C.length=m * size) (h1:∀ u ∈ C,u.oneCell'=true)
  (hbytes:(n+m) * bytes<=140737488355328) (hb0:n+m<=140737488355328) (hbase:base<=w0.heap.size)
  (h:∀ v' w',w'.ownsRow base e size v' (n+m) (xs++C)->Below base w0 w'->(∀ g,g<w0.heap.size->v.ownBlock≠some g->w'.heap[g]? = w0.heap[g]?)->wpList P ops Q rest (a.put o.dst v') w') :
  wpList P ops Q (o :: rest) a (w0.alloc (.cells C.toArray e)):=by
 subst hN;obtain ⟨i0,hi,hz0,hz1,hz2⟩:=info_parts mX;refine wpList_append_own _ hgd s x t ho base e i0 z size bytes ht hi hz0 hz1 hz2 hzs hsz v n xs hs (hown.alloc _) ⟨w0.heap.size,0,none⟩ m c C hx (by omega) (eh w0 C e) h1 (by unfold maxLen;omega) hbytes (by simp;omega) ?_;intro v' w' hown' hgrow _;refine h v' w' hown' (((Below.refl base w0).alloc hbase _).grown hgrow (by simp;omega) fun k hk=>((hown.alloc (.cells C.toArray e)).lt k hk).1) fun g hg hne=>?_
 exact (hgrow.block g (by simp;omega) (fun e=>hne e.symm)).trans ((l7 w0 (.cells C.toArray e)).block g hg)
theorem lw(xs:List Int)(lead:Int)(f m:Nat):∀ j,m<=j->j<goF xs lead f m->okB xs j=true:=by
 induction f generalizing m with
 |zero=>intro j h1 h2;have:goF xs lead 0 m=m:=rfl;omega
 |succ f ih =>
  intro j h1 h2;unfold goF at h2
  split at h2
  ·rename_i h
   rcases Nat.lt_or_ge m j with h3 | h3
   ·exact ih (m+1) j h3 h2
   ·have:j=m:=by omega
    subst this;exact h.2.2
  ·omega
theorem gz{xs:List Int}(h:okB xs 1=true):lo2 (xs.getD 0 0)<=xs.getD 1 0/\xs.getD 1 0<=hi2 (xs.getD 0 0)/\128<=xs.getD 1 0/\xs.getD 1 0<=191:=by
 unfold okB at h;simp only [Bool.and_eq_true,Bool.or_eq_true,decide_eq_true_eq,bne_self_eq_false,Bool.false_eq_true,false_or,fa] at h;exact ⟨h.1.1,h.1.2,h.2.1,h.2.2⟩
theorem fb{xs:List Int}{m:Nat}(h:okB xs m=true):128<=xs.getD m 0/\xs.getD m 0<=191:=by
 unfold okB at h;simp only [Bool.and_eq_true,fa] at h;exact h.2
theorem lW(a:Int)(h0:0<=a)(h:al a=1):aj (aN a)=[a]:=by
 have h1:a<=127:=by unfold al at h;omega
 have hb:aN a=a:=by unfold aN;rw [h];simp
 rw [hb];have hv:ai a=true:=validB_true.2 (by omega);unfold aj;rw [hv,if_neg (by simp),if_pos (by omega)]
theorem lX(a b:Int)(h:al a=2)(h1:128<=b)(h2:b<=191):aj (aN a * 64+b % 64)=[a,b]:=by
 have ha:194<=a/\a<=223:=by unfold al at h;omega
 have hb:aN a=a - 192:=by unfold aN;rw [h];simp;omega
 rw [hb];have hv:ai ((a - 192) * 64+b % 64)=true:=validB_true.2 (by omega);unfold aj;rw [hv,if_neg (by simp),if_neg (by omega),if_pos (by omega)];rw [show 192+((a - 192) * 64+b % 64) / 64=a by omega,show 128+((a - 192) * 64+b % 64) % 64=b by omega]
theorem lY(a b c:Int)(h:al a=3)(l:lo2 a<=b)(u:b<=hi2 a)(h1:128<=b)(h2:b<=191)(h3:128<=c)(h4:c<=191):aj ((aN a * 64+b % 64) * 64+c % 64)=[a,b,c]:=by
 have ha:224<=a/\a<=239:=by unfold al at h;omega
 have hb:aN a=a - 224:=by unfold aN;rw [h];simp;omega
 rw [hb];unfold lo2 at l;unfold hi2 at u;have hv:ai (((a - 224) * 64+b % 64) * 64+c % 64)=true:=validB_true.2 (by omega);unfold aj;rw [hv,if_neg (by simp),if_neg (by omega),if_neg (by omega),if_pos (by omega)];rw [show 224+(((a - 224) * 64+b % 64) * 64+c % 64) / 4096=a by omega,show 128+(((a - 224) * 64+b % 64) * 64+c % 64) / 64 % 64=b by omega,show 128+(((a - 224) * 64+b % 64) * 64+c % 64) % 64=c by omega]
theorem lZ(a b c d:Int)(h:al a=4)(l:lo2 a<=b)(u:b<=hi2 a)(h1:128<=b)(h2:b<=191)(h3:128<=c)(h4:c<=191)(h5:128<=d)(h6:d<=191):aj (((aN a * 64+b % 64) * 64+c % 64) * 64+d % 64)=[a,b,c,d]:=by
 have ha:240<=a/\a<=244:=by unfold al at h;omega
 have hb:aN a=a - 240:=by unfold aN;rw [h];simp;omega
 rw [hb];unfold lo2 at l;unfold hi2 at u;have hv:ai ((((a - 240) * 64+b % 64) * 64+c % 64) * 64+d % 64)=true:=validB_true.2 (by omega);unfold aj;rw [hv,if_neg (by simp),if_neg (by omega),if_neg (by omega),if_neg (by omega)];rw [show 240+((((a - 240) * 64+b % 64) * 64+c % 64) * 64+d % 64) / 262144=a by omega,show 128+((((a - 240) * 64+b % 64) * 64+c % 64) * 64+d % 64) / 4096 % 64=b by omega,show 128+((((a - 240) * 64+b % 64) * 64+c % 64) * 64+d % 64) / 64 % 64=c by omega,show 128+((((a - 240) * 64+b % 64) * 64+c % 64) * 64+d % 64) % 64=d by omega]
theorem lx(ys:List Int)(n:Nat)(hn:bi ys (al (ys.getD 0 0))=n)(hl:(n:Int)=al (ys.getD 0 0))(h0:0<ys.length)(hr:0<=ys.getD 0 0):aj (cX (ys.take n) (n - 1))=ys.take n:=by
 have hall:=lw ys (al (ys.getD 0 0)) 4 1;have hle:=gy ys (al (ys.getD 0 0)) h0;rw [show goF ys (al (ys.getD 0 0)) 4 1=bi ys (al (ys.getD 0 0)) from rfl,hn] at hall;rw [hn] at hle;have hb4:al (ys.getD 0 0)<=4:=by unfold al;omega
 obtain ⟨a,ys,rfl⟩ : ∃ a t,ys=a :: t:=by cases ys with | nil=>simp at h0 | cons a t=>exact ⟨a,t,rfl⟩
 have hl:(n:Int)=al a:=hl;have hb4:al a<=4:=hb4
 rcases (by omega:n=1\/n=2\/n=3\/n=4) with rfl | rfl | rfl | rfl
 ·exact lW a hr hl.symm
 ·obtain ⟨b,ys,rfl⟩ : ∃ b t,ys=b :: t:=by cases ys with | nil=>simp at hle | cons a t=>exact ⟨a,t,rfl⟩
  have k1:=gz (hall 1 (by omega) (by omega));exact lX a b hl.symm k1.2.2.1 k1.2.2.2
 ·obtain ⟨b,c,ys,rfl⟩ : ∃ b c t,ys=b :: c :: t:=by
   match ys,hle with
   | [],hle=>simp at hle
   | [_],hle=>simp at hle
   | b :: c :: t,_=>exact ⟨b,c,t,rfl⟩
  have k1:=gz (hall 1 (by omega) (by omega));have k2:=fb (hall 2 (by omega) (by omega));exact lY a b c hl.symm k1.1 k1.2.1 k1.2.2.1 k1.2.2.2 k2.1 k2.2
 ·obtain ⟨b,c,d,ys,rfl⟩ : ∃ b c d t,ys=b :: c :: d :: t:=by
   match ys,hle with
   | [],hle=>simp at hle
   | [_],hle=>simp at hle
   | [_,_],hle=>simp at hle
   | b :: c :: d :: t,_=>exact ⟨b,c,d,t,rfl⟩
  have k1:=gz (hall 1 (by omega) (by omega));have k2:=fb (hall 2 (by omega) (by omega));have k3:=fb (hall 3 (by omega) (by omega));exact lZ a b c d hl.symm k1.1 k1.2.1 k1.2.2.1 k1.2.2.2 k2.1 k2.2 k3.1 k3.2
def dc(xs:List Int)(k:Nat):List Int:=(cg xs k).map (·.1)
theorem fQ(xs:List Int)(k:Nat):dc xs (k+1)=dc xs k++[(bD xs (aK xs k)).1]:=by
 unfold dc;rw [show cg xs (k+1)=cg xs k++[bD xs (aK xs k)] from rfl,List.map_append]
 rfl
theorem Tryd.info21u:(Tryd.prog.info? 21).map (fun i=>(i.zero,i.size,i.bytes))=some (some (.int .i32 0),1,4):=by kernel_rfl
def ln(w:World)(xs:List Int)(e:Ending)(w':World):Prop:=∃ k v',e=.returned v'/\aK xs k=xs.length/\w'.ownsRow w.heap.size 21 1 v' k ((dc xs k).map (Value.int .i32))/\Below w.heap.size w w'
theorem iU(v:Value)(xs:List Int)(w:World)(hv:Held .u8 w v xs)(pf:fS v)(hm:xs.length<=1000000)(hr:∀ i,i<xs.length->0<=xs.getD i 0/\xs.getD i 0<=255) :
  Calls Tryd.prog 112 #[v] w (ln w xs):=by
 obtain ⟨ao,cap,rfl,_⟩:=id hv.view;have HV:=aa hv;have HC:=aa pf;have HR:=aa hr;clear hv pf hr
 go_enter Tryd.func112,Tryd.ntmps112
 go_wp2
 go_loopw [3,4] (fun l p wr=>∃ k q:Nat,aK xs k=q/\k<=q/\q<=xs.length/\p=.int .i64 q/\wr.ownsRow w.heap.size 21 1 l k ((dc xs k).map (Value.int .i32))/\Below w.heap.size w wr) (fun _ p _=>xs.length - (intOf p).toNat)
 case atStart=>exact ⟨0,0,rfl,Nat.zero_le _,Nat.zero_le _,rfl,World.ownsRow_nil _ _ _ _,Below.refl _ _⟩
 case round =>
  obtain ⟨k,q,hq,hkq,yc,rfl,hown,mP⟩:=hrel
  by_cases hlt:q<xs.length
  ·have rV:=fQ xs k;have uC:aK xs (k+1)=q+dd xs q:=by show aK xs k+_=_;rw [hq]
   have oP:=fR xs q;have hle:=gu xs q hlt;have wP:=de xs q;rw [hq] at rV;have rJ:=aa rV;have uO:=aa uC;have HOW:=aa hown;clear rV uC hown hq
   go_wp2_with fail
   refine (io _ xs q _ (HV.out.below mP) HC.out hlt (by omega) HR.out).mono ?_;rintro e w1 ⟨rfl,b1⟩;obtain ⟨G,hG⟩:=ab (bD xs q);rw [<-hG] at rJ oP ⊢;obtain ⟨n,hn⟩:=ab (dd xs q);rw [<-hn] at uO oP hle wP;clear hG hn;obtain ⟨r,a,l,kn,bd⟩:=G;have oP:l=n:=oP;subst oP;rw [show lO (r,a,(n:Int),kn,bd)=.agg #[.int .i32 r,.int .i64 a,.int .i64 n,.int .i64 kn,.bool bd] from rfl];have hown1:=bI HOW.out b1;have hb1:=mP.trans (b1.mono mP.size);clear b1;have hg0:=(Has.new w1 [Value.int .i32 r,.int .i64 a,.int .i64 n,.int .i64 kn,.bool bd] 177);have hown2:=hown1.alloc (.cells [Value.int .i32 r,.int .i64 a,.int .i64 n,.int .i64 kn,.bool bd].toArray 177);have uu:u3.ownBlock≠some w1.heap.size:=fun e=>by have:=(hown1.lt _ e).2;omega
   have hb2:=hb1.alloc hb1.size (.cells [Value.int .i32 r,.int .i64 a,.int .i64 n,.int .i64 kn,.bool bd].toArray 177);have hsz:(w1.alloc (.cells [Value.int .i32 r,.int .i64 a,.int .i64 n,.int .i64 kn,.bool bd].toArray 177)).heap.size=w1.heap.size+1:=by simp
   clear hown1
   go_wp2_with (at_builtin;refine dF (w1.alloc (.cells [Value.int .i32 r,.int .i64 a,.int .i64 n,.int .i64 kn,.bool bd].toArray 177)) rfl (.tmp 13) (.tmp 16) 25 rfl w.heap.size 21 (.int .i32 0) 1 4 Tryd.underlying25 Tryd.info21u rfl (by decide) u3 k ((dc xs k).map (Value.int .i32)) rfl hown2 [.int .i32 r] 1 1 (w1.heap.size+1) hsz rfl rfl (by intro u hu;simp at hu;rcases hu with rfl <;> rfl) (by omega) (by omega) hb2.size ?_)
   intro v' w' hown' hb' hkp;have hg2:Has w' w1.heap.size [Value.int .i32 r,.int .i64 a,.int .i64 n,.int .i64 kn,.bool bd] 177:=(hkp _ (by simp) uu).trans hg0;have c2:=hg2.cell 2 _ rfl;have m4:w'.ownsRow w.heap.size 21 1 v' (k+1) ((dc xs (k+1)).map (Value.int .i32)):=by rw [rJ.out,List.map_append];exact hown'
   have hb3:=hb2.trans hb';clear hown' hown2 hb' hb2 hb1 hkp hg0 hg2 hsz uu rJ;go_wp2
   go_roundw
   case rel=>exact ⟨k+1,q+n,uO.out,by omega,by omega,by go_num,m4,hb3⟩
   case measure=>simp [intOf] <;> omega
  ·have xf:q=xs.length:=by omega
   subst xf;go_wp2;go_ret;exact ⟨k,_,rfl,hq,hown,mP⟩
def bh(xs:List Int)(k:Nat):Bool:=(cg xs k).any (·.2.2.2.2)
theorem ez(xs:List Int)(k:Nat):bh xs (k+1)=(bh xs k || (bD xs (aK xs k)).2.2.2.2):=by
 unfold bh;rw [show cg xs (k+1)=cg xs k++[bD xs (aK xs k)] from rfl,List.any_append]
 simp
theorem jS(xs:List Int){j k:Nat}(h:j<k)(hb:(bD xs (aK xs j)).2.2.2.2=true):bh xs k=true:=by
 unfold bh;rw [List.any_eq_true];exact ⟨_,List.mem_of_getElem? (jT xs k j h),hb⟩
theorem iV(v:Value)(xs:List Int)(K:Nat)(hK:aK xs K=xs.length)(w:World)(hv:Held .u8 w v xs)(pf:fS v)(hm:xs.length<=1000000)(hr:∀ i,i<xs.length->0<=xs.getD i 0/\xs.getD i 0<=255) :
  Calls Tryd.prog 111 #[v] w (Gives w (.bool (!bh xs K))):=by
 obtain ⟨ao,cap,rfl,_⟩:=id hv.view;have HV:=aa hv;have HC:=aa pf;have HR:=aa hr;have HK:=aa hK;clear hv pf hr hK
 go_enter Tryd.func111,Tryd.ntmps111
 go_wp2
 go_loopw [3] (fun p wr=>∃ k q:Nat,aK xs k=q/\q<=xs.length/\p=.int .i64 q/\Hid (bh xs k=false)/\Below w.heap.size w wr) (fun p _=>xs.length - (intOf p).toNat)
 case atStart=>exact ⟨0,0,rfl,Nat.zero_le _,rfl,aa rfl,Below.refl _ _⟩
 case round =>
  obtain ⟨k,q,hq,yc,rfl,o4,mP⟩:=hrel
  by_cases hlt:q<xs.length
  ·have rV:=ez xs k;have uC:aK xs (k+1)=q+dd xs q:=by show aK xs k+_=_;rw [hq]
   have wR:k<K:=by
    rcases Nat.lt_or_ge k K with h | h
    ·exact h
    ·exfalso
     rcases Nat.lt_or_ge K k with h2 | h2
     ·have:=gx xs h2;have:=HK.out;omega
     ·have:k=K:=by omega
      subst this;have:=HK.out;omega
   have xF:=fun h=>jS xs wR h
   have oP:=fR xs q;have hle:=gu xs q hlt;have wP:=de xs q;rw [hq] at rV xF;rw [o4.out] at rV;have rJ:=aa rV;have vS:=aa xF;have uO:=aa uC;clear rV uC hq xF o4
   go_wp2_with fail
   refine (io _ xs q _ (HV.out.below mP) HC.out hlt (by omega) HR.out).mono ?_;rintro e w1 ⟨rfl,b1⟩;obtain ⟨G,hG⟩:=ab (bD xs q);rw [<-hG] at rJ vS oP ⊢;obtain ⟨n,hn⟩:=ab (dd xs q);rw [<-hn] at uO oP hle wP;clear hG hn;obtain ⟨r,a,l,kn,bd⟩:=G;have oP:l=n:=oP;subst oP;rw [show lO (r,a,(n:Int),kn,bd)=.agg #[.int .i32 r,.int .i64 a,.int .i64 n,.int .i64 kn,.bool bd] from rfl];have hb1:=mP.trans (b1.mono mP.size);have hb2:=hb1.alloc hb1.size (.cells [Value.int .i32 r,.int .i64 a,.int .i64 n,.int .i64 kn,.bool bd].toArray 177);clear b1 hb1
   cases bd with
   |true =>
    have hF:(!bh xs K)=false:=by rw [vS.out rfl];rfl
    have HF:=aa hF;clear hF rJ vS;go_wp2;go_ret;exact ⟨aq (by rw [HF.out];try rfl),hb2⟩
   |false =>
    have hN:bh xs (k+1)=false:=rJ.out;have HN:=aa hN;clear hN rJ vS;go_wp2
    go_roundw
    case rel=>exact ⟨k+1,q+n,uO.out,by omega,by go_num,HN,hb2⟩
    case measure=>simp [intOf] <;> omega
  ·have xf:q=xs.length:=by omega
   subst xf;have wR:k=K:=ik xs (hq.trans HK.out.symm);subst wR;have hF:(!bh xs k)=true:=by rw [o4.out];rfl
   have HF:=aa hF;clear hF hq;go_wp2;go_ret;exact ⟨aq (by rw [HF.out];try rfl),mP⟩
theorem jQ{x r:Int}(hv:ai r=true)(h:aj x=aj r):x=r:=by
 have hr:=validB_true.1 hv;have hx:ai x=true:=by
  cases hq:ai x with
  |true=>rfl
  |false =>
   exfalso;unfold aj at h;rw [hq,hv] at h
   simp at h
   split at h <;> (try split at h) <;> (try split at h) <;> simp at h
 have hx':=validB_true.1 hx;unfold aj at h;rw [hx,hv] at h;simp only [Bool.true_eq_false,if_false] at h
 by_cases a1:x<128
 ·rw [if_pos a1] at h
  by_cases b1:r<128
  ·rw [if_pos b1] at h;simpa using h
  ·rw [if_neg b1] at h
   split at h <;> (try split at h) <;> simp at h
 ·rw [if_neg a1] at h
  by_cases a2:x<2048
  ·rw [if_pos a2] at h
   by_cases b1:r<128
   ·rw [if_pos b1] at h;simp at h
   ·rw [if_neg b1] at h
    by_cases b2:r<2048
    ·rw [if_pos b2] at h;simp at h;omega
    ·rw [if_neg b2] at h
     split at h <;> simp at h
  ·rw [if_neg a2] at h
   by_cases a3:x<65536
   ·rw [if_pos a3] at h
    by_cases b1:r<128
    ·rw [if_pos b1] at h;simp at h
    ·rw [if_neg b1] at h
     by_cases b2:r<2048
     ·rw [if_pos b2] at h;simp at h
     ·rw [if_neg b2] at h
      by_cases b3:r<65536
      ·rw [if_pos b3] at h;simp at h;omega
      ·rw [if_neg b3] at h;simp at h
   ·rw [if_neg a3] at h
    by_cases b1:r<128
    ·rw [if_pos b1] at h;simp at h
    ·rw [if_neg b1] at h
     by_cases b2:r<2048
     ·rw [if_pos b2] at h;simp at h
     ·rw [if_neg b2] at h
      by_cases b3:r<65536
      ·rw [if_pos b3] at h;simp at h
      ·rw [if_neg b3] at h;simp at h;omega
theorem ig(ys:List Int)(n:Nat):∀ (f m:Nat),m<=n->n - m<=f->(∀ j,m<=j->j<n->j<ys.length/\okB ys j=true)->goF ys n f m=n
 |0,m,h1,h2,_=>by show m=n;omega
 |f+1,m,h1,h2,h3=>by
  unfold goF
  by_cases h:m<n
  ·obtain ⟨h4,h5⟩:=h3 m (Nat.le_refl _) h;rw [if_pos ⟨by omega,h4,h5⟩];exact ig ys n f (m+1) (by omega) (by omega) fun j hj=>h3 j (by omega)
  ·rw [if_neg (by omega)];omega
theorem ij(r:Int)(hv:ai r=true)(zs:List Int):al ((aj r++zs).getD 0 0)=(aj r).length/\1<=(aj r).length/\(aj r).length<=4 /\
  ∀ j,1<=j->j<(aj r).length->okB (aj r++zs) j=true:=by
 have hr:=validB_true.1 hv;unfold aj;rw [hv];simp only [Bool.true_eq_false,if_false]
 by_cases a1:r<128
 ·simp only [if_pos a1];refine ⟨?_,by simp,by simp,fun j h1 h2=>by simp at h2;omega⟩
  simp [al];omega
 ·simp only [if_neg a1]
  by_cases a2:r<2048
  ·simp only [if_pos a2];refine ⟨?_,by simp,by simp,fun j h1 h2=>?_⟩
   ·show al (192+r / 64)=((2:Nat):Int);unfold al;omega
   ·obtain rfl:j=1:=by simp at h2;omega
    have hl:al (192+r / 64)=2:=by unfold al;omega
    unfold okB bb lo2 hi2
    simp [hl];omega
  ·simp only [if_neg a2]
   by_cases a3:r<65536
   ·simp only [if_pos a3];refine ⟨?_,by simp,by simp,fun j h1 h2=>?_⟩
    ·show al (224+r / 4096)=((3:Nat):Int);unfold al;omega
    ·have hl:al (224+r / 4096)=3:=by unfold al;omega
     rcases (by simp at h2;omega:j=1\/j=2) with rfl | rfl
     ·unfold okB bb lo2 hi2
      simp [hl];omega
     ·unfold okB bb lo2 hi2
      simp [hl];omega
   ·simp only [if_neg a3];refine ⟨?_,by simp,by simp,fun j h1 h2=>?_⟩
    ·show al (240+r / 262144)=((4:Nat):Int);unfold al;omega
    ·have hl:al (240+r / 262144)=4:=by unfold al;omega
     rcases (by simp at h2;omega:j=1\/j=2\/j=3) with rfl | rfl | rfl
     ·unfold okB bb lo2 hi2
      simp [hl];omega
     ·unfold okB bb lo2 hi2
      simp [hl];omega
     ·unfold okB bb lo2 hi2
      simp [hl];omega
theorem kM(r:Int)(hv:ai r=true)(zs:List Int):0<=(aj r++zs).getD 0 0:=by
 have hr:=validB_true.1 hv;unfold aj;rw [hv];simp only [Bool.true_eq_false,if_false]
 split
 ·simp;omega
 ·split
  ·simp;omega
  ·split
   ·simp;omega
   ·simp;omega
theorem jR(xs:List Int)(p:Nat)(r:Int)(zs:List Int)(hv:ai r=true)(h:xs.drop p=aj r++zs):dd xs p=(aj r).length/\(bD xs p).1=r/\(bD xs p).2.2.2.2=false:=by
 obtain ⟨h1,h2,h3,h4⟩:=ij r hv zs;have xQ:xs.getD p 0=(aj r++zs).getD 0 0:=by rw [<-h];simp [List.getD]
 have hb:bi (aj r++zs) ((aj r).length:Nat)=(aj r).length:=ig _ _ 4 1 h2 (by omega) fun j k1 k2=>⟨by simp;omega,h4 j k1 k2⟩
 have hz:¬ al (xs.getD p 0)=0:=by rw [xQ,h1];omega
 have hlen:bi (xs.drop p) (al (xs.getD p 0))=(aj r).length:=by rw [h,xQ,h1];exact hb
 have hq:(bi (xs.drop p) (al (xs.getD p 0)):Int)=al (xs.getD p 0):=by rw [hlen,xQ,h1]
 refine ⟨by unfold dd;rw [if_neg hz];exact hlen,?_,by unfold bD;rw [if_neg hz,if_pos hq]⟩;unfold bD;rw [if_neg hz,if_pos hq,hlen];show cX ((xs.drop p).take (aj r).length) ((aj r).length - 1)=r;have hf:=lx (aj r++zs) (aj r).length (by rw [h1];exact hb) h1.symm (by simp;omega) (kM r hv zs);rw [h];refine jQ hv (hf.trans ?_);rw [List.take_left]
theorem fP:∀ (a pre:List Int) (xs:List Int) (K:Nat),(∀ x ∈ a,ai x=true)->xs=pre++a.flatMap aj->aK xs K=pre.length ->
  aK xs (K+a.length)=xs.length/\dc xs (K+a.length)=dc xs K++a/\bh xs (K+a.length)=bh xs K
 |[],pre,xs,K,_,hx,hp=>by simp at hx;subst hx;simp [hp]
 |r :: a,pre,xs,K,hv,hx,hp=>by
  have hr:=hv r (by simp);have hd:xs.drop pre.length=aj r++a.flatMap aj:=by rw [hx];simp
  obtain ⟨h1,h2,h3⟩:=jR xs pre.length r _ hr hd;have oS:aK xs (K+1)=(pre++aj r).length:=by
   show aK xs K+dd xs (aK xs K)=_;rw [hp,h1];simp
  obtain ⟨i1,i2,i3⟩:=fP a (pre++aj r) xs (K+1) (fun x hx=>hv x (by simp [hx])) (by rw [hx];simp) oS;rw [show K+(r :: a).length=K+1+a.length by simp;omega];refine ⟨i1,?_,?_⟩
  ·rw [i2,fQ,hp,h2];simp
  ·rw [i3,ez,hp,h3];simp
theorem iT(a:List Int)(hv:∀ x ∈ a,ai x=true):aK (a.flatMap aj) a.length=(a.flatMap aj).length/\dc (a.flatMap aj) a.length=a/\bh (a.flatMap aj) a.length=false:=by
 obtain ⟨i1,i2,i3⟩:=fP a [] (a.flatMap aj) 0 hv rfl rfl;rw [Nat.zero_add] at i1 i2 i3;exact ⟨i1,by rw [i2];rfl,by rw [i3];rfl⟩
theorem du(a:List Int):(a.flatMap aj).length<=4 * a.length:=by
 induction a with
 | nil=>simp
 | cons x a ih=>have:=eg x;simp only [List.flatMap_cons,List.length_append,List.length_cons];omega
end Go.Proofs.YtechjomepdahiaaDoor
