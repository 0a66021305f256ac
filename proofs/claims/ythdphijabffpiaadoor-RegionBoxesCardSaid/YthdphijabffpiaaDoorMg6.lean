import Derived.Test.YthdphijabffpiaaDoorZ0
import Derived.Test.YthdphijabffpiaaDoorRgnR
import Derived.Test.YthdphijabffpiaaDoorMg5
set_option maxRecDepth 100000
set_option linter.unusedVariables false
set_option linter.unusedSimpArgs false
set_option maxHeartbeats 400000
namespace Go.Proofs.YthdphijabffpiaaDoor
open Go.RowKit Go.ChangeShapes Go.WideShapes
def inB(κ:Nat->Int)(f t k:Nat):Prop:=(f<=k/\k<=t)\/(κ k=2/\f<=k+1/\k+1<=t)\/(κ k=3/\f+1<=k/\k<=t+1)
theorem fA(L:List Cl)(f t k:Nat)(iQ:f<=t)(ht:t<L.length)(hk:k<L.length)
  (h2:∀ i,i<L.length->(L.getD i zc).1=2->i+1<L.length/\(L.getD (i+1) zc).1=3) (h3:∀ i,i<L.length->(L.getD i zc).1=3->0<i/\(L.getD (i - 1) zc).1=2) :
  inB (fun i=>(L.getD i zc).1) f t k↔aO L f<=k/\k<=am L t:=by
 unfold inB aO am;simp only;constructor
 ·rintro (⟨h,h'⟩ | ⟨hK,h,h'⟩ | ⟨hK,h,h'⟩)
  ·constructor <;> split <;> omega
  ·have hq:=(h2 k hk hK).2
   rcases Nat.lt_or_ge k f with hlt | mF
   ·have e:f=k+1:=by omega
    subst e;rw [if_pos hq];constructor
    ·omega
    ·split <;> omega
   ·constructor <;> split <;> omega
  ·have hq:=h3 k hk hK
   rcases Nat.lt_or_ge t k with hlt | mF
   ·have e:t=k - 1:=by omega
    subst e;rw [if_pos hq.2];constructor
    ·split <;> omega
    ·omega
   ·constructor <;> split <;> omega
 ·rintro ⟨h,h'⟩
  rcases Nat.lt_or_ge k f with hlt | mF
  ·have hF:(L.getD f zc).1=3:=by
    by_cases hh:(L.getD f zc).1=3
    ·exact hh
    ·rw [if_neg hh] at h;omega
   rw [if_pos hF] at h;have hq:=h3 f (by omega) hF;have e:k=f - 1:=by omega
   subst e;exact .inr (.inl ⟨hq.2,by omega,by omega⟩)
  ·rcases Nat.lt_or_ge t k with hlt | hge'
   ·have hT:(L.getD t zc).1=2:=by
     by_cases hh:(L.getD t zc).1=2
     ·exact hh
     ·rw [if_neg hh] at h';omega
    rw [if_pos hT] at h';have hq:=h2 t ht hT;have e:k=t+1:=by omega
    subst e;exact .inr (.inr ⟨hq.2,by omega,by omega⟩)
   ·exact .inl ⟨mF,hge'⟩
theorem bd(L:List Cl)(h:a8 L L.length=true):(∀ i,i<L.length->(L.getD i zc).1=2->i+1<L.length/\(L.getD (i+1) zc).1=3)/\(∀ i,i<L.length->(L.getD i zc).1=3->0<i/\(L.getD (i - 1) zc).1=2):=by
 have hall:∀ i,i<L.length->bC L i=true:=fun i hi=>by
  unfold a8 at h;exact List.all_eq_true.1 h i (List.mem_range.2 hi)
 constructor
 ·intro i hi hK;have hq:=hall i hi;unfold bC ay at hq;rw [hK] at hq;have oz:(L.getD (i+1) zc).1=3:=by
   have e:(((i:Int)+1).toNat)=i+1:=by omega
   rw [if_neg (by omega),e] at hq
   by_cases hh:(L.getD (i+1) zc).1=3
   ·exact hh
   ·have:((L.getD (i+1) zc).1 != 3)=true:=by rw [bne_iff_ne];exact hh
    rw [this] at hq
    simp at hq
  refine ⟨?_,oz⟩
  rcases Nat.lt_or_ge (i+1) L.length with hlt | mF
  ·exact hlt
  ·rw [List.getD_eq_getElem?_getD,List.getElem?_eq_none mF] at oz
   simp [zc] at oz
 ·intro i hi hK;have hq:=hall i hi;unfold bC ay at hq;rw [hK] at hq
  rcases Nat.eq_zero_or_pos i with h0 | h0
  ·subst h0
   simp at hq
  ·refine ⟨h0,?_⟩;have e:(((i:Int) - 1).toNat)=i - 1:=by omega
   rw [if_neg (show ¬ ((i:Int) - 1<0) by omega),e] at hq
   by_cases hh:(L.getD (i - 1) zc).1=2
   ·exact hh
   ·have:((L.getD (i - 1) zc).1 != 2)=true:=by rw [bne_iff_ne];exact hh
    rw [this] at hq
    simp at hq
theorem fB(K:Int)(n:Nat)(row a0 a1 b0 b1:Int)(f t k:Nat)(hr:a0<=row/\row<=b0)(hf:(f:Int)=if row=a0 then a1 else 0)(ht:(t:Int)=if row=b0 then b1 else (n:Int) - 1)(hk:k<n)(hK2:K=2->k+1<n)(hK3:K=3->0<k) :
  dp K row k a0 a1 b0 b1=true↔(f<=k/\k<=t)\/(K=2/\f<=k+1/\k+1<=t)\/(K=3/\f+1<=k/\k<=t+1):=by
 unfold dp aN;simp only [Bool.or_eq_true,Bool.and_eq_true,Bool.not_eq_true',Bool.or_eq_false_iff,Bool.and_eq_false_iff,decide_eq_true_eq,decide_eq_false_iff_not,beq_iff_eq,beq_eq_false_iff_ne,ne_eq]
 by_cases ra:row=a0 <;> by_cases rb:row=b0
 ·rw [if_pos ra] at hf;rw [if_pos rb] at ht;omega
 ·rw [if_pos ra] at hf;rw [if_neg rb] at ht;omega
 ·rw [if_neg ra] at hf;rw [if_pos rb] at ht;omega
 ·rw [if_neg ra] at hf;rw [if_neg rb] at ht;omega
theorem bT(L:List Cl)(f:Nat):∀ k,aw (L.drop f) k=aw L (f+k) - f
 |0=>by
  have:=bB L f;show 0=aw L f - f;omega
 |k+1=>by
  have ih:=bT L f k;have e:(L.drop f).getD k zc=L.getD (f+k) zc:=by rw [List.getD_eq_getElem?_getD,List.getD_eq_getElem?_getD,List.getElem?_drop]
  rw [<-Nat.add_assoc];unfold aw;rw [e,ih]
  split
  ·rfl
  ·omega
theorem eX(L:List Cl)(f:Nat)(hf:f<=L.length):(L.drop f).take (aU (L.drop f))=(L.take (aU L)).drop f:=by
 unfold aU;rw [bT,List.length_drop,show f+(L.length - f)=L.length by omega,List.drop_take]
theorem bA(L:List Cl)(f t:Nat):∀ m,m<=L.length->((List.range m).flatMap fun k=>if f<=k/\k<=t then cp (L.getD k zc) else [])=aS ((L.take (min m (t+1))).drop f)
 |0,_=>by simp [aS]
 |m+1,h=>by
  rw [List.range_succ,List.flatMap_append,bA L f t m (by omega)];simp only [List.flatMap_cons,List.flatMap_nil,List.append_nil]
  rcases Nat.lt_or_ge t m with ht | ht
  ·rw [if_neg (by omega),Nat.min_eq_right (by omega),Nat.min_eq_right (by omega),List.append_nil]
  ·rw [Nat.min_eq_left (show m<=t+1 by omega),Nat.min_eq_left (show m+1<=t+1 by omega)]
   rcases Nat.lt_or_ge m f with hf | hf
   ·rw [if_neg (by omega),List.drop_eq_nil_of_le (by simp;omega),List.drop_eq_nil_of_le (by simp;omega)]
    rfl
   ·rw [if_pos ⟨hf,ht⟩,List.take_succ_eq_append_getElem (by omega:m<L.length),List.drop_append_of_le_length (by simp;omega)];unfold aS;rw [List.flatMap_append]
    simp [List.getD,List.getElem?_eq_getElem (show m<L.length by omega)]
def cX(L:List Cl)(g:Bool):Nat:=if g=true then (if (L.getD (L.length - 1) zc).1=0 then L.length - 1 else L.length) else aU L
def aE(L:List Cl)(f t m:Nat):List Int:=(List.range m).flatMap fun k=>if f<=k/\k<=t then cp (L.getD k zc) else []
theorem fC(L:List Cl)(f:Nat)(g:Bool)(hf:aO L f<L.length)(ht:am L (L.length - 1)=L.length - 1):bi (aJ L f (L.length - 1)) g=aE L (aO L f) (am L (L.length - 1)) (cX L g)++(if g=true then [] else [10]):=by
 obtain ⟨F,hF⟩:=ab (aO L f);have hm:aJ L f (L.length - 1)=L.drop F:=by
  unfold aJ;rw [ht,<-hF,List.take_of_length_le (by simp;omega)]
 rw [hm,ht,<-hF];rw [<-hF] at hf;unfold bi cX aE
 cases g with
 |true =>
  rw [if_pos rfl,if_pos rfl,if_pos rfl,List.append_nil];have e:(L.drop F).getD ((L.drop F).length - 1) zc=L.getD (L.length - 1) zc:=by
   rw [List.getD_eq_getElem?_getD,List.getD_eq_getElem?_getD,List.getElem?_drop,List.length_drop,show F+(L.length - F - 1)=L.length - 1 by omega]
  rw [e]
  by_cases h:(L.getD (L.length - 1) zc).1=0
  ·rw [if_pos h,if_pos h,bA L F _ _ (by omega),Nat.min_eq_left (by omega),List.drop_take,List.length_drop,show L.length - F - 1=L.length - 1 - F by omega]
  ·rw [if_neg h,if_neg h,bA L F _ _ (Nat.le_refl _),Nat.min_eq_left (by omega),List.take_of_length_le (Nat.le_refl _)]
 |false =>
  rw [if_neg (by decide),if_neg (by decide),if_neg (by decide),bA L F _ _ (bV L),Nat.min_eq_left (by have:=bV L;omega),eX L F (by omega)]
theorem fW(L:List Cl)(f t:Nat)(ht:am L t<L.length):aS (aJ L f t)=aE L (aO L f) (am L t) L.length:=by
 unfold aE aJ;rw [bA L _ _ _ (Nat.le_refl _),Nat.min_eq_right (by omega),List.drop_take]
def aZ(r0 c0 row:Nat):Nat:=if row=r0 then c0 else 0
def toN(W r1 c1 row:Nat):Nat:=if row=r1 then c1 else W - 1
def dQ(Ls:List Ln)(W r0 c0 r1 c1 row:Nat):List Cl:=aJ (Ls.getD row zl).1 (aZ r0 c0 row) (toN W r1 c1 row)
def bn(Ls:List Ln)(W r0 c0 r1 c1:Nat):Nat->List Int
 | 0=>[]
 | k+1=>bn Ls W r0 c0 r1 c1 k++bi (dQ Ls W r0 c0 r1 c1 (r0+k)) (Ls.getD (r0+k) zl).2
def bR(Ls:List Ln)(W r0 c0 r1 c1:Nat):List Int:=bn Ls W r0 c0 r1 c1 (r1 - r0)++aS (dQ Ls W r0 c0 r1 c1 r1)
structure NatV (v:Vw) (W H:Nat):Prop where
 wide:v.w=(W:Int)
 high:v.h=(H:Int)
 w1:1<=W
 w2:W<=1024
 h1:1<=H
 h2:H<=1024
 len:v.L.length=H
 row:∀ i,i<H->(v.L.getD i zl).1.length=W/\a8 (v.L.getD i zl).1 W=true
theorem ez{w:Int}{Ls:List Ln}{n k:Nat}(h:aT w Ls n=true)(hk:k<n):bj w (Ls.getD k zl).1=true:=by
 cases hh:bj w (Ls.getD k zl).1 with
 | true=>rfl
 | false=>rw [cN hk hh] at h;exact absurd h (by decide)
theorem cE{v:Vw}(h:aB v=true):∃ W H,NatV v W H:=by
 rw [d9] at h;simp only [Bool.and_eq_true,beq_iff_eq] at h;obtain ⟨⟨⟨⟨h1,h2⟩,h3⟩,_⟩,h5⟩:=h;unfold ar at h1 h2;simp only [Bool.and_eq_true,decide_eq_true_eq] at h1 h2;refine ⟨v.w.toNat,v.h.toNat,by omega,by omega,by omega,by omega,by omega,by omega,by omega,fun i hi=>?_⟩;have hl:=ez h5 (k:=i) (by omega);unfold bj at hl;simp only [Bool.and_eq_true,decide_eq_true_eq] at hl;have hn:(v.L.getD i zl).1.length=v.w.toNat:=by omega
 refine ⟨hn,?_⟩;rw [<-hn];have h9:=(cG (v.L.getD i zl).1 (v.L.getD i zl).1.length).1 (by
  have:=(dZ v.w (v.L.getD i zl).1).2 (by unfold bj;simp only [Bool.and_eq_true,decide_eq_true_eq];exact hl);unfold aL at this;exact (List.append_eq_nil_iff.1 this).2)
 exact h9
theorem fV{x:Cl}(h:av x=true):(cp x).length<=17:=by
 unfold av at h;unfold cp;rw [List.length_append]
 by_cases h0:x.1=0
 ·rw [if_pos (by simp [h0])] at h;rw [if_pos h0];have:x.2.length=0:=by simpa using h
  simp [this]
 ·rw [if_neg h0]
  by_cases h3:x.1=3
  ·rw [if_pos (by simp [h3])] at h;have:x.2.length=0:=by simpa using h
   simp [this]
  ·rw [if_neg (by simp [h0,h3])] at h;simp only [Bool.and_eq_true,decide_eq_true_eq] at h
   simp
   omega
theorem dR:∀ (L:List Cl),(∀ x ∈ L,(cp x).length<=17)->(aS L).length<=17 * L.length
 |[],_=>by simp [aS]
 |x :: L,h=>by
  have ih:=dR L fun y hy=>h y (List.mem_cons_of_mem _ hy)
  have hx:=h x List.mem_cons_self;unfold aS at ih ⊢;rw [List.flatMap_cons,List.length_append,List.length_cons];omega
theorem eR{L:List Cl}(h:a8 L L.length=true):∀ x ∈ L,(cp x).length<=17:=by
 intro x hx;obtain ⟨i,hi,rfl⟩:=List.mem_iff_getElem.1 hx;have h1:=eS hi h;unfold bC at h1;simp only [Bool.and_eq_true] at h1;have h2:=fV h1.1.1
 rwa [List.getD_eq_getElem?_getD,List.getElem?_eq_getElem hi] at h2
theorem fy(L:List Cl)(f t:Nat):∀ x ∈ aJ L f t,x ∈ L:=fun x hx=>List.mem_of_mem_drop (List.mem_of_mem_take hx)
theorem bS{L:List Cl}(h:a8 L L.length=true)(f t m:Nat):(aS ((aJ L f t).take m)).length<=17 * L.length/\(aJ L f t).length<=L.length:=by
 have hl:(aJ L f t).length<=L.length:=by unfold aJ;simp;omega
 refine ⟨?_,hl⟩;have:=dR ((aJ L f t).take m) fun x hx=>eR h x (fy L f t x (List.mem_of_mem_take hx))
 rw [List.length_take] at this;omega
theorem dn{L:List Cl}(h:a8 L L.length=true)(f t:Nat)(g:Bool):(bi (aJ L f t) g).length<=17 * L.length+1:=by
 unfold bi;have hall:=bS h f t (aJ L f t).length;rw [List.take_length] at hall
 split
 ·split
  ·have:=(bS h f t ((aJ L f t).length - 1)).1;omega
  ·omega
 ·rw [List.length_append];have:=(bS h f t (aU (aJ L f t))).1
  simp;omega
theorem fz{L:List Cl}{f t:Nat}(iQ:f<=t)(ht:t<L.length):0<(aJ L f t).length:=by
 unfold aJ aO am;simp only [List.length_take,List.length_drop]
 split <;> split <;> omega
theorem cF{v:Vw}{W H:Nat}(hn:NatV v W H)(r0 c0 r1 c1:Nat):∀ k,r0+k<=H->(bn v.L W r0 c0 r1 c1 k).length<=17409 * k
 |0,_=>by simp [bn]
 |k+1,h=>by
  have ih:=cF hn r0 c0 r1 c1 k (by omega);have hr:=hn.row (r0+k) (by omega);have ha:=dn (L:=(v.L.getD (r0+k) zl).1) (by rw [hr.1];exact hr.2) (aZ r0 c0 (r0+k)) (toN W r1 c1 (r0+k)) (v.L.getD (r0+k) zl).2;have hw:=hn.w2;rw [hr.1] at ha;show (bn v.L W r0 c0 r1 c1 k++bi (aJ (v.L.getD (r0+k) zl).1 (aZ r0 c0 (r0+k)) (toN W r1 c1 (r0+k))) (v.L.getD (r0+k) zl).2).length<=_;rw [List.length_append];omega
def ltP(a0 a1 b0 b1:Int):Bool:=decide (a0<b0) || ((a0 == b0) && decide (a1<b1))
def cw(v:Vw)(a0 a1 b0 b1:Int):List Int :=
 if aB v=true then
  if ltP (ap v.h b0) (ap v.w b1) (ap v.h a0) (ap v.w a1)=true then bR v.L v.w.toNat (ap v.h b0).toNat (ap v.w b1).toNat (ap v.h a0).toNat (ap v.w a1).toNat
  else bR v.L v.w.toNat (ap v.h a0).toNat (ap v.w a1).toNat (ap v.h b0).toNat (ap v.w b1).toNat
 else []
theorem aI{n:Nat}(x:Int)(h:1<=n):∃ k:Nat,ap (n:Int) x=(k:Int)/\k<n:=by
 unfold ap;refine ⟨(min (max x 0) ((n:Int) - 1)).toNat,by omega,by omega⟩
end Go.Proofs.YthdphijabffpiaaDoor
