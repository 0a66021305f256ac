import Derived.Test.YthdphijabffpiaaDoorZ0
import Derived.Test.YthdphijabffpiaaDoorRgnR
import Derived.Test.YthdphijabffpiaaDoorMg5
set_option maxRecDepth 100000
set_option linter.unusedVariables false
set_option linter.unusedSimpArgs false
set_option maxHeartbeats 400000
namespace Go.Proofs.YthdphijabffpiaaDoor
open Go.RowKit Go.ChangeShapes Go.WideShapes
def inB(κ:Nat->Int)(f t k:Nat):Prop:=(f<=k/\k<=t)\/(κ k=2/\f<=k+1/\k+1<=t)\/(κ k=3/\f+1<=k/\k<=t+1)
theorem fq(L:List Cl)(f t k:Nat)(iB:f<=t)(ht:t<L.length)(hk:k<L.length)
  (h2:∀ i,i<L.length->(L.getD i zc).1=2->i+1<L.length/\(L.getD (i+1) zc).1=3) (h3:∀ i,i<L.length->(L.getD i zc).1=3->0<i/\(L.getD (i - 1) zc).1=2) :
  inB (fun i=>(L.getD i zc).1) f t k↔bi L f<=k/\k<=a8 L t:=by
 unfold inB bi a8;simp only;constructor
 ·rintro (⟨h,h'⟩ | ⟨hK,h,h'⟩ | ⟨hK,h,h'⟩)
  ·constructor <;> split <;> omega
  ·have hq:=(h2 k hk hK).2
   rcases Nat.lt_or_ge k f with hlt | lz
   ·have e:f=k+1:=by omega
    subst e;rw [if_pos hq];constructor
    ·omega
    ·split <;> omega
   ·constructor <;> split <;> omega
  ·have hq:=h3 k hk hK
   rcases Nat.lt_or_ge t k with hlt | lz
   ·have e:t=k - 1:=by omega
    subst e;rw [if_pos hq.2];constructor
    ·split <;> omega
    ·omega
   ·constructor <;> split <;> omega
 ·rintro ⟨h,h'⟩
  rcases Nat.lt_or_ge k f with hlt | lz
  ·have hF:(L.getD f zc).1=3:=by
    by_cases hh:(L.getD f zc).1=3
    ·exact hh
    ·rw [if_neg hh] at h;omega
   rw [if_pos hF] at h;have hq:=h3 f (by omega) hF;have e:k=f - 1:=by omega
   subst e;exact .inr (.inl ⟨hq.2,by omega,by omega⟩)
  ·rcases Nat.lt_or_ge t k with hlt | hge'
   ·have hT:(L.getD t zc).1=2:=by
     by_cases hh:(L.getD t zc).1=2
     ·exact hh
     ·rw [if_neg hh] at h';omega
    rw [if_pos hT] at h';have hq:=h2 t ht hT;have e:k=t+1:=by omega
    subst e;exact .inr (.inr ⟨hq.2,by omega,by omega⟩)
   ·exact .inl ⟨lz,hge'⟩
theorem bR(L:List Cl)(h:a9 L L.length=true):(∀ i,i<L.length->(L.getD i zc).1=2->i+1<L.length/\(L.getD (i+1) zc).1=3)/\(∀ i,i<L.length->(L.getD i zc).1=3->0<i/\(L.getD (i - 1) zc).1=2):=by
 have hall:∀ i,i<L.length->bA L i=true:=fun i hi=>by
  unfold a9 at h;exact List.all_eq_true.1 h i (List.mem_range.2 hi)
 constructor
 ·intro i hi hK;have hq:=hall i hi;unfold bA ax at hq;rw [hK] at hq;have nD:(L.getD (i+1) zc).1=3:=by
   have e:(((i:Int)+1).toNat)=i+1:=by omega
   rw [if_neg (by omega),e] at hq
   by_cases hh:(L.getD (i+1) zc).1=3
   ·exact hh
   ·have:((L.getD (i+1) zc).1 != 3)=true:=by rw [bne_iff_ne];exact hh
    rw [this] at hq
    simp at hq
  refine ⟨?_,nD⟩
  rcases Nat.lt_or_ge (i+1) L.length with hlt | lz
  ·exact hlt
  ·rw [List.getD_eq_getElem?_getD,List.getElem?_eq_none lz] at nD
   simp [zc] at nD
 ·intro i hi hK;have hq:=hall i hi;unfold bA ax at hq;rw [hK] at hq
  rcases Nat.eq_zero_or_pos i with h0 | h0
  ·subst h0
   simp at hq
  ·refine ⟨h0,?_⟩;have e:(((i:Int) - 1).toNat)=i - 1:=by omega
   rw [if_neg (show ¬ ((i:Int) - 1<0) by omega),e] at hq
   by_cases hh:(L.getD (i - 1) zc).1=2
   ·exact hh
   ·have:((L.getD (i - 1) zc).1 != 2)=true:=by rw [bne_iff_ne];exact hh
    rw [this] at hq
    simp at hq
theorem fr(K:Int)(n:Nat)(row a0 a1 b0 b1:Int)(f t k:Nat)(hr:a0<=row/\row<=b0)(hf:(f:Int)=if row=a0 then a1 else 0)(ht:(t:Int)=if row=b0 then b1 else (n:Int) - 1)(hk:k<n)(hK2:K=2->k+1<n)(hK3:K=3->0<k) :
  dL K row k a0 a1 b0 b1=true↔(f<=k/\k<=t)\/(K=2/\f<=k+1/\k+1<=t)\/(K=3/\f+1<=k/\k<=t+1):=by
 unfold dL aH;simp only [Bool.or_eq_true,Bool.and_eq_true,Bool.not_eq_true',Bool.or_eq_false_iff,Bool.and_eq_false_iff,decide_eq_true_eq,decide_eq_false_iff_not,beq_iff_eq,beq_eq_false_iff_ne,ne_eq]
 by_cases ra:row=a0 <;> by_cases rb:row=b0
 ·rw [if_pos ra] at hf;rw [if_pos rb] at ht;omega
 ·rw [if_pos ra] at hf;rw [if_neg rb] at ht;omega
 ·rw [if_neg ra] at hf;rw [if_pos rb] at ht;omega
 ·rw [if_neg ra] at hf;rw [if_neg rb] at ht;omega
theorem cJ(L:List Cl)(f:Nat):∀ k,aX (L.drop f) k=aX L (f+k) - f
 |0=>by
  have:=cD L f;show 0=aX L f - f;omega
 |k+1=>by
  have ih:=cJ L f k;have e:(L.drop f).getD k zc=L.getD (f+k) zc:=by rw [List.getD_eq_getElem?_getD,List.getD_eq_getElem?_getD,List.getElem?_drop]
  rw [<-Nat.add_assoc];unfold aX;rw [e,ih]
  split
  ·rfl
  ·omega
theorem eR(L:List Cl)(f:Nat)(hf:f<=L.length):(L.drop f).take (aQ (L.drop f))=(L.take (aQ L)).drop f:=by
 unfold aQ;rw [cJ,List.length_drop,show f+(L.length - f)=L.length by omega,List.drop_take]
theorem bS(L:List Cl)(f t:Nat):∀ m,m<=L.length->((List.range m).flatMap fun k=>if f<=k/\k<=t then cC (L.getD k zc) else [])=aN ((L.take (min m (t+1))).drop f)
 |0,_=>by simp [aN]
 |m+1,h=>by
  rw [List.range_succ,List.flatMap_append,bS L f t m (by omega)];simp only [List.flatMap_cons,List.flatMap_nil,List.append_nil]
  rcases Nat.lt_or_ge t m with ht | ht
  ·rw [if_neg (by omega),Nat.min_eq_right (by omega),Nat.min_eq_right (by omega),List.append_nil]
  ·rw [Nat.min_eq_left (show m<=t+1 by omega),Nat.min_eq_left (show m+1<=t+1 by omega)]
   rcases Nat.lt_or_ge m f with hf | hf
   ·rw [if_neg (by omega),List.drop_eq_nil_of_le (by simp;omega),List.drop_eq_nil_of_le (by simp;omega)]
    rfl
   ·rw [if_pos ⟨hf,ht⟩,List.take_succ_eq_append_getElem (by omega:m<L.length),List.drop_append_of_le_length (by simp;omega)];unfold aN;rw [List.flatMap_append]
    simp [List.getD,List.getElem?_eq_getElem (show m<L.length by omega)]
def cT(L:List Cl)(g:Bool):Nat:=if g=true then (if (L.getD (L.length - 1) zc).1=0 then L.length - 1 else L.length) else aQ L
def aP(L:List Cl)(f t m:Nat):List Int:=(List.range m).flatMap fun k=>if f<=k/\k<=t then cC (L.getD k zc) else []
theorem fu(L:List Cl)(f:Nat)(g:Bool)(hf:bi L f<L.length)(ht:a8 L (L.length - 1)=L.length - 1):bf (aG L f (L.length - 1)) g=aP L (bi L f) (a8 L (L.length - 1)) (cT L g)++(if g=true then [] else [10]):=by
 obtain ⟨F,hF⟩:=ab (bi L f);have hm:aG L f (L.length - 1)=L.drop F:=by
  unfold aG;rw [ht,<-hF,List.take_of_length_le (by simp;omega)]
 rw [hm,ht,<-hF];rw [<-hF] at hf;unfold bf cT aP
 cases g with
 |true =>
  rw [if_pos rfl,if_pos rfl,if_pos rfl,List.append_nil];have e:(L.drop F).getD ((L.drop F).length - 1) zc=L.getD (L.length - 1) zc:=by
   rw [List.getD_eq_getElem?_getD,List.getD_eq_getElem?_getD,List.getElem?_drop,List.length_drop,show F+(L.length - F - 1)=L.length - 1 by omega]
  rw [e]
  by_cases h:(L.getD (L.length - 1) zc).1=0
  ·rw [if_pos h,if_pos h,bS L F _ _ (by omega),Nat.min_eq_left (by omega),List.drop_take,List.length_drop,show L.length - F - 1=L.length - 1 - F by omega]
  ·rw [if_neg h,if_neg h,bS L F _ _ (Nat.le_refl _),Nat.min_eq_left (by omega),List.take_of_length_le (Nat.le_refl _)]
 |false =>
  rw [if_neg (by decide),if_neg (by decide),if_neg (by decide),bS L F _ _ (bU L),Nat.min_eq_left (by have:=bU L;omega),eR L F (by omega)]
theorem fO(L:List Cl)(f t:Nat)(ht:a8 L t<L.length):aN (aG L f t)=aP L (bi L f) (a8 L t) L.length:=by
 unfold aP aG;rw [bS L _ _ _ (Nat.le_refl _),Nat.min_eq_right (by omega),List.drop_take]
def aW(r0 c0 row:Nat):Nat:=if row=r0 then c0 else 0
def toN(W r1 c1 row:Nat):Nat:=if row=r1 then c1 else W - 1
def dJ(Ls:List Ln)(W r0 c0 r1 c1 row:Nat):List Cl:=aG (Ls.getD row zl).1 (aW r0 c0 row) (toN W r1 c1 row)
def bm(Ls:List Ln)(W r0 c0 r1 c1:Nat):Nat->List Int
 | 0=>[]
 | k+1=>bm Ls W r0 c0 r1 c1 k++bf (dJ Ls W r0 c0 r1 c1 (r0+k)) (Ls.getD (r0+k) zl).2
def bs(Ls:List Ln)(W r0 c0 r1 c1:Nat):List Int:=bm Ls W r0 c0 r1 c1 (r1 - r0)++aN (dJ Ls W r0 c0 r1 c1 r1)
structure NatV (v:Vw) (W H:Nat):Prop where
 wide:v.w=(W:Int)
 high:v.h=(H:Int)
 w1:1<=W
 w2:W<=1024
 h1:1<=H
 h2:H<=1024
 len:v.L.length=H
 row:∀ i,i<H->(v.L.getD i zl).1.length=W/\a9 (v.L.getD i zl).1 W=true
theorem ep{w:Int}{Ls:List Ln}{n k:Nat}(h:aO w Ls n=true)(hk:k<n):bg w (Ls.getD k zl).1=true:=by
 cases hh:bg w (Ls.getD k zl).1 with
 | true=>rfl
 | false=>rw [cL hk hh] at h;exact absurd h (by decide)
theorem cA{v:Vw}(h:az v=true):∃ W H,NatV v W H:=by
 rw [dT] at h;simp only [Bool.and_eq_true,beq_iff_eq] at h;obtain ⟨⟨⟨⟨h1,h2⟩,h3⟩,_⟩,h5⟩:=h;unfold aq at h1 h2;simp only [Bool.and_eq_true,decide_eq_true_eq] at h1 h2;refine ⟨v.w.toNat,v.h.toNat,by omega,by omega,by omega,by omega,by omega,by omega,by omega,fun i hi=>?_⟩;have hl:=ep h5 (k:=i) (by omega);unfold bg at hl;simp only [Bool.and_eq_true,decide_eq_true_eq] at hl;have hn:(v.L.getD i zl).1.length=v.w.toNat:=by omega
 refine ⟨hn,?_⟩;rw [<-hn];have h9:=(cE (v.L.getD i zl).1 (v.L.getD i zl).1.length).1 (by
  have:=(dS v.w (v.L.getD i zl).1).2 (by unfold bg;simp only [Bool.and_eq_true,decide_eq_true_eq];exact hl);unfold aF at this;exact (List.append_eq_nil_iff.1 this).2)
 exact h9
theorem fN{x:Cl}(h:ar x=true):(cC x).length<=17:=by
 unfold ar at h;unfold cC;rw [List.length_append]
 by_cases h0:x.1=0
 ·rw [if_pos (by simp [h0])] at h;rw [if_pos h0];have:x.2.length=0:=by simpa using h
  simp [this]
 ·rw [if_neg h0]
  by_cases h3:x.1=3
  ·rw [if_pos (by simp [h3])] at h;have:x.2.length=0:=by simpa using h
   simp [this]
  ·rw [if_neg (by simp [h0,h3])] at h;simp only [Bool.and_eq_true,decide_eq_true_eq] at h
   simp
   omega
theorem dK:∀ (L:List Cl),(∀ x ∈ L,(cC x).length<=17)->(aN L).length<=17 * L.length
 |[],_=>by simp [aN]
 |x :: L,h=>by
  have ih:=dK L fun y hy=>h y (List.mem_cons_of_mem _ hy)
  have hx:=h x List.mem_cons_self;unfold aN at ih ⊢;rw [List.flatMap_cons,List.length_append,List.length_cons];omega
theorem eL{L:List Cl}(h:a9 L L.length=true):∀ x ∈ L,(cC x).length<=17:=by
 intro x hx;obtain ⟨i,hi,rfl⟩:=List.mem_iff_getElem.1 hx;have h1:=eM hi h;unfold bA at h1;simp only [Bool.and_eq_true] at h1;have h2:=fN h1.1.1
 rwa [List.getD_eq_getElem?_getD,List.getElem?_eq_getElem hi] at h2
theorem fo(L:List Cl)(f t:Nat):∀ x ∈ aG L f t,x ∈ L:=fun x hx=>List.mem_of_mem_drop (List.mem_of_mem_take hx)
theorem bQ{L:List Cl}(h:a9 L L.length=true)(f t m:Nat):(aN ((aG L f t).take m)).length<=17 * L.length/\(aG L f t).length<=L.length:=by
 have hl:(aG L f t).length<=L.length:=by unfold aG;simp;omega
 refine ⟨?_,hl⟩;have:=dK ((aG L f t).take m) fun x hx=>eL h x (fo L f t x (List.mem_of_mem_take hx))
 rw [List.length_take] at this;omega
theorem di{L:List Cl}(h:a9 L L.length=true)(f t:Nat)(g:Bool):(bf (aG L f t) g).length<=17 * L.length+1:=by
 unfold bf;have hall:=bQ h f t (aG L f t).length;rw [List.take_length] at hall
 split
 ·split
  ·have:=(bQ h f t ((aG L f t).length - 1)).1;omega
  ·omega
 ·rw [List.length_append];have:=(bQ h f t (aQ (aG L f t))).1
  simp;omega
theorem fp{L:List Cl}{f t:Nat}(iB:f<=t)(ht:t<L.length):0<(aG L f t).length:=by
 unfold aG bi a8;simp only [List.length_take,List.length_drop]
 split <;> split <;> omega
theorem cB{v:Vw}{W H:Nat}(hn:NatV v W H)(r0 c0 r1 c1:Nat):∀ k,r0+k<=H->(bm v.L W r0 c0 r1 c1 k).length<=17409 * k
 |0,_=>by simp [bm]
 |k+1,h=>by
  have ih:=cB hn r0 c0 r1 c1 k (by omega);have hr:=hn.row (r0+k) (by omega);have ha:=di (L:=(v.L.getD (r0+k) zl).1) (by rw [hr.1];exact hr.2) (aW r0 c0 (r0+k)) (toN W r1 c1 (r0+k)) (v.L.getD (r0+k) zl).2;have hw:=hn.w2;rw [hr.1] at ha;show (bm v.L W r0 c0 r1 c1 k++bf (aG (v.L.getD (r0+k) zl).1 (aW r0 c0 (r0+k)) (toN W r1 c1 (r0+k))) (v.L.getD (r0+k) zl).2).length<=_;rw [List.length_append];omega
def ltP(a0 a1 b0 b1:Int):Bool:=decide (a0<b0) || ((a0 == b0) && decide (a1<b1))
def a6(v:Vw)(a0 a1 b0 b1:Int):List Int :=
 if az v=true then
  if ltP (ai v.h b0) (ai v.w b1) (ai v.h a0) (ai v.w a1)=true then bs v.L v.w.toNat (ai v.h b0).toNat (ai v.w b1).toNat (ai v.h a0).toNat (ai v.w a1).toNat
  else bs v.L v.w.toNat (ai v.h a0).toNat (ai v.w a1).toNat (ai v.h b0).toNat (ai v.w b1).toNat
 else []
theorem eq(v:Vw)(a0 a1 b0 b1:Int):a6 v b0 b1 a0 a1=a6 v a0 a1 b0 b1:=by
 unfold a6
 split
 ·generalize ai v.h b0=x0;generalize ai v.w b1=x1;generalize ai v.h a0=y0;generalize ai v.w a1=y1
  by_cases h1:ltP x0 x1 y0 y1=true <;> by_cases h2:ltP y0 y1 x0 x1=true
  ·unfold ltP at h1 h2;simp only [Bool.or_eq_true,Bool.and_eq_true,decide_eq_true_eq,beq_iff_eq] at h1 h2;omega
  ·rw [if_pos h1,if_neg h2]
  ·rw [if_neg h1,if_pos h2]
  ·rw [if_neg h1,if_neg h2];unfold ltP at h1 h2;simp only [Bool.or_eq_true,Bool.and_eq_true,decide_eq_true_eq,beq_iff_eq] at h1 h2;have e0:x0=y0:=by omega
   have e1:x1=y1:=by omega
   rw [e0,e1]
 ·rfl
theorem aD{n:Nat}(x:Int)(h:1<=n):∃ k:Nat,ai (n:Int) x=(k:Int)/\k<n:=by
 unfold ai;refine ⟨(min (max x 0) ((n:Int) - 1)).toNat,by omega,by omega⟩
end Go.Proofs.YthdphijabffpiaaDoor
