import Derived.Test.YthdphijabffpiaaDoorZ0
import Derived.Test.YthdphijabffpiaaDoorRgnW
import Derived.Test.YthdphijabffpiaaDoorMg5
set_option maxRecDepth 100000
set_option linter.unusedVariables false
set_option linter.unusedSimpArgs false
set_option maxHeartbeats 400000
namespace Go.Proofs.YthdphijabffpiaaDoor
open Go.RowKit Go.ChangeShapes Go.WideShapes
theorem fT(L:List Cl)(h:bK L L.length=true):(∀ i,i<L.length->(L.getD i zc).1=2->i+1<L.length/\(L.getD (i+1) zc).1=3)/\(∀ i,i<L.length->(L.getD i zc).1=3->0<i/\(L.getD (i - 1) zc).1=2):=by
 have hall:∀ i,i<L.length->bH L i=true:=fun i hi=>by
  unfold bK at h;exact List.all_eq_true.1 h i (List.mem_range.2 hi)
 constructor
 ·intro i hi hK;have hq:=hall i hi;unfold bH aA at hq;rw [hK] at hq;have kp:(L.getD (i+1) zc).1=3:=by
   have e:(((i:Int)+1).toNat)=i+1:=by omega
   rw [if_neg (by omega),e] at hq
   by_cases hh:(L.getD (i+1) zc).1=3
   ·exact hh
   ·have:((L.getD (i+1) zc).1 != 3)=true:=by rw [bne_iff_ne];exact hh
    rw [this] at hq
    simp at hq
  refine ⟨?_,kp⟩
  rcases Nat.lt_or_ge (i+1) L.length with hlt | hge
  ·exact hlt
  ·rw [List.getD_eq_getElem?_getD,List.getElem?_eq_none hge] at kp
   simp [zc] at kp
 ·intro i hi hK;have hq:=hall i hi;unfold bH aA at hq;rw [hK] at hq
  rcases Nat.eq_zero_or_pos i with h0 | h0
  ·subst h0
   simp at hq
  ·refine ⟨h0,?_⟩;have e:(((i:Int) - 1).toNat)=i - 1:=by omega
   rw [if_neg (show ¬ ((i:Int) - 1<0) by omega),e] at hq
   by_cases hh:(L.getD (i - 1) zc).1=2
   ·exact hh
   ·have:((L.getD (i - 1) zc).1 != 2)=true:=by rw [bne_iff_ne];exact hh
    rw [this] at hq
    simp at hq
structure NatV (v:Vw) (W H:Nat):Prop where
 wide:v.w=(W:Int)
 high:v.h=(H:Int)
 w1:1<=W
 w2:W<=1024
 h1:1<=H
 h2:H<=1024
 len:v.L.length=H
 row:∀ i,i<H->(v.L.getD i zl).1.length=W/\bK (v.L.getD i zl).1 W=true
theorem eP{w:Int}{Ls:List Ln}{n k:Nat}(h:aR w Ls n=true)(hk:k<n):bt w (Ls.getD k zl).1=true:=by
 cases hh:bt w (Ls.getD k zl).1 with
 | true=>rfl
 | false=>rw [cV hk hh] at h;exact absurd h (by decide)
theorem dB{v:Vw}(h:aM v=true):∃ W H,NatV v W H:=by
 rw [eq] at h;simp only [Bool.and_eq_true,beq_iff_eq] at h;obtain ⟨⟨⟨⟨h1,h2⟩,h3⟩,_⟩,h5⟩:=h;unfold ax at h1 h2;simp only [Bool.and_eq_true,decide_eq_true_eq] at h1 h2;refine ⟨v.w.toNat,v.h.toNat,by omega,by omega,by omega,by omega,by omega,by omega,by omega,fun i hi=>?_⟩;have hl:=eP h5 (k:=i) (by omega);unfold bt at hl;simp only [Bool.and_eq_true,decide_eq_true_eq] at hl;have hn:(v.L.getD i zl).1.length=v.w.toNat:=by omega
 refine ⟨hn,?_⟩;rw [<-hn];have h9:=(cN (v.L.getD i zl).1 (v.L.getD i zl).1.length).1 (by
  have:=(ep v.w (v.L.getD i zl).1).2 (by unfold bt;simp only [Bool.and_eq_true,decide_eq_true_eq];exact hl);unfold aG at this;exact (List.append_eq_nil_iff.1 this).2)
 exact h9
theorem gk{x:Cl}(h:aw x=true):(gC x).length<=17:=by
 unfold aw at h;unfold gC;rw [List.length_append]
 by_cases h0:x.1=0
 ·rw [if_pos (by simp [h0])] at h;rw [if_pos h0];have:x.2.length=0:=by simpa using h
  simp [this]
 ·rw [if_neg h0]
  by_cases h3:x.1=3
  ·rw [if_pos (by simp [h3])] at h;have:x.2.length=0:=by simpa using h
   simp [this]
  ·rw [if_neg (by simp [h0,h3])] at h;simp only [Bool.and_eq_true,decide_eq_true_eq] at h
   simp
   omega
abbrev Pc:=Int × Int × List Int
abbrev Ht:=Int × Int × Int
def aE(n c:Nat):List Cl->List Pc
 | []=>[]
 | x :: C=>(if x.1=3 then [] else [((n:Int),(c:Int),x.2)])++aE n (c+1) C
def aO(l:Ln):List Cl:=if l.2=true/\(l.1.getD (l.1.length - 1) zc).1=0 then l.1.take (l.1.length - 1) else l.1
def bi(Ls:List Ln)(n:Nat):List Pc:=aE n 0 (aO (Ls.getD n zl))
def aW(Ls:List Ln):Nat->Nat->List Pc->List (List Pc)
 | 0,_,p=>[p]
 | k+1,n,p=>if (Ls.getD n zl).2=true then aW Ls k (n+1) (p++bi Ls n) else (p++bi Ls n) :: aW Ls k (n+1) []
def aJ(Ls:List Ln):List (List Pc):=aW Ls Ls.length 0 []
def aI:List Pc->List Int->Nat
 | [],_=>0
 | p :: ps,x=>if p.2.2.length=0\/x.length<p.2.2.length\/p.2.2≠x.take p.2.2.length then 0 else if x.drop p.2.2.length=[] then 1 else if aI ps (x.drop p.2.2.length)=0 then 0 else aI ps (x.drop p.2.2.length)+1
def hAt(x:List Int):List Pc->List Ht
 | []=>[]
 | p :: P=>if 0<aI (p :: P) x then [(p.1,p.2.1,(aI (p :: P) x:Nat))] else []
def bd(x:List Int):List Pc->List Pc->List Ht
 | [],_=>[]
 | p :: P,Q=>hAt x ((p :: P)++Q)++bd x P Q
theorem cI(x:List Int):∀ (P P' Q:List Pc),bd x (P++P') Q=bd x P (P'++Q)++bd x P' Q
 |[],P',Q=>rfl
 |p :: P,P',Q=>by
  show hAt x ((p :: (P++P'))++Q)++bd x (P++P') Q=(hAt x ((p :: P)++(P'++Q))++bd x P (P'++Q))++bd x P' Q;rw [cI x P P' Q,List.append_assoc,List.cons_append,List.cons_append,List.append_assoc]
def bn(x:List Int)(P:List Pc)(k:Nat):List Ht:=(List.range k).flatMap fun i=>hAt x (P.drop i)
theorem dd(x:List Int)(P:List Pc)(k:Nat):bn x P (k+1)=bn x P k++hAt x (P.drop k):=by
 unfold bn;rw [List.range_succ,List.flatMap_append]
 simp
theorem cJ(x:List Int):∀ P:List Pc,bn x P P.length=bd x P []
 |[]=>rfl
 |p :: P=>by
  have ih:=cJ x P;unfold bn at ih ⊢;rw [List.length_cons,List.range_succ_eq_map,List.flatMap_cons,List.flatMap_map];show hAt x (p :: P)++((List.range P.length).flatMap fun i=>hAt x (P.drop i))=hAt x ((p :: P)++[])++bd x P [];rw [List.append_nil,ih]
theorem cK(x:List Int)(P:List Pc):∀ k,(bn x P k).length<=k
 |0=>Nat.le_refl _
 |k+1=>by
  rw [dd,List.length_append];have:=cK x P k;have h1:(hAt x (P.drop k)).length<=1:=by
   cases P.drop k with
   |nil=>exact Nat.zero_le _
   |cons p Q =>
    show (if 0<aI (p :: Q) x then [(p.1,p.2.1,((aI (p :: Q) x:Nat):Int))] else []).length<=1
    split
    ·exact Nat.le_refl _
    ·exact Nat.zero_le _
  omega
def bw(x:List Int)(R:List (List Pc))(k:Nat):List Ht:=(R.take k).flatMap fun P=>bn x P P.length
def de(Ls:List Ln):Nat->Nat->List Pc
 | 0,_=>[]
 | k+1,n=>bi Ls n++(if (Ls.getD n zl).2=true then de Ls k (n+1) else [])
def aU(Ls:List Ln)(H n:Nat):List Pc:=if (Ls.getD n zl).2=true then de Ls (H - (n+1)) (n+1) else []
theorem cL(x:List Int)(Ls:List Ln)(H:Nat):∀ (k n:Nat) (p:List Pc),n+k=H->(aW Ls k n p).flatMap (fun P=>bn x P P.length)=bd x p (de Ls k n)++(List.range k).flatMap fun i=>bd x (bi Ls (n+i)) (aU Ls H (n+i))
 |0,n,p,_=>by
  unfold aW de
  simp [cJ]
 |k+1,n,p,h=>by
  have hc:aU Ls H n=if (Ls.getD n zl).2=true then de Ls k (n+1) else []:=by
   unfold aU;rw [show H - (n+1)=k by omega]
  have hr:(List.range (k+1)).flatMap (fun i=>bd x (bi Ls (n+i)) (aU Ls H (n+i)))=bd x (bi Ls n) (aU Ls H n)++(List.range k).flatMap fun i=>bd x (bi Ls (n+1+i)) (aU Ls H (n+1+i)):=by
   rw [List.range_succ_eq_map,List.flatMap_cons,List.flatMap_map]
   congr 1
   congr 1
   funext i
   rw [show n+1+i=n+(i+1) by omega]
  rw [hr,hc];show (if (Ls.getD n zl).2=true then aW Ls k (n+1) (p++bi Ls n) else (p++bi Ls n) :: aW Ls k (n+1) []).flatMap (fun P=>bn x P P.length)=bd x p (bi Ls n++(if (Ls.getD n zl).2=true then de Ls k (n+1) else []))++_
  by_cases hg:(Ls.getD n zl).2=true
  ·simp only [if_pos hg];rw [cL x Ls H k (n+1) _ (by omega),cI,List.append_assoc]
  ·simp only [if_neg hg];rw [List.flatMap_cons,cL x Ls H k (n+1) [] (by omega),cJ,cI]
   simp [bd]
def eg(x:List Int)(n c:Nat)(C:List Cl)(Q:List Pc):List Ht:=match C with
 | []=>[]
 | y :: C=>if y.1=3 then [] else hAt x (aE n c (y :: C)++Q)
theorem ei(x:List Int)(n:Nat)(Q:List Pc):∀ (C:List Cl) (c:Nat),bd x (aE n c C) Q=(List.range C.length).flatMap fun j=>eg x n (c+j) (C.drop j) Q
 |[],c=>rfl
 |y :: C,c=>by
  have ih:=ei x n Q C (c+1);rw [List.length_cons,List.range_succ_eq_map,List.flatMap_cons,List.flatMap_map];have e:((List.range C.length).flatMap fun j=>eg x n (c+1+j) (C.drop j) Q)=(List.range C.length).flatMap fun j=>eg x n (c+(j+1)) ((y :: C).drop (j+1)) Q:=by
   congr 1
   funext i
   rw [show c+1+i=c+(i+1) by omega]
   rfl
  rw [<-e,<-ih];show bd x ((if y.1=3 then [] else [((n:Int),(c:Int),y.2)])++aE n (c+1) C) Q=(if y.1=3 then [] else hAt x (aE n c (y :: C)++Q))++bd x (aE n (c+1) C) Q
  by_cases h:y.1=3
  ·rw [if_pos h,if_pos h];rfl
  ·rw [if_neg h,if_neg h,show aE n c (y :: C)=(if y.1=3 then [] else [((n:Int),(c:Int),y.2)])++aE n (c+1) C from rfl,if_neg h]
   rfl
def aq(Ls:List Ln)(i j:Nat):Int:=((Ls.getD i zl).1.getD j zc).1
def bj(Ls:List Ln)(i j:Nat):List Int:=((Ls.getD i zl).1.getD j zc).2
def aP(Ls:List Ln)(i:Nat):Bool:=(Ls.getD i zl).2
def an(Ls:List Ln)(H:Nat):Nat->Nat->Nat
 | 0,r=>r
 | k+1,r=>if r<H/\aP Ls r=true/\aq Ls r 0=0 then an Ls H k (r+1) else r
def cu(Ls:List Ln)(i j W:Nat):Nat :=
 let c:=j+(aq Ls i j).toNat
 if c=W - 1/\aP Ls i=true/\aq Ls i c=0 then c+1 else c
def ap(Ls:List Ln)(W H i j:Nat):Nat × Nat × Bool :=
 if W<=cu Ls i j W then
  if aP Ls i=false\/H<=i+1 then (0,0,false)
  else if W=1/\aP Ls (i+1)=true/\aq Ls (i+1) 0=0 then (an Ls H H (i+1),0,decide (an Ls H H (i+1)<H) && (aq Ls (an Ls H H (i+1)) 0 != 0))
  else (i+1,0,aq Ls (i+1) 0 != 0)
 else (i,cu Ls i j W,aq Ls i (cu Ls i j W) != 0)
def cM(Ls:List Ln)(W H:Nat)(x:List Int):Nat->Nat->Nat->List Int->Nat->Nat
 | 0,_,_,_,_=>0
 | k+1,i,j,got,n=>if got++bj Ls i j=x then n else if (ap Ls W H i j).2.2=true then cM Ls W H x k (ap Ls W H i j).1 (ap Ls W H i j).2.1 (got++bj Ls i j) (n+1) else 0
def be(Ls:List Ln)(H i j:Nat):List Pc:=aE i j ((aO (Ls.getD i zl)).drop j)++aU Ls H i
theorem ek(Ls:List Ln)(W H:Nat)(x:List Int):∀ (k i j:Nat) (got:List Int) (n:Nat),¬ got <+: x->cM Ls W H x k i j got n=0
 |0,_,_,_,_,_=>rfl
 |k+1,i,j,got,n,h=>by
  have h2:¬ (got++bj Ls i j) <+: x:=fun e=>h ((List.prefix_append _ _).trans e)
  unfold cM;rw [if_neg (fun e=>h2 (by rw [e];exact List.prefix_rfl))]
  split
  ·exact ek Ls W H x k _ _ _ _ h2
  ·rfl
def aV(Ls:List Ln)(W H i j:Nat):Prop:=(aq Ls i j=1\/aq Ls i j=2)/\i<H/\j<W
theorem fk(Ls:List Ln)(W H:Nat)(x:List Int)(hstep:∀ i j,aV Ls W H i j->bj Ls i j≠[]/\∃ Q,be Ls H i j=((i:Int),(j:Int),bj Ls i j) :: Q/\(((ap Ls W H i j).2.2=true/\aV Ls W H (ap Ls W H i j).1 (ap Ls W H i j).2.1/\Q=be Ls H (ap Ls W H i j).1 (ap Ls W H i j).2.1)\/((ap Ls W H i j).2.2=false/\(Q=[]\/∃ p R,Q=p :: R/\p.2.2=[])))) :
  ∀ (k i j:Nat) (got y:List Int) (n:Nat),aV Ls W H i j->x=got++y->y.length<=k->0<n->cM Ls W H x k i j got n=if aI (be Ls H i j) y=0 then 0 else n - 1+aI (be Ls H i j) y
 |0,i,j,got,y,n,hs,hx,hy,hn=>by
  have hy0:y=[]:=List.eq_nil_of_length_eq_zero (by omega);obtain ⟨hT,Q,hQ,_⟩:=hstep i j hs;subst hy0;have:aI (be Ls H i j) []=0:=by
   rw [hQ];unfold aI;rw [if_pos]
   rcases Nat.eq_zero_or_pos (bj Ls i j).length with h | h
   ·exact .inl h
   ·exact .inr (.inl (by simpa using h))
  rw [this,if_pos rfl]
  rfl
 |k+1,i,j,got,y,n,hs,hx,hy,hn=>by
  obtain ⟨hT,Q,hQ,iu⟩:=hstep i j hs;obtain ⟨T,hTT⟩:=ab (bj Ls i j);have hTl:T.length≠0:=fun e=>hT (by rw [<-hTT];exact List.eq_nil_of_length_eq_zero e)
  show (if got++bj Ls i j=x then n else if (ap Ls W H i j).2.2=true then cM Ls W H x k (ap Ls W H i j).1 (ap Ls W H i j).2.1 (got++bj Ls i j) (n+1) else 0)=_;rw [hQ,<-hTT];have g6:aI (((i:Int),(j:Int),T) :: Q) y=if T.length=0\/y.length<T.length\/T≠y.take T.length then 0 else if y.drop T.length=[] then 1 else if aI Q (y.drop T.length)=0 then 0 else aI Q (y.drop T.length)+1:=rfl;rw [g6]
  by_cases hp:T <+: y
  ·obtain ⟨z,hz⟩:=hp;subst hz;have e1:(T++z).take T.length=T:=List.take_left;have e2:(T++z).drop T.length=z:=List.drop_left;rw [e1,e2,if_neg (show ¬ (T.length=0\/(T++z).length<T.length\/T≠T) from by rw [List.length_append];simp only [ne_eq,not_true_eq_false,or_false];omega)];rw [List.length_append] at hy
   by_cases hz0:z=[]
   ·subst hz0;rw [if_pos (by rw [hx,List.append_nil]),if_pos rfl,if_neg (by decide)];omega
   ·have hne:got++T≠x:=fun e=>by
     rw [hx,<-List.append_assoc] at e;have:=congrArg List.length e;simp only [List.length_append] at this;exact hz0 (List.eq_nil_of_length_eq_zero (by omega))
    rw [if_neg hne,if_neg hz0]
    rcases iu with ⟨h1,h2,h3⟩ | ⟨h1,h2⟩
    ·rw [if_pos h1,fk Ls W H x hstep k _ _ (got++T) z (n+1) h2 (by rw [hx,List.append_assoc]) (by omega) (by omega),<-h3]
     by_cases hc:aI Q z=0
     ·rw [if_pos hc,if_pos hc,if_pos rfl]
     ·rw [if_neg hc,if_neg hc,if_neg (by omega)];omega
    ·rw [if_neg (by rw [h1];decide)];have hc:aI Q z=0:=by
      rcases h2 with rfl | ⟨p,R,rfl,hp⟩
      ·rfl
      ·show (if p.2.2.length=0\/_ then 0 else _)=0;rw [if_pos (.inl (by rw [hp];rfl))]
     rw [if_pos hc,if_pos rfl]
  ·have ly:T.length=0\/y.length<T.length\/T≠y.take T.length:=by
    by_cases hl:y.length<T.length
    ·exact .inr (.inl hl)
    ·exact .inr (.inr fun e=>hp (by rw [e];exact List.take_prefix _ _))
   have hnp:¬ (got++T) <+: x:=fun e=>hp (by
    rw [hx] at e;exact (List.prefix_append_right_inj got).1 e)
   rw [if_pos ly,if_pos rfl,if_neg (fun e=>hnp (by rw [e];exact List.prefix_rfl))]
   split
   ·exact ek Ls W H x k _ _ _ _ hnp
   ·rfl
theorem fx(l:Ln):(aO l).length<=l.1.length/\l.1.length - 1<=(aO l).length:=by
 unfold aO
 split
 ·rw [List.length_take];omega
 ·omega
theorem ct(l:Ln)(j:Nat)(h:j<(aO l).length):(aO l).getD j zc=l.1.getD j zc:=by
 unfold aO at h ⊢
 split
 ·next e =>
  rw [if_pos e,List.length_take] at h;rw [List.getD_eq_getElem?_getD,List.getD_eq_getElem?_getD,List.getElem?_take_of_lt (by omega)]
 ·rfl
theorem bv(l:Ln)(h0:0<l.1.length):((aO l).length=l.1.length - 1/\l.2=true/\(l.1.getD (l.1.length - 1) zc).1=0)\/((aO l).length=l.1.length/\¬ (l.2=true/\(l.1.getD (l.1.length - 1) zc).1=0)):=by
 unfold aO
 split
 ·next e=>exact .inl ⟨by rw [List.length_take];omega,e⟩
 ·next e=>exact .inr ⟨rfl,e⟩
theorem cH(C:List Cl)(j:Nat)(h:j<C.length):C.drop j=C.getD j zc :: C.drop (j+1):=by
 rw [List.drop_eq_getElem_cons h,List.getD_eq_getElem?_getD,List.getElem?_eq_getElem h]
 rfl
theorem bh{v:Vw}{W H:Nat}(hn:NatV v W H){i j:Nat}(hi:i<H)(hj:j<W):(aq v.L i j=0/\bj v.L i j=[])\/(aq v.L i j=1/\bj v.L i j≠[])\/(aq v.L i j=2/\bj v.L i j≠[]/\j+1<W/\aq v.L i (j+1)=3)\/(aq v.L i j=3/\bj v.L i j=[]/\0<j/\aq v.L i (j - 1)=2):=by
 obtain ⟨hl,iW⟩:=hn.row i hi;have hok':bK (v.L.getD i zl).1 (v.L.getD i zl).1.length=true:=by rw [hl];exact iW
 have hkk:=fT _ hok';have h1:=dT (show j<W from hj) iW;unfold bH at h1;simp only [Bool.and_eq_true] at h1;have hr:=h1.1.1;unfold aw at hr;unfold aq bj;rw [<-hl] at hj;have e2:=hkk.1 j hj;have e3:=hkk.2 j hj;rw [hl] at e2;obtain ⟨y,hy⟩:=ab ((v.L.getD i zl).1.getD j zc);rw [<-hy] at hr e2 e3 ⊢
 by_cases h0:y.1=0
 ·rw [if_pos (by simp [h0])] at hr;exact .inl ⟨h0,List.eq_nil_of_length_eq_zero (by simpa using hr)⟩
 ·by_cases h3:y.1=3
  ·rw [if_pos (by simp [h3])] at hr;exact .inr (.inr (.inr ⟨h3,List.eq_nil_of_length_eq_zero (by simpa using hr),(e3 h3).1,(e3 h3).2⟩))
  ·rw [if_neg (by simp [h0,h3])] at hr;simp only [Bool.and_eq_true,Bool.or_eq_true,beq_iff_eq,decide_eq_true_eq] at hr;have hne:y.2≠[]:=fun e=>by have:=hr.1.1.2;rw [e] at this;exact absurd this (by decide)
   rcases hr.1.1.1 with h | h
   ·exact .inr (.inl ⟨h,hne⟩)
   ·exact .inr (.inr (.inl ⟨h,hne,(e2 h).1,(e2 h).2⟩))
theorem ch{Ls:List Ln}{H i j:Nat}(hj:j<(aO (Ls.getD i zl)).length):be Ls H i j=(if aq Ls i j=3 then [] else [((i:Int),(j:Int),bj Ls i j)])++(aE i (j+1) ((aO (Ls.getD i zl)).drop (j+1))++aU Ls H i):=by
 unfold be aq bj;rw [cH _ j hj,ct _ j hj];show ((if ((Ls.getD i zl).1.getD j zc).1=3 then [] else [((i:Int),(j:Int),((Ls.getD i zl).1.getD j zc).2)])++aE i (j+1) _)++_=_;rw [List.append_assoc]
theorem dA{Ls:List Ln}{H i:Nat}(hg:aP Ls i=true)(hi:i+1<H):aU Ls H i=be Ls H (i+1) 0:=by
 unfold aU aP at *;rw [if_pos hg];obtain ⟨k,hk⟩ : ∃ k,H - (i+1)=k+1:=⟨H - (i+1) - 1,by omega⟩;rw [hk];show bi Ls (i+1)++(if (Ls.getD (i+1) zl).2=true then de Ls k (i+1+1) else [])=_;unfold be aU bi;rw [show H - (i+1+1)=k by omega,List.drop_zero]
theorem ef{Ls:List Ln}{H i:Nat}(h:aP Ls i=false\/H<=i+1):aU Ls H i=[]:=by
 unfold aU aP at *
 rcases h with h | h
 ·rw [if_neg (by rw [h];decide)]
 ·rw [show H - (i+1)=0 by omega]
  split <;> rfl
def fS(Ls:List Ln)(H r:Nat):List Pc:=if r<H then be Ls H r 0 else []
theorem fj{v:Vw}{H:Nat}(hn:NatV v 1 H):∀ (k r:Nat),H<=r+k->fS v.L H (an v.L H k r)=fS v.L H r/\¬ (an v.L H k r<H/\aP v.L (an v.L H k r)=true/\aq v.L (an v.L H k r) 0=0)
 |0,r,h=>⟨rfl,fun e=>by have:an v.L H 0 r=r:=rfl;rw [this] at e;omega⟩
 |k+1,r,h=>by
  show fS v.L H (if r<H/\aP v.L r=true/\aq v.L r 0=0 then an v.L H k (r+1) else r)=_/\¬ ((if r<H/\aP v.L r=true/\aq v.L r 0=0 then an v.L H k (r+1) else r)<H/\aP v.L (if r<H/\aP v.L r=true/\aq v.L r 0=0 then an v.L H k (r+1) else r)=true/\aq v.L (if r<H/\aP v.L r=true/\aq v.L r 0=0 then an v.L H k (r+1) else r) 0=0)
  by_cases hc:r<H/\aP v.L r=true/\aq v.L r 0=0
  ·simp only [if_pos hc];obtain ⟨h1,h2⟩:=fj hn k (r+1) (by omega);refine ⟨h1.trans ?_,h2⟩;unfold fS;rw [if_pos hc.1];have hl:=(hn.row r hc.1).1;have hC:(aO (v.L.getD r zl)).length=0:=by
    rcases bv (v.L.getD r zl) (by rw [hl];decide) with ⟨e,_⟩ | ⟨_,e⟩
    ·rw [e,hl]
    ·exfalso;refine e ⟨hc.2.1,?_⟩;rw [hl];exact hc.2.2
   have ht:be v.L H r 0=aU v.L H r:=by
    unfold be;rw [List.eq_nil_of_length_eq_zero hC]
    rfl
   rw [ht]
   by_cases hr:r+1<H
   ·rw [if_pos hr,dA hc.2.1 hr]
   ·rw [if_neg hr,ef (.inr (by omega))]
  ·simp only [if_neg hc];exact ⟨by first | rfl | trivial,fun e=>hc e⟩
theorem dS{v:Vw}{W H:Nat}(hn:NatV v W H)(i j:Nat)(hs:aV v.L W H i j):bj v.L i j≠[]/\∃ Q,be v.L H i j=((i:Int),(j:Int),bj v.L i j) :: Q/\(((ap v.L W H i j).2.2=true/\aV v.L W H (ap v.L W H i j).1 (ap v.L W H i j).2.1/\Q=be v.L H (ap v.L W H i j).1 (ap v.L W H i j).2.1)\/((ap v.L W H i j).2.2=false/\(Q=[]\/∃ p R,Q=p :: R/\p.2.2=[]))):=by
 obtain ⟨hK,hi,hj⟩:=hs;have l8:=hn.w1;have hl:=(hn.row i hi).1;have hk:=bh hn hi hj;have hT:bj v.L i j≠[]:=by
  rcases hk with ⟨e,_⟩ | ⟨_,e⟩ | ⟨_,e,_⟩ | ⟨e,_⟩
  ·omega
  ·exact e
  ·exact e
  ·omega
 refine ⟨hT,?_⟩;have jS:=bv (v.L.getD i zl) (by rw [hl];omega);rw [hl] at jS;obtain ⟨C,hC⟩:=ab (aO (v.L.getD i zl));have jk:C.length=W - 1->aq v.L i (W - 1)=0/\aP v.L i=true:=fun e=>by
  rw [<-hC] at jS
  rcases jS with ⟨_,h1,h2⟩ | ⟨h1,_⟩
  ·exact ⟨h2,h1⟩
  ·omega
 have hfull:C.length=W->¬ (aP v.L i=true/\aq v.L i (W - 1)=0):=fun e=>by
  rw [<-hC] at jS
  rcases jS with ⟨h1,_⟩ | ⟨_,h1⟩
  ·omega
  ·exact h1
 have hlen:C.length=W - 1\/C.length=W:=by
  rw [<-hC] at jS
  rcases jS with ⟨h1,_⟩ | ⟨h1,_⟩
  ·exact .inl h1
  ·exact .inr h1
 have hO:∀ c,c<W->aq v.L i c≠0->c<C.length:=fun c hc hne=>by
  rcases hlen with e | e
  ·have:=(jk e).1
   rcases Nat.lt_or_ge c (W - 1) with h | h
   ·omega
   ·have:c=W - 1:=by omega
    subst this;exact absurd (jk e).1 hne
  ·omega
 have hjC:=hO j hj (by omega);obtain ⟨c1,hc1⟩:=ab (j+(aq v.L i j).toNat);have hc1W:c1<=W:=by
  rcases hk with ⟨e,_⟩ | ⟨e,_⟩ | ⟨e,_,h,_⟩ | ⟨e,_⟩ <;> omega
 have hQ:aE i (j+1) (C.drop (j+1))=aE i c1 (C.drop c1):=by
  rcases hk with ⟨e,_⟩ | ⟨e,_⟩ | ⟨e,_,h,h3⟩ | ⟨e,_⟩
  ·omega
  ·rw [show c1=j+1 by omega]
  ·have j5:=hO (j+1) h (by omega);rw [show c1=j+1+1 by omega,cH C (j+1) j5,hC,ct _ (j+1) (by rw [<-hC];exact j5)];show (if ((v.L.getD i zl).1.getD (j+1) zc).1=3 then [] else _)++_=_;unfold aq at h3;rw [if_pos h3]
   rfl
  ·omega
 refine ⟨aE i c1 (C.drop c1)++aU v.L H i,?_,?_⟩
 ·rw [ch (by rw [<-hC];exact hjC),if_neg (by omega),<-hC,hQ]
  rfl
 by_cases hcC:c1<C.length
 ·have hst:cu v.L i j W=c1:=by
   unfold cu;simp only [<-hc1];rw [if_neg];rintro ⟨e1,e2,e3⟩;rw [e1] at e3 hcC
   rcases hlen with e | e
   ·omega
   ·exact hfull e ⟨e2,e3⟩
  have nJ:c1<W:=by omega
  have iu:ap v.L W H i j=(i,c1,aq v.L i c1 != 0):=by
   unfold ap;rw [hst,if_neg (by omega)]
  rw [iu];simp only
  rcases bh hn hi nJ with ⟨e,e2⟩ | ⟨e,_⟩ | ⟨e,_⟩ | ⟨e,_,e0,e1⟩
  ·refine .inr ⟨by rw [e];rfl,.inr ⟨((i:Int),(c1:Int),bj v.L i c1),aE i (c1+1) (C.drop (c1+1))++aU v.L H i,?_,e2⟩⟩;have h9:=ch (Ls:=v.L) (H:=H) (i:=i) (j:=c1) (by rw [<-hC];exact hcC);rw [if_neg (by omega),<-hC] at h9;unfold be at h9;rw [<-hC] at h9;rw [h9]
   rfl
  ·exact .inl ⟨by rw [e];rfl,⟨.inl e,hi,nJ⟩,by unfold be;rw [<-hC]⟩
  ·exact .inl ⟨by rw [e];rfl,⟨.inr e,hi,nJ⟩,by unfold be;rw [<-hC]⟩
  ·exfalso
   rcases hk with ⟨e9,_⟩ | ⟨e9,_⟩ | ⟨e9,_,h,h3⟩ | ⟨e9,_⟩
   ·omega
   ·rw [show c1 - 1=j by omega] at e1;omega
   ·rw [show c1 - 1=j+1 by omega] at e1;omega
   ·omega
 ·have hst:W<=cu v.L i j W:=by
   unfold cu;simp only [<-hc1]
   by_cases h9:c1=W - 1
   ·have hl9:=jk (by omega);rw [if_pos ⟨h9,hl9.2,by rw [h9];exact hl9.1⟩];omega
   ·rw [if_neg (fun e=>h9 e.1)];omega
  rw [List.drop_eq_nil_of_le (by omega)];show ((ap v.L W H i j).2.2=true/\aV v.L W H _ _/\aU v.L H i=_)\/(_/\(aU v.L H i=[]\/_));unfold ap;rw [if_pos hst]
  by_cases hg:aP v.L i=false\/H<=i+1
  ·rw [if_pos hg];exact .inr ⟨rfl,.inl (ef hg)⟩
  ·rw [if_neg hg];have hg1:aP v.L i=true:=by cases h:aP v.L i with | true=>rfl | false=>exact absurd (.inl h) hg
   have hg2:i+1<H:=by
    rcases Nat.lt_or_ge (i+1) H with h | h
    ·exact h
    ·exact absurd (.inr h) hg
   rw [dA hg1 hg2];have hblank:∀ r,r<H->aq v.L r 0=0->0<(aO (v.L.getD r zl)).length->∃ p R,be v.L H r 0=p :: R/\p.2.2=[]:=fun r hr h0 hl0=>by
    refine ⟨((r:Int),((0:Nat):Int),bj v.L r 0),_,(ch hl0).trans (by rw [if_neg (by omega)];rfl),?_⟩
    rcases bh hn hr (show 0<W by omega) with ⟨_,e⟩ | ⟨e,_⟩ | ⟨e,_⟩ | ⟨e,_⟩
    ·exact e
    ·omega
    ·omega
    ·omega
   have hstart:∀ r,r<H->aq v.L r 0≠0->aV v.L W H r 0:=fun r hr h0=>by
    refine ⟨?_,hr,by omega⟩
    rcases bh hn hr (show 0<W by omega) with ⟨e,_⟩ | ⟨e,_⟩ | ⟨e,_⟩ | ⟨_,_,e,_⟩
    ·exact absurd e h0
    ·exact .inl e
    ·exact .inr e
    ·omega
   by_cases hp:W=1/\aP v.L (i+1)=true/\aq v.L (i+1) 0=0
   ·rw [if_pos hp];have hW1:=hp.1;subst hW1;obtain ⟨p1,p2⟩:=fj hn H (i+1) (by omega);generalize an v.L H H (i+1)=r at p1 p2 ⊢;simp only;unfold fS at p1;rw [if_pos hg2] at p1;rw [<-p1]
    by_cases hr:r<H
    ·rw [if_pos hr,decide_eq_true hr,Bool.true_and]
     by_cases h0:aq v.L r 0=0
     ·refine .inr ⟨by rw [h0];rfl,.inr (hblank r hr h0 ?_)⟩;have lB:=(hn.row r hr).1
      rcases bv (v.L.getD r zl) (by rw [lB];decide) with ⟨_,e,_⟩ | ⟨e,_⟩
      ·exact absurd ⟨hr,e,h0⟩ p2
      ·rw [e,lB];decide
     ·exact .inl ⟨by rw [bne_iff_ne];exact h0,hstart r hr h0,rfl⟩
    ·rw [if_neg hr,decide_eq_false hr,Bool.false_and];exact .inr ⟨rfl,.inl rfl⟩
   ·rw [if_neg hp];simp only
    by_cases h0:aq v.L (i+1) 0=0
    ·refine .inr ⟨by rw [h0];rfl,.inr (hblank (i+1) hg2 h0 ?_)⟩;have lB:=(hn.row (i+1) hg2).1
     rcases bv (v.L.getD (i+1) zl) (by rw [lB];omega) with ⟨e,e2,_⟩ | ⟨e,_⟩
     ·rw [e,lB]
      rcases Nat.lt_or_ge 1 W with h | h
      ·omega
      ·exact absurd ⟨by omega,e2,h0⟩ hp
     ·rw [e,lB];omega
    ·exact .inl ⟨by rw [bne_iff_ne];exact h0,hstart (i+1) hg2 h0,by first | rfl | trivial⟩
def cZ(Ls:List Ln)(W H:Nat)(x:List Int)(i j:Nat):List Ht:=if aq Ls i j=1\/aq Ls i j=2 then (if cM Ls W H x x.length i j [] 1=0 then [] else [((i:Int),(j:Int),(cM Ls W H x x.length i j [] 1:Nat))]) else []
theorem gj{v:Vw}{W H:Nat}(hn:NatV v W H)(x:List Int):bw x (aJ v.L) (aJ v.L).length=(List.range H).flatMap fun i=>(List.range W).flatMap fun j=>cZ v.L W H x i j:=by
 unfold bw aJ;rw [List.take_length,hn.len,cL x v.L H H 0 [] (by omega)];show ([]:List Ht)++_=_;rw [List.nil_append];have hrow:∀ i,i<H->bd x (bi v.L (0+i)) (aU v.L H (0+i))=(List.range W).flatMap fun j=>cZ v.L W H x i j:=by
  intro i hi;rw [Nat.zero_add];unfold bi;rw [ei];have hl:=(hn.row i hi).1;have l8:=hn.w1;have hcell:∀ j,j<(aO (v.L.getD i zl)).length->j<W->eg x i (0+j) ((aO (v.L.getD i zl)).drop j) (aU v.L H i)=cZ v.L W H x i j:=by
   intro j hj hjW;rw [Nat.zero_add];have ht:aE i j ((aO (v.L.getD i zl)).drop j)++aU v.L H i=be v.L H i j:=rfl;have hc:eg x i j ((aO (v.L.getD i zl)).drop j) (aU v.L H i)=if aq v.L i j=3 then [] else hAt x (be v.L H i j):=by
    rw [<-ht,cH _ j hj,ct _ j hj]
    rfl
   rw [hc];unfold cZ
   rcases bh hn hi hjW with ⟨e,e2⟩ | ⟨e,_⟩ | ⟨e,_⟩ | ⟨e,_⟩
   ·rw [if_neg (by omega),if_neg (by omega),ch hj,if_neg (by omega),e2]
    rfl
   all_goals first
    |(rw [if_pos e,if_neg (by omega)];done)
    |(have hs:aV v.L W H i j:=⟨by omega,hi,hjW⟩;rw [if_neg (by omega),if_pos (by omega)];have hr:=fk v.L W H x (fun a b h=>dS hn a b h) x.length i j [] x 1 hs rfl (Nat.le_refl _) (by decide);rw [hr];obtain ⟨_,Q,hQ,_⟩:=dS hn i j hs;rw [hQ];show (if 0<aI (((i:Int),(j:Int),bj v.L i j) :: Q) x then [((i:Int),(j:Int),((aI (((i:Int),(j:Int),bj v.L i j) :: Q) x:Nat):Int))] else [])=_;generalize aI (((i:Int),(j:Int),bj v.L i j) :: Q) x=n
      by_cases h0:n=0
      ·subst h0
       rfl
      ·rw [if_pos (by omega),if_neg h0,if_neg (by omega),Nat.sub_self,Nat.zero_add])
  have hext:∀ (f g:Nat->List Ht) (n:Nat),(∀ j,j<n->f j=g j)->(List.range n).flatMap f=(List.range n).flatMap g:=by
   intro f g n
   induction n with
   |zero=>intro _;rfl
   |succ n ih =>
    intro h;rw [List.range_succ,List.flatMap_append,List.flatMap_append,ih (fun j hj=>h j (by omega))]
    simp [h n (by omega)]
  rcases bv (v.L.getD i zl) (by rw [hl];omega) with ⟨e,_,e2⟩ | ⟨e,_⟩
  ·rw [hl] at e e2;rw [hext _ (fun j=>cZ v.L W H x i j) _ (fun j hj=>hcell j hj (by omega)),e];obtain ⟨m,rfl⟩ : ∃ m,W=m+1:=⟨W - 1,by omega⟩;rw [List.range_succ (n:=m),List.flatMap_append,Nat.add_sub_cancel];have:cZ v.L (m+1) H x i m=[]:=by
    unfold cZ aq;rw [Nat.add_sub_cancel] at e2;rw [e2,if_neg (by omega)]
   simp [this]
  ·rw [hl] at e;rw [hext _ (fun j=>cZ v.L W H x i j) _ (fun j hj=>hcell j hj (by omega)),e]
 have hext2:∀ (f g:Nat->List Ht) (n:Nat),(∀ j,j<n->f j=g j)->(List.range n).flatMap f=(List.range n).flatMap g:=by
  intro f g n
  induction n with
  |zero=>intro _;rfl
  |succ n ih =>
   intro h;rw [List.range_succ,List.flatMap_append,List.flatMap_append,ih (fun j hj=>h j (by omega))]
   simp [h n (by omega)]
 exact hext2 _ _ H fun i hi=>hrow i hi
end Go.Proofs.YthdphijabffpiaaDoor
