import Derived.Test.YtoeggiplcaegoaaGreatDoorZ0
import Derived.Test.YtoeggiplcaegoaaGreatDoorMg5
import Derived.Test.YtoeggiplcaegoaaGreatDoorMg3
import Derived.Test.YtoeggiplcaegoaaGreatDoorMg1
set_option maxRecDepth 100000
set_option maxHeartbeats 400000
namespace Go.Proofs.YtoeggiplcaegoaaGreatDoor
open Go.RowKit Go.ChangeShapes Go.WideShapes
theorem pP(L p0 p:List Cl)(a0 a:Nat)(h0:a<=a0)(h1:a0+p0.length<=a+p.length):aM (aM L p0 a0) p a=aM L p a/\(bd L p0 a0 || bd (aM L p0 a0) p a)=bd L p a:=by
 have Bc:∀ i,inP a0 p0.length i->inP a p.length i:=fun i h=>⟨Nat.le_trans h0 h.1,Nat.lt_of_lt_of_le h.2 h1⟩
 have JW:∀ i,bW L a0 p0.length i->bW L a p.length i:=fun i h=>h.imp (fun h=>⟨h.1,Bc _ h.2⟩) (fun h=>⟨h.1,h.2.1,Bc _ h.2.2⟩)
 have BI:∀ i,i<L.length->¬ inP a p.length i->¬ bW L a0 p0.length i->(aM L p0 a0).getD i zc=L.getD i zc:=fun i hi hn ht=>by
  rw [dr L p0 a0 i hi];unfold bP;rw [if_neg (fun e=>hn (Bc i e)),if_neg ht]
 have hblank:∀ i,i<L.length->¬ inP a p.length i->bW L a0 p0.length i->(aM L p0 a0).getD i zc=zc:=fun i hi hn ht=>by
  rw [dr L p0 a0 i hi];unfold bP;rw [if_neg (fun e=>hn (Bc i e)),if_pos ht]
 have EM:∀ i,i<L.length->¬ inP a p.length i->bW L a0 p0.length i->¬ bW (aM L p0 a0) a p.length i:=fun i hi hn ht e=>by
  unfold bW at e;rw [hblank i hi hn ht] at e
  rcases e with ⟨e,_⟩ | ⟨e,_⟩ <;> cases e
 have Mp:∀ i,i<L.length->¬ inP a p.length i->¬ bW L a0 p0.length i->(bW (aM L p0 a0) a p.length i↔bW L a p.length i):=fun i hi hn ht=>by
  unfold bW;rw [BI i hi hn ht]
 constructor
 ·apply List.ext_getElem
  ·rw [bR,bR,bR]
  ·intro i h2 h3;have hi:i<L.length:=by rw [bR] at h3;exact h3
   have e1:=dr (aM L p0 a0) p a i (by rw [bR];exact hi);have e2:=dr L p a i hi;have f1:(aM (aM L p0 a0) p a).getD i zc=(aM (aM L p0 a0) p a)[i]:=by simp [List.getD,List.getElem?_eq_getElem h2]
   have f2:(aM L p a).getD i zc=(aM L p a)[i]:=by simp [List.getD,List.getElem?_eq_getElem h3]
   rw [<-f1,<-f2,e1,e2];unfold bP
   by_cases hn:inP a p.length i
   ·rw [if_pos hn,if_pos hn]
   ·rw [if_neg hn,if_neg hn]
    by_cases ht:bW L a0 p0.length i
    ·rw [if_neg (EM i hi hn ht),if_pos (JW i ht)];exact hblank i hi hn ht
    ·by_cases Kq:bW L a p.length i
     ·rw [if_pos ((Mp i hi hn ht).2 Kq),if_pos Kq]
     ·rw [if_neg (fun e=>Kq ((Mp i hi hn ht).1 e)),if_neg Kq];exact BI i hi hn ht
 ·rcases Nat.eq_zero_or_pos L.length with hz | hz
  ·obtain rfl:L=[]:=List.length_eq_zero_iff.1 hz;have Lb:aM [] p0 a0=[]:=rfl;rw [Lb]
   by_cases e:bd [] p0 a0=true
   ·rw [e,Bool.true_or];unfold bd at e ⊢;rw [Bool.or_eq_true,decide_eq_true_eq,decide_eq_true_eq] at e
    symm
    rw [Bool.or_eq_true,decide_eq_true_eq,decide_eq_true_eq];exact e.imp (Bc _) (JW _)
   ·rw [Bool.eq_false_iff.2 e,Bool.false_or]
  ·unfold bd;rw [bR];have hi:L.length - 1<L.length:=by omega
   by_cases hn:inP a p.length (L.length - 1)
   ·rw [decide_eq_true hn,Bool.true_or,Bool.true_or,Bool.or_true]
   ·rw [decide_eq_false hn,decide_eq_false (fun e=>hn (Bc _ e)),Bool.false_or,Bool.false_or,Bool.false_or]
    by_cases ht:bW L a0 p0.length (L.length - 1)
    ·rw [decide_eq_true ht,decide_eq_true (JW _ ht),Bool.true_or]
    ·rw [decide_eq_false ht,Bool.false_or];exact decide_eq_decide.2 (Mp _ hi hn ht)
theorem ju(Ls:List Ln)(r a0 a:Nat)(p0 p:List Cl)(hr:r<Ls.length)(h0:a<=a0)(h1:a0+p0.length<=a+p.length):cJ (cJ Ls r a0 p0) r a p=cJ Ls r a p:=by
 obtain ⟨e1,e2⟩:=pP (Ls.getD r zl).1 p0 p a0 a h0 h1;have hg:(cJ Ls r a0 p0).getD r zl=(aM (Ls.getD r zl).1 p0 a0,(Ls.getD r zl).2 && !bd (Ls.getD r zl).1 p0 a0):=by
  unfold cJ;rw [cp _ _ _ _ _ hr,if_pos rfl]
 have hq:∀ (K:List Ln) (x:Ln),K.getD r zl=x->cJ K r a p=K.set r (aM x.1 p a,x.2 && !bd x.1 p a):=fun K x e=>by subst e;rfl
 rw [hq _ _ hg,hq Ls _ rfl];show (cJ Ls r a0 p0).set r (aM (aM (Ls.getD r zl).1 p0 a0) p a,((Ls.getD r zl).2 && !bd (Ls.getD r zl).1 p0 a0) && !bd (aM (Ls.getD r zl).1 p0 a0) p a)=_;rw [e1,Bool.and_assoc,<-Bool.not_or,e2];unfold cJ;rw [List.set_set]
theorem rW(wd:Nat)(n:Int)(xs:List Int):((ofC (cn wd n) (iq wd n xs)).length:Int)=cn wd n:=by
 rw [oq]
 rcases el wd n with h | h
 ·rw [h];rfl
 ·rw [h.1];rfl
theorem tM(wd:Nat){n0 n1:Int}(h:n0<=n1)(h0:0<wd):cn wd n0<=cn wd n1:=by
 unfold cn
 split <;> split <;> omega
theorem tN(Ls:List Ln)(wd r c:Nat)(pd au:Bool)(n0 n1:Int)(t0 t1:List Int)(hr:r<Ls.length)(hc:c<wd)(hn:n0<=n1) :
  fF (fF Ls wd r c pd au n0 t0) wd (fq Ls wd r c pd au n0) (dB wd c pd au n0) false au n1 t1=fF Ls wd r c pd au n1 t1 /\
  fq (fF Ls wd r c pd au n0 t0) wd (fq Ls wd r c pd au n0) (dB wd c pd au n0) false au n1=fq Ls wd r c pd au n1 /\
  dB wd (dB wd c pd au n0) false au n1=dB wd c pd au n1:=by
 have hlt:=qU (Ls:=Ls) pd au n0 t0 hr hc;have h1:=py (Ls:=Ls) pd hr;have hc1:p1C c pd<wd:=by unfold p1C;split <;> omega
 have hm:=tM wd hn (by omega);have hl0:=rW wd n0 t0;have Dp:=rW wd n1 t1;have h2:=pz (wd:=wd) (k:=cn wd n0) (c:=p1C c pd) au h1.1
 revert hlt
 unfold fF fq dB;rw [show ∀ L R,p1L L R false=L from fun _ _=>rfl,show ∀ L R,p1R L R false=R from fun _ _=>rfl,show ∀ C,p1C C false=C from fun _=>rfl];generalize p1L Ls r pd=M at *;generalize p1R Ls r pd=r1 at *;generalize p1C c pd=c1 at *;generalize ofC (cn wd n0) (iq wd n0 t0)=q0 at *;generalize ofC (cn wd n1) (iq wd n1 t1)=q1 at *;have k0:=el wd n0;have k1:=el wd n1;generalize cn wd n0=K0 at *;generalize cn wd n1=K1 at *;intro hlt
 by_cases hK:K0=K1
 ·subst hK;have hx:¬ (K0=2/\p2C wd K0 c1 au+1=wd):=by omega
  have e1:∀ L:List Ln,p2L wd K0 L (p2R wd K0 M r1 c1 au) (p2C wd K0 c1 au) au=L:=fun L=>by
   conv=>lhs;unfold p2L
   exact if_neg hx
  have e2:∀ L:List Ln,p2R wd K0 L (p2R wd K0 M r1 c1 au) (p2C wd K0 c1 au) au=p2R wd K0 M r1 c1 au:=fun L=>by
   conv=>lhs;unfold p2R
   exact if_neg hx
  have e3:p2C wd K0 (p2C wd K0 c1 au) au=p2C wd K0 c1 au:=by
   conv=>lhs;unfold p2C
   exact if_neg hx
  rw [e1,e2,e3];exact ⟨ju _ _ _ _ _ _ h2.1 (Nat.le_refl _) (by omega),rfl,rfl⟩
 ·obtain ⟨rfl,rfl⟩ : K0=1/\K1=2:=by omega
  have n1:¬ ((1:Int)=2/\c1+1=wd):=fun h=>absurd h.1 (by decide)
  have e1:p2L wd 1 M r1 c1 au=M:=by unfold p2L;exact if_neg n1
  have e2:p2R wd 1 M r1 c1 au=r1:=by unfold p2R;exact if_neg n1
  have e3:p2C wd 1 c1 au=c1:=by unfold p2C;exact if_neg n1
  rw [e1,e2,e3]
  by_cases hw:c1+1=wd
  ·have hx:(2:Int)=2/\c1+1=wd:=⟨rfl,hw⟩;unfold p2L p2R p2C;rw [if_pos hx,if_pos hx,if_pos hx,if_pos hx,if_pos hx]
   cases au
   ·rw [if_neg (by decide),if_neg (by decide),if_neg (by decide)];exact ⟨ju _ _ _ _ _ _ h1.1 (by omega) (by omega),rfl,rfl⟩
   ·rw [if_pos rfl,if_pos rfl,if_pos rfl,if_pos rfl,if_pos rfl];have hz:cJ (cJ M r1 c1 q0) r1 c1 [zc]=cJ M r1 c1 [zc]:=ju _ _ _ _ _ _ h1.1 (Nat.le_refl _) (by show c1+q0.length<=c1+1;omega);rw [hz];have hd:aY (cJ M r1 c1 q0) r1=aY M r1:=by unfold aY;rw [cT]
    rw [hd];exact ⟨rfl,rfl,rfl⟩
  ·have hx:¬ ((2:Int)=2/\c1+1=wd):=fun h=>hw h.2
   unfold p2L p2R p2C;rw [if_neg hx,if_neg hx,if_neg hx,if_neg hx,if_neg hx];exact ⟨ju _ _ _ _ _ _ h1.1 (Nat.le_refl _) (by omega),rfl,rfl⟩
end Go.Proofs.YtoeggiplcaegoaaGreatDoor
