import Derived.Test.YtoeggiplcaegoaaGreatDoorZ0
import Derived.Test.YtoeggiplcaegoaaGreatDoorCursorC
import Derived.Test.YtoeggiplcaegoaaGreatDoorMg1
import Derived.Test.YtoeggiplcaegoaaGreatDoorUtfdecC
import Derived.Test.YtoeggiplcaegoaaGreatDoorMg2
import Derived.Test.YtoeggiplcaegoaaGreatDoorDecR
import Derived.Test.YtoeggiplcaegoaaGreatDoorSegD
import Derived.Test.YtoeggiplcaegoaaGreatDoorTabE
import Derived.Test.YtoeggiplcaegoaaGreatDoorHgC
set_option maxRecDepth 100000
set_option linter.unusedVariables false
set_option linter.unusedSimpArgs false
set_option maxHeartbeats 1000000
namespace Go.Proofs.YtoeggiplcaegoaaGreatDoor
open Go.RowKit Go.ChangeShapes Go.WideShapes
def whF(b:List Int)(v:Int):Nat->Int
 | 0=>v
 | s+1=>whF b v s * 64+b.getD (s+1) 0 - 128
def cD(b:List Int):Int:=whF b (b.getD 0 0 - mkN b.length) (b.length - 1)
def jJ(x:Int):List Int × List Int:=if 1<eH [x] then ([],[x]) else if 0<eH [x] then ([cD [x]],[]) else ([65533],[])
def iD(H:List Int)(x:Int):List Int × List Int :=
 if H=[] then jJ x else if ((H++[x]).length:Int)<eH (H++[x]) then ([],H++[x]) else if 0<eH (H++[x]) then ([cD (H++[x])],[]) else (65533 :: (jJ x).1,(jJ x).2)
inductive Rel:List Int->St->Prop
 | none:Rel [] (0,0,0)
 | one (l:Int) (h:2<=aw l) (h0:0<=l) (h1:l<=255):Rel [l] (l,bY l,1)
 | two (l y:Int) (h:3<=aw l) (h0:0<=l) (h1:l<=255) (Dy:lo2 l<=y) (F4:y<=hi2 l):Rel [l,y] (l,bY l * 64+y % 64,2)
 | three (l y z:Int) (h:4<=aw l) (h0:0<=l) (h1:l<=255) (Dy:lo2 l<=y) (F4:y<=hi2 l) (hz0:128<=z) (hz1:z<=191):Rel [l,y,z] (l,(bY l * 64+y % 64) * 64+z % 64,3)
theorem Ap(x:Int)(x0:0<=x)(x1:x<=255):eH [x]=aw x:=by
 unfold eH;simp only [p11 x x0,p12,p13,p14,List.length_cons,List.length_nil]
 rcases bq x with ⟨h2,hs⟩ | ⟨h2,h3,hs⟩ | ⟨h2,h3,hs⟩ | ⟨h2,h3,hs⟩ | ⟨h2,h3,hs⟩ | ⟨h2,hs⟩ <;> rw [hs] <;> omega
theorem AH(l x:Int)(h:2<=aw l)(h0:0<=l):eH [l,x]=if lo2 l<=x/\x<=hi2 l then aw l else 0:=by
 unfold eH lo2 hi2;simp only [p22,p23,p24,List.length_cons,List.length_nil]
 rcases bq l with ⟨h2,hs⟩ | ⟨h2,h3,hs⟩ | ⟨h2,h3,hs⟩ | ⟨h2,h3,hs⟩ | ⟨h2,h3,hs⟩ | ⟨h2,hs⟩ <;> rw [hs] <;> rw [hs] at h <;> omega
theorem AI(l y x:Int)(h:3<=aw l)(h0:0<=l)(Dy:lo2 l<=y)(F4:y<=hi2 l):eH [l,y,x]=if 128<=x/\x<=191 then aw l else 0:=by
 unfold eH;unfold lo2 at Dy;unfold hi2 at F4;simp only [p33,p34,List.length_cons,List.length_nil]
 rcases bq l with ⟨h2,hs⟩ | ⟨h2,h3,hs⟩ | ⟨h2,h3,hs⟩ | ⟨h2,h3,hs⟩ | ⟨h2,h3,hs⟩ | ⟨h2,hs⟩ <;> rw [hs] <;> rw [hs] at h Dy F4 <;> omega
theorem AJ(l y z x:Int)(h:4<=aw l)(h0:0<=l)(Dy:lo2 l<=y)(F4:y<=hi2 l)(hz0:128<=z)(hz1:z<=191):eH [l,y,z,x]=if 128<=x/\x<=191 then aw l else 0:=by
 unfold eH;unfold lo2 at Dy;unfold hi2 at F4;simp only [p44,List.length_cons,List.length_nil]
 rcases bq l with ⟨h2,hs⟩ | ⟨h2,h3,hs⟩ | ⟨h2,h3,hs⟩ | ⟨h2,h3,hs⟩ | ⟨h2,h3,hs⟩ | ⟨h2,hs⟩ <;> rw [hs] <;> rw [hs] at h Dy F4 <;> omega
theorem yz(x:Int)(x0:0<=x)(x1:x<=255):(jJ x).1=be x/\Rel (jJ x).2 (bB x,aV x,bC x):=by
 unfold jJ;rw [Ap x x0 x1];unfold be bB aV bC
 rcases bq x with ⟨h2,hs⟩ | ⟨h2,h3,hs⟩ | ⟨h2,h3,hs⟩ | ⟨h2,h3,hs⟩ | ⟨h2,h3,hs⟩ | ⟨h2,hs⟩
 ·simp [hs,cD,whF,mkN];exact Rel.none
 ·simp [hs];exact Rel.none
 ·simp [hs];exact Rel.one x (by omega) x0 x1
 ·simp [hs];exact Rel.one x (by omega) x0 x1
 ·simp [hs];exact Rel.one x (by omega) x0 x1
 ·simp [hs];exact Rel.none
theorem ge{l y:Int}(h:2<=aw l)(h0:lo2 l<=y)(h1:y<=hi2 l):128<=y/\y<=191:=by
 unfold lo2 at h0;unfold hi2 at h1;omega
theorem jK(l:Int):aw l<=4:=by unfold aw;omega
theorem yA{H:List Int}{s:St}(hr:Rel H s)(x:Int)(x0:0<=x)(x1:x<=255):(iD H x).1=db s x/\Rel (iD H x).2 (ch s x):=by
 have hz:=yz x x0 x1
 cases hr with
 |none =>
  unfold iD db ch dR dZ da ed
  simpa using hz
 |one l h h0 h1 =>
  have hb:=AH l x h h0;have hle:=jK l;unfold iD db ch dR dZ da ed;simp only [List.cons_append,List.nil_append,List.cons_ne_nil,if_false,hb,List.length_cons,List.length_nil];have hn:bN l 1 x=(decide (lo2 l<=x) && decide (x<=hi2 l)):=by unfold bN;simp
  by_cases hx:lo2 l<=x/\x<=hi2 l
  ·have EZ:bN l 1 x=true:=by rw [hn];simp [hx.1,hx.2]
   obtain ⟨e0,e1⟩:=ge h hx.1 hx.2;rw [if_pos hx,EZ]
   by_cases h2:aw l=2
   ·rw [h2]
    simp [cD,whF,mkN]
    refine ⟨?_,Rel.none⟩;unfold bY;rw [h2]
    simp
    unfold aw at h2;omega
   ·simp [show (2:Int)<aw l by omega]
    exact Rel.two l x (by omega) h0 h1 hx.1 hx.2
  ·have EZ:bN l 1 x=false:=by rw [hn];by_cases hq:lo2 l<=x <;> simp [hq] <;> omega
   rw [if_neg hx,EZ]
   simp
   exact hz
 |two l y h h0 h1 Dy F4 =>
  have hb:=AI l y x h h0 Dy F4;have hle:=jK l;have hyy:=ge (by omega) Dy F4;unfold iD db ch dR dZ da ed;simp only [List.cons_append,List.nil_append,List.cons_ne_nil,if_false,hb,List.length_cons,List.length_nil];have hn:bN l 2 x=fI x:=by unfold bN;simp
  by_cases hx:128<=x/\x<=191
  ·have EZ:bN l 2 x=true:=by rw [hn,tailB_true];exact hx
   rw [if_pos hx,EZ]
   by_cases h2:aw l=3
   ·rw [h2]
    simp [cD,whF,mkN]
    refine ⟨?_,Rel.none⟩;unfold bY;rw [h2]
    simp
    unfold aw at h2;omega
   ·simp [show (3:Int)<aw l by omega]
    exact Rel.three l y x (by omega) h0 h1 Dy F4 hx.1 hx.2
  ·have EZ:bN l 2 x=false:=by rw [hn];cases ht:fI x with | false=>rfl | true=>exact absurd (tailB_true.1 ht) hx
   rw [if_neg hx,EZ]
   simp
   exact hz
 |three l y z h h0 h1 Dy F4 hz0 hz1 =>
  have hb:=AJ l y z x h h0 Dy F4 hz0 hz1;have hle:=jK l;have hyy:=ge (by omega) Dy F4;unfold iD db ch dR dZ da ed;simp only [List.cons_append,List.nil_append,List.cons_ne_nil,if_false,hb,List.length_cons,List.length_nil];have hn:bN l 3 x=fI x:=by unfold bN;simp
  have h2:aw l=4:=by omega
  by_cases hx:128<=x/\x<=191
  ·have EZ:bN l 3 x=true:=by rw [hn,tailB_true];exact hx
   rw [if_pos hx,EZ,h2]
   simp [cD,whF,mkN]
   refine ⟨?_,Rel.none⟩;unfold bY;rw [h2]
   simp
   unfold aw at h2;omega
  ·have EZ:bN l 3 x=false:=by rw [hn];cases ht:fI x with | false=>rfl | true=>exact absurd (tailB_true.1 ht) hx
   rw [if_neg hx,EZ]
   simp
   exact hz
theorem jL{H:List Int}{s:St}(hr:Rel H s):(H.length:Int)=s.2.2/\H.length<=3:=by cases hr <;> simp
theorem vu{H:List Int}{s:St}(hr:Rel H s):∀ i,i<H.length->0<=H.getD i 0/\H.getD i 0<=255:=by
 intro i hi
 cases hr with
 |none=>simp at hi
 |one l h h0 h1=>match i,hi with | 0,_=>exact ⟨h0,h1⟩
 |two l y h h0 h1 Dy F4 =>
  have:=ge (by omega) Dy F4
  match i,hi with
  | 0,_=>exact ⟨h0,h1⟩
  | 1,_=>show 0<=y/\y<=255;omega
 |three l y z h h0 h1 Dy F4 hz0 hz1 =>
  have:=ge (by omega) Dy F4
  match i,hi with
  | 0,_=>exact ⟨h0,h1⟩
  | 1,_=>show 0<=y/\y<=255;omega
  | 2,_=>show 0<=z/\z<=255;omega
theorem dS(xs:List Int)(p j:Nat):(xs.drop p).getD j 0=xs.getD (p+j) 0:=by simp [List.getD]
theorem sV(ys:List Int)(lead:Int):∀ (f m:Nat),lead<=m+f->goF ys lead f m<lead->goF ys lead f m<ys.length->okB ys (goF ys lead f m)=false
 |0,m,hf,h,_=>by have:goF ys lead 0 m=m:=rfl;omega
 |f+1,m,hf,h,hl=>by
  unfold goF at h hl ⊢
  by_cases hc:(m:Int)<lead/\m<ys.length/\okB ys m=true
  ·rw [if_pos hc] at h hl ⊢;exact sV ys lead f (m+1) (by omega) h hl
  ·rw [if_neg hc] at h hl ⊢
   cases ho:okB ys m with
   | false=>rfl
   | true=>exact absurd ⟨h,hl,ho⟩ hc
theorem qJ(ys:List Int)(h:(fw ys (aw (ys.getD 0 0)):Int)<aw (ys.getD 0 0))(hl:fw ys (aw (ys.getD 0 0))<ys.length):okB ys (fw ys (aw (ys.getD 0 0)))=false :=
 sV ys _ 4 1 (by have:=jK (ys.getD 0 0);omega) h hl
theorem lh(ys:List Int)(lead:Int)(j:Nat)(h1:1<=j)(h2:j<fw ys lead):okB ys j=true:=zL ys lead 4 1 j h1 h2
theorem nE(ys:List Int)(n:Nat):∀ m,m<n->eU (ys.take n) m=eU ys m
 |0,h=>by
  show bY ((ys.take n).getD 0 0)=bY (ys.getD 0 0);rw [show (ys.take n).getD 0 0=ys.getD 0 0 by simp [List.getD,List.getElem?_take,h]]
 |m+1,h=>by
  show eU (ys.take n) m * 64+(ys.take n).getD (m+1) 0 % 64=eU ys m * 64+ys.getD (m+1) 0 % 64;rw [nE ys n m (by omega),show (ys.take n).getD (m+1) 0=ys.getD (m+1) 0 by simp [List.getD,List.getElem?_take,h]]
theorem jM(ys:List Int)(m:Nat)(hm:1<=m)(h:2<=aw (ys.getD 0 0)):bN (ys.getD 0 0) m (ys.getD m 0)=okB ys m:=by
 unfold bN okB
 by_cases h1:m=1
 ·subst h1;rw [if_neg (by decide)]
  by_cases hx:lo2 (ys.getD 0 0)<=ys.getD 1 0/\ys.getD 1 0<=hi2 (ys.getD 0 0)
  ·rw [tailB_true.2 (ge h hx.1 hx.2),decide_eq_true hx.1,decide_eq_true hx.2];rfl
  ·have hb:(decide (lo2 (ys.getD 0 0)<=ys.getD 1 0) && decide (ys.getD 1 0<=hi2 (ys.getD 0 0)))=false:=by
    by_cases hq:lo2 (ys.getD 0 0)<=ys.getD 1 0
    ·rw [decide_eq_true hq,decide_eq_false (fun h=>hx ⟨hq,h⟩)];rfl
    ·rw [decide_eq_false hq];rfl
   rw [hb];rfl
 ·rw [if_pos (by omega),show (m != 1)=true by simp [h1]];rfl
theorem qK(ys:List Int)(j:Nat)(h:2<=aw (ys.getD 0 0))(hj:1<=j)(hn:j<fw ys (aw (ys.getD 0 0))) :
  db (ys.getD 0 0,eU ys (j - 1),(j:Int)) (ys.getD j 0)=(if (j:Int)+1<aw (ys.getD 0 0) then [] else [eU ys j]) /\
  ch (ys.getD 0 0,eU ys (j - 1),(j:Int)) (ys.getD j 0)=(if (j:Int)+1<aw (ys.getD 0 0) then (ys.getD 0 0,eU ys j,(j:Int)+1) else (0,0,0)):=by
 have ho:bN (ys.getD 0 0) j (ys.getD j 0)=true:=by rw [jM ys j hj h];exact lh ys _ j hj hn
 have hv:eU ys j=eU ys (j - 1) * 64+ys.getD j 0 % 64:=by
  obtain ⟨i,rfl⟩ : ∃ i,j=i+1:=⟨j - 1,by omega⟩
  rfl
 have h0:¬ ((j:Int)=0):=by omega
 unfold db ch dR dZ da ed;simp only [if_neg h0,ho,if_true,hv]
 by_cases hl:(j:Int)+1<aw (ys.getD 0 0)
 ·simp only [if_pos hl];exact ⟨trivial,trivial⟩
 ·simp only [if_neg hl];exact ⟨trivial,trivial⟩
theorem nF(ys:List Int)(h:aw (ys.getD 0 0)≠0)(hy:0<ys.length):∀ j,1<=j->j<=fw ys (aw (ys.getD 0 0)) ->
  aE (0,0,0) (ys.take j)=(if (j:Int)<aw (ys.getD 0 0) then [] else [eU ys (j - 1)])/\aI (0,0,0) (ys.take j)=(if (j:Int)<aw (ys.getD 0 0) then (ys.getD 0 0,eU ys (j - 1),(j:Int)) else (0,0,0))
 |0,h1,_=>by omega
 |1,_,_=>by
  have ht:ys.take 1=[ys.getD 0 0]:=by cases ys with | nil=>simp at hy | cons y ys=>simp
  rw [ht];show be (ys.getD 0 0)++[]=(if ((1:Nat):Int)<aw (ys.getD 0 0) then [] else [bY (ys.getD 0 0)])/\(bB (ys.getD 0 0),aV (ys.getD 0 0),bC (ys.getD 0 0))=(if ((1:Nat):Int)<aw (ys.getD 0 0) then (ys.getD 0 0,bY (ys.getD 0 0),((1:Nat):Int)) else (0,0,0));generalize ys.getD 0 0=y at h;unfold be bB aV bC
  rcases bq y with ⟨h2,hs⟩ | ⟨h2,h3,hs⟩ | ⟨h2,h3,hs⟩ | ⟨h2,h3,hs⟩ | ⟨h2,h3,hs⟩ | ⟨h2,hs⟩
  ·have hq:bY y=y:=by unfold bY;rw [hs];simp
   rw [hs,hq];simp
  ·exact absurd hs h
  ·rw [hs];simp
  ·rw [hs];simp
  ·rw [hs];simp
  ·exact absurd hs h
 |j+2,_,hn=>by
  obtain ⟨i1,i2⟩:=nF ys h hy (j+1) (by omega) (by omega);have hbl:=fJ ys (aw (ys.getD 0 0)) hy;have hL:((j+1:Nat):Int)<aw (ys.getD 0 0):=by omega
  rw [if_pos hL] at i1 i2;obtain ⟨m1,m2⟩:=qK ys (j+1) (by omega) (by omega) (by omega);rw [show ys.take (j+2)=ys.take (j+1+1) from rfl,fG (0,0,0) ys (j+1) (by omega),fH (0,0,0) ys (j+1) (by omega),i1,i2,m1,m2,List.nil_append];exact ⟨rfl,rfl⟩
def nK(ys:List Int):Nat:=if aw (ys.getD 0 0)=0 then 0 else fw ys (aw (ys.getD 0 0))
theorem yD(ys:List Int)(hr:∀ i,i<ys.length->0<=ys.getD i 0/\ys.getD i 0<=255)(j:Nat)(h:(j:Int)<aw (ys.getD 0 0))(hj:j<ys.length)(Dc:∀ i,1<=i->i<j->okB ys i=true) :
  eH (ys.take (j+1))=if j=0\/okB ys j=true then aw (ys.getD 0 0) else 0:=by
 have hle:=jK (ys.getD 0 0);obtain ⟨r0,r1⟩:=hr 0 (by omega)
 match j,h,hj,Dc with
 |0,h,hj,_ =>
  rw [if_pos (.inl rfl),show ys.take (0+1)=[ys.getD 0 0] by cases ys with | nil=>simp at hj | cons y ys=>simp];exact Ap _ r0 r1
 |1,h,hj,_ =>
  have e:ys.take (1+1)=[ys.getD 0 0,ys.getD 1 0]:=by
   match ys,hj with
   |a :: b :: t,_=>simp
  have hn:=jM ys 1 (by omega) (by omega);unfold bN at hn;rw [if_neg (by decide)] at hn;rw [e,AH _ _ (by omega) r0,<-hn]
  by_cases hx:lo2 (ys.getD 0 0)<=ys.getD 1 0/\ys.getD 1 0<=hi2 (ys.getD 0 0)
  ·rw [if_pos hx,if_pos (.inr (by rw [decide_eq_true hx.1,decide_eq_true hx.2];rfl))]
  ·rw [if_neg hx,if_neg (by
    rintro (h1 | h1)
    ·omega
    ·rw [Bool.and_eq_true,decide_eq_true_eq,decide_eq_true_eq] at h1;exact hx h1)]
 |2,h,hj,Dc =>
  have e:ys.take (2+1)=[ys.getD 0 0,ys.getD 1 0,ys.getD 2 0]:=by
   match ys,hj with
   |a :: b :: c :: t,_=>simp
  have h1:=td (Dc 1 (by omega) (by omega));have hn:=jM ys 2 (by omega) (by omega);unfold bN at hn;rw [if_pos (by decide)] at hn;rw [e,AI _ _ _ (by omega) r0 h1.1 h1.2.1,<-hn]
  by_cases hx:128<=ys.getD 2 0/\ys.getD 2 0<=191
  ·rw [if_pos hx,if_pos (.inr (tailB_true.2 hx))]
  ·rw [if_neg hx,if_neg (by simp only [tailB_true];omega)]
 |3,h,hj,Dc =>
  have e:ys.take (3+1)=[ys.getD 0 0,ys.getD 1 0,ys.getD 2 0,ys.getD 3 0]:=by
   match ys,hj with
   |a :: b :: c :: d :: t,_=>simp
  have h1:=td (Dc 1 (by omega) (by omega));have h2:=yF (Dc 2 (by omega) (by omega));have hn:=jM ys 3 (by omega) (by omega);unfold bN at hn;rw [if_pos (by decide)] at hn;rw [e,AJ _ _ _ _ (by omega) r0 h1.1 h1.2.1 h2.1 h2.2,<-hn]
  by_cases hx:128<=ys.getD 3 0/\ys.getD 3 0<=191
  ·rw [if_pos hx,if_pos (.inr (tailB_true.2 hx))]
  ·rw [if_neg hx,if_neg (by simp only [tailB_true];omega)]
 |j+4,h,_,_=>omega
theorem AK(ys:List Int)(hr:∀ i,i<ys.length->0<=ys.getD i 0/\ys.getD i 0<=255)(hy:0<ys.length)(k:Nat)(hk:k<nK ys) :
  k<ys.length/\eH (ys.take (k+1))=aw (ys.getD 0 0)/\0<aw (ys.getD 0 0)/\(aw (ys.getD 0 0)=(k:Int)+1->nK ys=k+1):=by
 unfold nK at hk ⊢;have hbl:=fJ ys (aw (ys.getD 0 0)) hy;have hlc:=bq (ys.getD 0 0)
 by_cases h0:aw (ys.getD 0 0)=0
 ·rw [if_pos h0] at hk;omega
 ·rw [if_neg h0] at hk ⊢;have Pm:(k:Int)<aw (ys.getD 0 0):=by omega
  refine ⟨by omega,?_,by omega,fun h=>by omega⟩;rw [yD ys hr k Pm (by omega) (fun i h1 h2=>lh ys (aw (ys.getD 0 0)) i h1 (by omega))]
  by_cases Ex:k=0
  ·rw [if_pos (.inl Ex)]
  ·rw [if_pos (.inr (lh ys _ k (by omega) hk))]
theorem Ar(ys:List Int)(hr:∀ i,i<ys.length->0<=ys.getD i 0/\ys.getD i 0<=255)(hy:0<ys.length)(hk:nK ys<ys.length)(hn:nK ys=0\/aw (ys.getD 0 0)≠nK ys):eH (ys.take (nK ys+1))=0:=by
 unfold nK at hk hn ⊢;have hbl:=fJ ys (aw (ys.getD 0 0)) hy;have hlc:=bq (ys.getD 0 0)
 by_cases h0:aw (ys.getD 0 0)=0
 ·rw [if_pos h0] at hk hn ⊢;rw [show ys.take (0+1)=[ys.getD 0 0] by cases ys with | nil=>simp at hy | cons y ys=>simp];obtain ⟨r0,r1⟩:=hr 0 hy;rw [Ap _ r0 r1,h0]
 ·rw [if_neg h0] at hk hn ⊢;have Pm:(fw ys (aw (ys.getD 0 0)):Int)<aw (ys.getD 0 0):=by omega
  rw [yD ys hr _ Pm hk (fun i h1 h2=>lh ys _ i h1 h2),if_neg];rw [qJ ys Pm hk];rintro (h1 | h1)
  ·omega
  ·exact absurd h1 (by decide)
def opn(xs:List Int)(p:Nat):Prop:=aw (xs.getD p 0)≠0/\(cd xs p:Int)≠aw (xs.getD p 0)
theorem kn{xs:List Int}{p:Nat}(h:aw (xs.getD p 0)=0):cO xs p=(65533,(p:Int),1,(p:Int)+1,true)/\cd xs p=1:=by
 unfold cO cd;rw [if_pos h,if_pos h];exact ⟨rfl,rfl⟩
theorem gJ{xs:List Int}{p:Nat}(h:aw (xs.getD p 0)≠0)(he:(cd xs p:Int)=aw (xs.getD p 0)):cO xs p=(eU (xs.drop p) (cd xs p - 1),(p:Int),(cd xs p:Int),(p:Int)+cd xs p,false):=by
 have hn:=ef xs p;unfold cd at he hn ⊢;unfold cO;rw [if_neg h] at he hn ⊢;rw [if_neg h,if_pos he,nE _ _ _ (by omega)]
theorem gh{xs:List Int}{p:Nat}(h:opn xs p):cO xs p=(65533,(p:Int),(cd xs p:Int),min ((p:Int)+cd xs p+1) xs.length,true):=by
 obtain ⟨h,he⟩:=h;unfold cd at he ⊢;unfold cO;rw [if_neg h] at he ⊢;rw [if_neg h,if_neg he]
theorem nI{xs:List Int}{p:Nat}(hp:p<xs.length)(h:opn xs p):2<=aw (xs.getD p 0)/\(cd xs p:Int)<aw (xs.getD p 0)/\cd xs p=fw (xs.drop p) (aw (xs.getD p 0)):=by
 obtain ⟨h,he⟩:=h;unfold cd at he ⊢;rw [if_neg h] at he ⊢;have hbl:=fJ (xs.drop p) (aw (xs.getD p 0)) (by simp;omega);have hlc:=bq (xs.getD p 0);omega
inductive Pt (xs:List Int):Nat->Nat->St->Prop
 | clean (k q:Nat) (h:bZ xs k=q) (hc:k=0\/¬ opn xs (bZ xs (k - 1))):Pt xs q k (0,0,0)
 | opened (k q p:Nat) (hp:bZ xs k=p) (hq:bZ xs (k+1)=q) (hpl:p<xs.length) (ho:opn xs p):Pt xs q k (xs.getD p 0,eU (xs.drop p) (cd xs p - 1),(cd xs p:Int))
 | mid (k q p j:Nat) (hp:bZ xs k=p) (hq:q=p+j) (hpl:p<xs.length) (h1:1<=j) (hj:j<cd xs p):Pt xs q k (xs.getD p 0,eU (xs.drop p) (j - 1),(j:Int))
theorem ms(xs:List Int)(k:Nat):bZ xs (k+1)=bZ xs k+cd xs (bZ xs k):=rfl
def knG(xs:List Int)(i:Nat):Int:=(cO xs (bZ xs i)).2.2.2.1
theorem qL(xs:List Int)(k q:Nat)(hq:bZ xs k=q)(KV:q<xs.length)(s:St)(pre:List Int)(hs:ch s (xs.getD q 0)=(bB (xs.getD q 0),aV (xs.getD q 0),bC (xs.getD q 0)))
  (ht:db s (xs.getD q 0)=pre++be (xs.getD q 0)) :
  ∃ c',Pt xs (q+1) c' (ch s (xs.getD q 0))/\k<=c'/\dm xs c'=dm xs k++be (xs.getD q 0)/\∀ i,k<=i->i<c'->knG xs i=(q:Int)+1:=by
 rw [hs];have hlc:=bq (xs.getD q 0);have hle:=li xs q KV;have Lp:=ef xs q;have Db:=gi xs k;rw [hq] at Db;have Jk:=ms xs k;rw [hq] at Jk
 by_cases h0:aw (xs.getD q 0)=0
 ·obtain ⟨hp,hl⟩:=kn h0;have hb:(bB (xs.getD q 0),aV (xs.getD q 0),bC (xs.getD q 0))=(0,0,0):=by unfold bB aV bC;rw [h0];rfl
  rw [hb];rw [hp] at Db;refine ⟨k+1,Pt.clean (k+1) (q+1) (by omega) (.inr ?_),by omega,by rw [Db];unfold be;rw [if_pos h0],fun i h1 h2=>?_⟩
  ·rw [Nat.add_sub_cancel,hq];exact fun h=>h.1 h0
  ·obtain rfl:i=k:=by omega
   unfold knG;rw [hq,hp]
 ·have Ff:(xs.drop q).getD 0 0=xs.getD q 0:=by rw [dS];rfl
  by_cases h1:aw (xs.getD q 0)=1
  ·have Eg:cd xs q=1:=by
    have hbl:=fJ (xs.drop q) (aw (xs.getD q 0)) (by simp;omega);unfold cd;rw [if_neg h0];omega
   have hp:=gJ h0 (by rw [Eg,h1];rfl);have hb:(bB (xs.getD q 0),aV (xs.getD q 0),bC (xs.getD q 0))=(0,0,0):=by unfold bB aV bC;rw [h1];rfl
   have hv:eU (xs.drop q) (cd xs q - 1)=xs.getD q 0:=by
    rw [Eg];show bY ((xs.drop q).getD 0 0)=_;rw [Ff];unfold bY;rw [h1];simp
   rw [hb];rw [hp,hv] at Db;refine ⟨k+1,Pt.clean (k+1) (q+1) (by omega) (.inr ?_),by omega,by rw [Db];unfold be;rw [if_neg h0,if_pos h1],fun i h2 h3=>?_⟩
   ·rw [Nat.add_sub_cancel,hq];exact fun h=>h.2 (by rw [Eg,h1];rfl)
   ·obtain rfl:i=k:=by omega
    unfold knG;rw [hq,hp,Eg];rfl
  ·have h2:2<=aw (xs.getD q 0):=by omega
   have hb:(bB (xs.getD q 0),aV (xs.getD q 0),bC (xs.getD q 0))=(xs.getD q 0,eU (xs.drop q) 0,1):=by
    unfold bB aV bC;rw [if_pos h2,if_pos h2,if_pos h2];show _=(_,bY ((xs.drop q).getD 0 0),_);rw [Ff]
   have KH:be (xs.getD q 0)=[]:=by unfold be;rw [if_neg h0,if_neg h1]
   rw [hb,KH,List.append_nil]
   by_cases hn:cd xs q=1
   ·have ho:opn xs q:=⟨h0,by rw [hn];omega⟩;have:=Pt.opened (xs:=xs) k (q+1) q hq (by omega) KV ho;rw [hn] at this;exact ⟨k,this,Nat.le_refl _,rfl,fun i h3 h4=>by omega⟩
   ·exact ⟨k,Pt.mid (xs:=xs) k (q+1) q 1 hq rfl KV (Nat.le_refl _) (by omega),Nat.le_refl _,rfl,fun i h3 h4=>by omega⟩
theorem zG{xs:List Int}{q c:Nat}{s:St}(h:Pt xs q c s)(KV:q<xs.length) :
  ∃ c',Pt xs (q+1) c' (ch s (xs.getD q 0))/\c<=c'/\dm xs c'=dm xs c++db s (xs.getD q 0)/\∀ i,c<=i->i<c'->knG xs i=(q:Int)+1:=by
 cases h with
 |clean k q hq hc =>
  obtain ⟨c',h1,h2,h3,h4⟩:=qL xs c q hq KV (0,0,0) [] rfl rfl;exact ⟨c',h1,h2,h3,h4⟩
 |opened k q p hp hq hpl ho =>
  obtain ⟨o1,o2,o3⟩:=nI hpl ho;have Ff:(xs.drop p).getD 0 0=xs.getD p 0:=by rw [dS];rfl
  have Jk:=ms xs c;rw [hp,hq] at Jk;have hno:=jM (xs.drop p) (cd xs p) (ef _ _) (by rw [Ff];exact o1);rw [Ff,dS,<-Jk] at hno;have hbe:=qJ (xs.drop p) (by rw [Ff,<-o3];exact o2) (by rw [Ff,<-o3];simp;omega);rw [Ff,<-o3] at hbe;rw [hbe] at hno;have hh:¬ ((cd xs p:Int)=0):=by have:=ef xs p;omega
  have hs:ch (xs.getD p 0,eU (xs.drop p) (cd xs p - 1),(cd xs p:Int)) (xs.getD q 0)=(bB (xs.getD q 0),aV (xs.getD q 0),bC (xs.getD q 0)):=by
   unfold ch dZ da ed;simp only [if_neg hh,hno,Bool.false_eq_true,if_false]
  have ht:db (xs.getD p 0,eU (xs.drop p) (cd xs p - 1),(cd xs p:Int)) (xs.getD q 0)=[65533]++be (xs.getD q 0):=by
   unfold db dR;simp only [if_neg hh,hno,Bool.false_eq_true,if_false,List.cons_append,List.nil_append]
  obtain ⟨c',h1,h2,h3,h4⟩:=qL xs (c+1) q hq KV _ [65533] hs ht;have Db:=gi xs c;rw [hp,gh ho] at Db;refine ⟨c',h1,by omega,by rw [h3,Db,ht,List.append_assoc],fun i i1 i2=>?_⟩
  rcases Nat.lt_or_ge c i with h5 | h5
  ·exact h4 i h5 i2
  ·obtain rfl:i=c:=by omega
   unfold knG;rw [hp,gh ho];show min _ _=_;omega
 |mid k q p j hp hq hpl h1 hj =>
  have Ff:(xs.drop p).getD 0 0=xs.getD p 0:=by rw [dS];rfl
  have h0:aw (xs.getD p 0)≠0:=by
   intro h;have:=(kn h).2;omega
  have DA:cd xs p=fw (xs.drop p) (aw (xs.getD p 0)):=by unfold cd;rw [if_neg h0]
  have hbl:=fJ (xs.drop p) (aw (xs.getD p 0)) (by simp;omega);rw [<-DA] at hbl;have hlc:=bq (xs.getD p 0);obtain ⟨m1,m2⟩:=qK (xs.drop p) j (by rw [Ff];omega) h1 (by rw [Ff,<-DA];exact hj);rw [Ff,dS,<-hq] at m1 m2;have Jk:=ms xs c;rw [hp] at Jk;rw [m1,m2]
  by_cases hl:(j:Int)+1<aw (xs.getD p 0)
  ·rw [if_pos hl,if_pos hl,List.append_nil];refine ⟨c,?_,Nat.le_refl _,rfl,fun i i1 i2=>by omega⟩
   by_cases O8:j+1<cd xs p
   ·exact Pt.mid (xs:=xs) c (q+1) p (j+1) hp (by omega) hpl (by omega) O8
   ·have Nc:cd xs p=j+1:=by omega
    have:=Pt.opened (xs:=xs) c (q+1) p hp (by omega) hpl ⟨h0,by rw [Nc];omega⟩;rw [Nc] at this;exact this
  ·have Nc:cd xs p=j+1:=by omega
   have hpw:=gJ h0 (by rw [Nc];omega);rw [if_neg hl,if_neg hl];have Db:=gi xs c;rw [hp,hpw,Nc] at Db;refine ⟨c+1,Pt.clean (c+1) (q+1) (by omega) (.inr ?_),by omega,Db,fun i i1 i2=>?_⟩
   ·rw [Nat.add_sub_cancel,hp];exact fun h=>h.2 (by rw [Nc];omega)
   ·obtain rfl:i=c:=by omega
    unfold knG;rw [hp,hpw,Nc,hq];show (p:Int)+((j+1:Nat):Int)=_;omega
theorem zH(xs:List Int):Pt xs 0 0 (0,0,0):=Pt.clean 0 0 rfl (.inl rfl)
theorem Au{xs:List Int}{c:Nat}{s:St}(h:Pt xs xs.length c s)(K:Nat)(hK:bZ xs K=xs.length) :
  s.2.2=nJ xs K/\((s.2.2=0/\c=K)\/(0<s.2.2/\K=c+1/\dm xs K=dm xs c++[65533])):=by
 generalize hn:xs.length=n at h hK
 cases h with
 |clean k q hq hc =>
  obtain rfl:c=K:=qO xs (by omega);refine ⟨?_,.inl ⟨rfl,rfl⟩⟩;show (0:Int)=nJ xs c;unfold nJ;rw [if_neg];rintro ⟨h1,h2⟩;unfold qN at h1
  rcases hc with h0 | h0
  ·rw [if_pos h0] at h1;exact absurd h1 (by simp)
  ·by_cases hc0:c=0
   ·rw [if_pos hc0] at h1;exact absurd h1 (by simp)
   ·rw [if_neg hc0] at h1;have hne:aw (xs.getD (bZ xs (c - 1)) 0)≠0:=by omega
    have he:(cd xs (bZ xs (c - 1)):Int)=aw (xs.getD (bZ xs (c - 1)) 0):=Classical.byContradiction fun h=>h0 ⟨hne,h⟩
    rw [gJ hne he] at h1;exact absurd h1 (by simp)
 |opened k q p hp hq hpl ho =>
  obtain rfl:c+1=K:=qO xs (by omega);obtain ⟨o1,o2,o3⟩:=nI hpl ho;have Lp:=ef xs p;have Db:=gi xs c;rw [hp,gh ho] at Db;refine ⟨?_,.inr ⟨by show (0:Int)<cd xs p;omega,rfl,Db⟩⟩;show (cd xs p:Int)=nJ xs (c+1);have hl:qN xs (c+1)=cO xs p:=by unfold qN;rw [if_neg (by omega),Nat.add_sub_cancel,hp]
  unfold nJ;rw [hl,gh ho,Nat.add_sub_cancel,hp,if_pos ⟨rfl,by omega⟩]
 |mid k q p j hp hq hpl h1 hj =>
  exfalso;have:=li xs p hpl;omega
theorem yE(xs:List Int):∀ q,q<=xs.length->∃ c,Pt xs q c (aI (0,0,0) (xs.take q))/\aE (0,0,0) (xs.take q)=dm xs c
 |0,_=>⟨0,zH xs,rfl⟩
 |q+1,h=>by
  obtain ⟨c,h1,h2⟩:=yE xs q (by omega);obtain ⟨c',i1,_,i3,_⟩:=zG h1 (by omega);rw [fH (0,0,0) xs q (by omega),fG (0,0,0) xs q (by omega),h2];exact ⟨c',i1,i3.symm⟩
theorem qM(xs:List Int)(K:Nat)(hK:bZ xs K=xs.length) :
  (aI (0,0,0) xs).2.2=nJ xs K/\aE (0,0,0) xs++(if 0<(aI (0,0,0) xs).2.2 then [65533] else [])=dm xs K:=by
 obtain ⟨c,h1,h2⟩:=yE xs xs.length (Nat.le_refl _);rw [List.take_length] at h1 h2;obtain ⟨e1,e2⟩:=Au h1 K hK;refine ⟨e1,?_⟩
 rcases e2 with ⟨e2,rfl⟩ | ⟨e2,e3,e4⟩
 ·rw [if_neg (by omega),List.append_nil,h2]
 ·rw [if_pos e2,h2,e4]
theorem vm(k:Nat)(k1:1<=k)(k4:k<=4)(v:Value)(b:List Int)(w:World)(hb:Held .u8 w v b)(hl:1<=b.length)(hr:∀ i,i<b.length->0<=b.getD i 0/\b.getD i 0<=255) :
  Calls Tryz.prog 207 #[v,.int .i64 k] w (Gives w (.bool (decide (bf b k)))):=by
 match k,k1,k4 with
 |1,_,_=>exact vn v b w hb hl hr
 |2,_,_=>exact vp v b w hb hl hr
 |3,_,_=>exact vq v b w hb hl hr
 |4,_,_=>exact vr v b w hb hl hr
theorem zE{b:List Int}{k:Nat}(k1:1<=k)(k4:k<=4)(hl:b.length<=k)(hs:bf b k)(hn:∀ m,1<=m->m<k->¬ (b.length<=m/\bf b m)):eH b=k:=by
 unfold eH
 match k,k1,k4 with
 | 1,_,_=>rw [if_pos ⟨hl,hs⟩];rfl
 | 2,_,_=>rw [if_neg (hn 1 (by decide) (by decide)),if_pos ⟨hl,hs⟩];rfl
 | 3,_,_=>rw [if_neg (hn 1 (by decide) (by decide)),if_neg (hn 2 (by decide) (by decide)),if_pos ⟨hl,hs⟩];rfl
 | 4,_,_=>rw [if_neg (hn 1 (by decide) (by decide)),if_neg (hn 2 (by decide) (by decide)),if_neg (hn 3 (by decide) (by decide)),if_pos ⟨hl,hs⟩];rfl
theorem yx{b:List Int}(hn:∀ m,1<=m->m<5->¬ (b.length<=m/\bf b m)):eH b=0:=by
 unfold eH;rw [if_neg (hn 1 (by decide) (by decide)),if_neg (hn 2 (by decide) (by decide)),if_neg (hn 3 (by decide) (by decide)),if_neg (hn 4 (by decide) (by decide))]
theorem fu(v:Value)(b:List Int)(w:World)(hb:Held .u8 w v b)(hl:1<=b.length)(hm:b.length<=1000000)(hr:∀ i,i<b.length->0<=b.getD i 0/\b.getD i 0<=255) :
  Calls Tryz.prog 156 #[v] w (Gives w (.int .i64 (eH b))):=by
 obtain ⟨ao,ca,rfl,_⟩:=hb.view;have HB:=ab hb;have HR:=ab hr;clear hb hr;have dl:decide ((1:Int)<=(b.length:Int))=true:=decide_eq_true (by omega)
 go_enter Tryz.func156,Tryz.ntmps156
 go_wp2
 go_loopw [3] (fun i wr=>∃ k:Nat,1<=k/\k<=5/\i=.int .i64 k/\Hid (∀ m,1<=m->m<k->¬ (b.length<=m/\bf b m))/\Below w.heap.size w wr) (fun i _=>5 - (intOf i).toNat)
 case atStart=>exact ⟨1,Nat.le_refl _,by decide,rfl,ab (fun m h1 h2=>by omega),Below.refl _ _⟩
 case round =>
  obtain ⟨k,k1,k5,rfl,HN,AY⟩:=hrel
  by_cases h4:k<=4
  ·have d4:decide ((k:Int)<=4)=true:=decide_eq_true (by omega)
   by_cases hlk:b.length<=k
   ·have dk:decide ((b.length:Int)<=(k:Int))=true:=decide_eq_true (by omega);have HS:=ab (vm k k1 h4 _ b wr (HB.out.below AY) hl HR.out)
    go_wp2_with fail
    refine HS.out.mono ?_;rintro e w2 ⟨rfl,b2⟩;have hb2:=AY.trans (b2.mono AY.size)
    cases hsm:decide (bf b k) with
    |true =>
     have HV:=ab (zE k1 h4 hlk (of_decide_eq_true hsm) HN.out);clear hsm HN HS;go_wp2;go_ret;exact ⟨al (by rw [HV.out];rfl),hb2⟩
    |false =>
     have F3:=ab (show ∀ m,1<=m->m<k+1->¬ (b.length<=m/\bf b m) from fun m h1 h2=>by
      by_cases e:m=k
      ·subst e;exact fun h=>of_decide_eq_false hsm h.2
      ·exact HN.out m h1 (by omega))
     clear hsm HN HS;go_wp2
     go_roundw
     case rel=>exact ⟨k+1,by omega,by omega,by go_num,F3,hb2⟩
     case measure=>simp [intOf] <;> omega
   ·have dk:decide ((b.length:Int)<=(k:Int))=false:=decide_eq_false (by omega);have F3:=ab (show ∀ m,1<=m->m<k+1->¬ (b.length<=m/\bf b m) from fun m h1 h2=>by
     by_cases e:m=k
     ·subst e;exact fun h=>hlk h.1
     ·exact HN.out m h1 (by omega))
    clear HN;go_wp2
    go_roundw
    case rel=>exact ⟨k+1,by omega,by omega,by go_num,F3,AY⟩
    case measure=>simp [intOf] <;> omega
  ·obtain rfl:k=5:=by omega
   have HV:=ab (yx HN.out);clear HN;go_wp2;go_ret;exact ⟨al (by rw [HV.out];rfl),AY⟩
theorem qH(b:List Int)(v:Int)(hv0 : -300<=v)(Nw:v<=300)(hr:∀ i,i<b.length->0<=b.getD i 0/\b.getD i 0<=255):∀ s,s<b.length -> -(300 * 65 ^ s)<=whF b v s/\whF b v s<=300 * 65 ^ s
 |0,_=>by simp only [whF];omega
 |s+1,h=>by
  obtain ⟨i1,i2⟩:=qH b v hv0 Nw hr s (by omega);have h1:=hr (s+1) h;have e:(65:Int) ^ (s+1)=65 ^ s * 65:=Int.pow_succ ..;have p:(1:Int)<=65 ^ s:=by have:=Int.pow_pos (n:=65) (m:=s) (by decide);omega
  simp only [whF];rw [e];generalize (65:Int) ^ s=q at *;omega
theorem sU{s:Nat}(h:s<=3):(300:Int) * 65 ^ s<=82387500:=by
 match s,h with
 | 0,_=>decide
 | 1,_=>decide
 | 2,_=>decide
 | 3,_=>decide
theorem sh(v:Value)(b:List Int)(w:World)(hb:Held .u8 w v b)(hl:b.length=1)(hr:∀ i,i<b.length->0<=b.getD i 0/\b.getD i 0<=255) :
  Calls Tryz.prog 208 #[v] w (Gives w (.int .i32 (cD b))):=by
 obtain ⟨ao,ca,rfl,hc⟩:=hb.view;have HC:=ab hc;have HR:=ab hr;obtain ⟨bb,off,rfl,De,hc0⟩:=HC.out 0 (by omega);simp only [Nat.add_zero] at hc0;obtain ⟨x0,x1⟩:=HR.out 0 (by omega);have C9:cD b=whF b (b.getD 0 0 - 0) 0:=by unfold cD;rw [hl];rfl
 have Fs:=fun s hs=>qH b (b.getD 0 0 - 0) (by omega) (by omega) hr s hs
 obtain ⟨y,hy⟩:=ae (b.getD 0 0 - 0);rw [<-hy] at C9 Fs;have Er:b.getD 0 0=y+0:=by omega
 rw [Er] at hc0 x0 x1;have K3:=ab C9;have Jm:=ab Fs;have HL:=ab hl;have My:y+0 - 0=y:=by omega
 rw [hl] at *;clear hc hb hr hy Er C9 Fs;have hbl:∀ o1 nq,Below w.heap.size w ((w.alloc o1).drewN nq):=fun o1 nq=>(AU _ o1).drewN nq
 have Ca:=ab hbl;clear hbl
 go_enter Tryz.func208,Tryz.ntmps208
 go_wp2
 go_quiet (fail)
 have hw0:=Ca.out (.cells #[.int .i64 0,.int .i64 0,.int .i64 192,.int .i64 224,.int .i64 240] 3) nq;go_wp2;obtain ⟨W,hW⟩:=ae ((w.alloc (.cells #[.int .i64 0,.int .i64 0,.int .i64 192,.int .i64 224,.int .i64 240] 3)).drewN nq);rw [<-hW] at hw0 ⊢;clear hW hc0
 go_loopw [4,5] (fun vv i wr=>∃ s:Nat,s<=0/\i=.int .i64 ((s:Int)+1)/\vv=.int .i64 (whF b y s)/\Below w.heap.size w wr) (fun _ i _=>1 - (intOf i).toNat)
 case atStart=>exact ⟨0,Nat.zero_le _,rfl,rfl,hw0⟩
 case round =>
  obtain ⟨s,hs,rfl,rfl,AY⟩:=hrel;obtain ⟨l1,l2⟩:=Jm.out s (by omega);have l4:=sU (s:=s) (by omega);have l5 : -82387500<=whF b y s/\whF b y s<=82387500:=by omega
  clear l1 l2 l4
  by_cases hlt:s<0
  ·exact absurd hlt (Nat.not_lt_zero _)
  ·obtain rfl:s=0:=by omega
   generalize whF b y 0=u at *;go_wp2;go_ret;exact ⟨al (by rw [K3.out];simp),AY⟩
theorem si(v:Value)(b:List Int)(w:World)(hb:Held .u8 w v b)(hl:b.length=2)(hr:∀ i,i<b.length->0<=b.getD i 0/\b.getD i 0<=255) :
  Calls Tryz.prog 208 #[v] w (Gives w (.int .i32 (cD b))):=by
 obtain ⟨ao,ca,rfl,hc⟩:=hb.view;have HC:=ab hc;have HR:=ab hr;obtain ⟨bb,off,rfl,De,hc0⟩:=HC.out 0 (by omega);simp only [Nat.add_zero] at hc0;obtain ⟨x0,x1⟩:=HR.out 0 (by omega);have C9:cD b=whF b (b.getD 0 0 - 192) 1:=by unfold cD;rw [hl];rfl
 have Fs:=fun s hs=>qH b (b.getD 0 0 - 192) (by omega) (by omega) hr s hs
 obtain ⟨y,hy⟩:=ae (b.getD 0 0 - 192);rw [<-hy] at C9 Fs;have Er:b.getD 0 0=y+192:=by omega
 rw [Er] at hc0 x0 x1;have K3:=ab C9;have Jm:=ab Fs;have HL:=ab hl;have My:y+192 - 192=y:=by omega
 rw [hl] at *;clear hc hb hr hy Er C9 Fs;have hbl:∀ o1 nq,Below w.heap.size w ((w.alloc o1).drewN nq):=fun o1 nq=>(AU _ o1).drewN nq
 have Ca:=ab hbl;clear hbl
 go_enter Tryz.func208,Tryz.ntmps208
 go_wp2
 go_quiet (fail)
 have hw0:=Ca.out (.cells #[.int .i64 0,.int .i64 0,.int .i64 192,.int .i64 224,.int .i64 240] 3) nq;go_wp2;obtain ⟨W,hW⟩:=ae ((w.alloc (.cells #[.int .i64 0,.int .i64 0,.int .i64 192,.int .i64 224,.int .i64 240] 3)).drewN nq);rw [<-hW] at hw0 ⊢;clear hW hc0
 go_loopw [4,5] (fun vv i wr=>∃ s:Nat,s<=1/\i=.int .i64 ((s:Int)+1)/\vv=.int .i64 (whF b y s)/\Below w.heap.size w wr) (fun _ i _=>2 - (intOf i).toNat)
 case atStart=>exact ⟨0,Nat.zero_le _,rfl,rfl,hw0⟩
 case round =>
  obtain ⟨s,hs,rfl,rfl,AY⟩:=hrel;obtain ⟨l1,l2⟩:=Jm.out s (by omega);have l4:=sU (s:=s) (by omega);have l5 : -82387500<=whF b y s/\whF b y s<=82387500:=by omega
  clear l1 l2 l4
  by_cases hlt:s<1
  ·obtain ⟨b2,o2,e2,_,B0⟩:=HC.out (s+1) (by omega)
   cases e2
   have B0:=(AY.cell (p:=⟨bb,off+(s+1),none⟩) De).trans B0;obtain ⟨z0,z1⟩:=HR.out (s+1) (by omega);have HST:=ab (show whF b y (s+1)=whF b y s * 64+b.getD (s+1) 0 - 128 from rfl);generalize b.getD (s+1) 0=z at *;generalize whF b y s=u at *;go_wp2
   go_roundw
   case rel=>exact ⟨s+1,by omega,by go_num,by rw [HST.out],AY⟩
   case measure=>simp [intOf] <;> omega
  ·obtain rfl:s=1:=by omega
   generalize whF b y 1=u at *;go_wp2;go_ret;exact ⟨al (by rw [K3.out];simp),AY⟩
theorem sj(v:Value)(b:List Int)(w:World)(hb:Held .u8 w v b)(hl:b.length=3)(hr:∀ i,i<b.length->0<=b.getD i 0/\b.getD i 0<=255) :
  Calls Tryz.prog 208 #[v] w (Gives w (.int .i32 (cD b))):=by
 obtain ⟨ao,ca,rfl,hc⟩:=hb.view;have HC:=ab hc;have HR:=ab hr;obtain ⟨bb,off,rfl,De,hc0⟩:=HC.out 0 (by omega);simp only [Nat.add_zero] at hc0;obtain ⟨x0,x1⟩:=HR.out 0 (by omega);have C9:cD b=whF b (b.getD 0 0 - 224) 2:=by unfold cD;rw [hl];rfl
 have Fs:=fun s hs=>qH b (b.getD 0 0 - 224) (by omega) (by omega) hr s hs
 obtain ⟨y,hy⟩:=ae (b.getD 0 0 - 224);rw [<-hy] at C9 Fs;have Er:b.getD 0 0=y+224:=by omega
 rw [Er] at hc0 x0 x1;have K3:=ab C9;have Jm:=ab Fs;have HL:=ab hl;have My:y+224 - 224=y:=by omega
 rw [hl] at *;clear hc hb hr hy Er C9 Fs;have hbl:∀ o1 nq,Below w.heap.size w ((w.alloc o1).drewN nq):=fun o1 nq=>(AU _ o1).drewN nq
 have Ca:=ab hbl;clear hbl
 go_enter Tryz.func208,Tryz.ntmps208
 go_wp2
 go_quiet (fail)
 have hw0:=Ca.out (.cells #[.int .i64 0,.int .i64 0,.int .i64 192,.int .i64 224,.int .i64 240] 3) nq;go_wp2;obtain ⟨W,hW⟩:=ae ((w.alloc (.cells #[.int .i64 0,.int .i64 0,.int .i64 192,.int .i64 224,.int .i64 240] 3)).drewN nq);rw [<-hW] at hw0 ⊢;clear hW hc0
 go_loopw [4,5] (fun vv i wr=>∃ s:Nat,s<=2/\i=.int .i64 ((s:Int)+1)/\vv=.int .i64 (whF b y s)/\Below w.heap.size w wr) (fun _ i _=>3 - (intOf i).toNat)
 case atStart=>exact ⟨0,Nat.zero_le _,rfl,rfl,hw0⟩
 case round =>
  obtain ⟨s,hs,rfl,rfl,AY⟩:=hrel;obtain ⟨l1,l2⟩:=Jm.out s (by omega);have l4:=sU (s:=s) (by omega);have l5 : -82387500<=whF b y s/\whF b y s<=82387500:=by omega
  clear l1 l2 l4
  by_cases hlt:s<2
  ·obtain ⟨b2,o2,e2,_,B0⟩:=HC.out (s+1) (by omega)
   cases e2
   have B0:=(AY.cell (p:=⟨bb,off+(s+1),none⟩) De).trans B0;obtain ⟨z0,z1⟩:=HR.out (s+1) (by omega);have HST:=ab (show whF b y (s+1)=whF b y s * 64+b.getD (s+1) 0 - 128 from rfl);generalize b.getD (s+1) 0=z at *;generalize whF b y s=u at *;go_wp2
   go_roundw
   case rel=>exact ⟨s+1,by omega,by go_num,by rw [HST.out],AY⟩
   case measure=>simp [intOf] <;> omega
  ·obtain rfl:s=2:=by omega
   generalize whF b y 2=u at *;go_wp2;go_ret;exact ⟨al (by rw [K3.out];simp),AY⟩
theorem sl(v:Value)(b:List Int)(w:World)(hb:Held .u8 w v b)(hl:b.length=4)(hr:∀ i,i<b.length->0<=b.getD i 0/\b.getD i 0<=255) :
  Calls Tryz.prog 208 #[v] w (Gives w (.int .i32 (cD b))):=by
 obtain ⟨ao,ca,rfl,hc⟩:=hb.view;have HC:=ab hc;have HR:=ab hr;obtain ⟨bb,off,rfl,De,hc0⟩:=HC.out 0 (by omega);simp only [Nat.add_zero] at hc0;obtain ⟨x0,x1⟩:=HR.out 0 (by omega);have C9:cD b=whF b (b.getD 0 0 - 240) 3:=by unfold cD;rw [hl];rfl
 have Fs:=fun s hs=>qH b (b.getD 0 0 - 240) (by omega) (by omega) hr s hs
 obtain ⟨y,hy⟩:=ae (b.getD 0 0 - 240);rw [<-hy] at C9 Fs;have Er:b.getD 0 0=y+240:=by omega
 rw [Er] at hc0 x0 x1;have K3:=ab C9;have Jm:=ab Fs;have HL:=ab hl;have My:y+240 - 240=y:=by omega
 rw [hl] at *;clear hc hb hr hy Er C9 Fs;have hbl:∀ o1 nq,Below w.heap.size w ((w.alloc o1).drewN nq):=fun o1 nq=>(AU _ o1).drewN nq
 have Ca:=ab hbl;clear hbl
 go_enter Tryz.func208,Tryz.ntmps208
 go_wp2
 go_quiet (fail)
 have hw0:=Ca.out (.cells #[.int .i64 0,.int .i64 0,.int .i64 192,.int .i64 224,.int .i64 240] 3) nq;go_wp2;obtain ⟨W,hW⟩:=ae ((w.alloc (.cells #[.int .i64 0,.int .i64 0,.int .i64 192,.int .i64 224,.int .i64 240] 3)).drewN nq);rw [<-hW] at hw0 ⊢;clear hW hc0
 go_loopw [4,5] (fun vv i wr=>∃ s:Nat,s<=3/\i=.int .i64 ((s:Int)+1)/\vv=.int .i64 (whF b y s)/\Below w.heap.size w wr) (fun _ i _=>4 - (intOf i).toNat)
 case atStart=>exact ⟨0,Nat.zero_le _,rfl,rfl,hw0⟩
 case round =>
  obtain ⟨s,hs,rfl,rfl,AY⟩:=hrel;obtain ⟨l1,l2⟩:=Jm.out s (by omega);have l4:=sU (s:=s) (by omega);have l5 : -82387500<=whF b y s/\whF b y s<=82387500:=by omega
  clear l1 l2 l4
  by_cases hlt:s<3
  ·obtain ⟨b2,o2,e2,_,B0⟩:=HC.out (s+1) (by omega)
   cases e2
   have B0:=(AY.cell (p:=⟨bb,off+(s+1),none⟩) De).trans B0;obtain ⟨z0,z1⟩:=HR.out (s+1) (by omega);have HST:=ab (show whF b y (s+1)=whF b y s * 64+b.getD (s+1) 0 - 128 from rfl);generalize b.getD (s+1) 0=z at *;generalize whF b y s=u at *;go_wp2
   go_roundw
   case rel=>exact ⟨s+1,by omega,by go_num,by rw [HST.out],AY⟩
   case measure=>simp [intOf] <;> omega
  ·obtain rfl:s=3:=by omega
   generalize whF b y 3=u at *;go_wp2;go_ret;exact ⟨al (by rw [K3.out];simp),AY⟩
theorem sm(v:Value)(b:List Int)(w:World)(hb:Held .u8 w v b)(h1:1<=b.length)(h4:b.length<=4)(hr:∀ i,i<b.length->0<=b.getD i 0/\b.getD i 0<=255) :
  Calls Tryz.prog 208 #[v] w (Gives w (.int .i32 (cD b))):=by
 rcases (by omega:b.length=1\/b.length=2\/b.length=3\/b.length=4) with h | h | h | h
 ·exact sh v b w hb h hr
 ·exact si v b w hb h hr
 ·exact sj v b w hb h hr
 ·exact sl v b w hb h hr
def ga(w:World)(r:List Int × List Int)(e:Ending)(w':World):Prop:=∃ vt vh,e=.returned (.tuple #[vt,vh])/\Held .i32 w' vt r.1/\Held .u8 w' vh r.2/\Below w.heap.size w w'/\Fresh w.heap.size vh/\Fresh w.heap.size vt
theorem sS(w:World)(t:TypeId)(k:IntKind)(B:Nat)(hB:B<=w.heap.size)(xs:List Int)(n:Nat)(hn:xs.length=n)(hm:n<=1000000):(w.alloc (.cells (xs.map (Value.int k)).toArray t)).ownsRow B t 1 (.slice (some ⟨w.heap.size,0,none⟩) n n) n (xs.map (Value.int k)):=by
 subst hn;refine ⟨by simp,.inr ⟨w.heap.size,xs.length,_,rfl,hB,heap_alloc_new w _,Nat.le_refl _,by unfold maxLen;omega,by simp,by simp [List.take_of_length_le]⟩⟩
theorem lg:(Tryz.prog.info? 5).map (fun i=>(i.zero,i.size,i.bytes))=some (some (.int .u8 0),1,1):=by kernel_rfl
theorem qG:(Tryz.prog.info? 21).map (fun i=>(i.zero,i.size,i.bytes))=some (some (.int .i32 0),1,4):=by kernel_rfl
theorem sg(H:List Int)(x n:Int)(hn:eH (H++[x])=n) :
  (decide (0<n)=true/\decide (((H++[x]).length:Int)<n)=true/\iD H x=([],H++[x]))\/(decide (0<n)=true/\decide (((H++[x]).length:Int)<n)=false/\iD H x=([cD (H++[x])],[]))
  \/ (decide (0<n)=false/\H=[]/\iD H x=([65533],[]))\/(decide (0<n)=false/\0<H.length/\iD H x=(65533 :: (jJ x).1,(jJ x).2)):=by
 cases H with
 |nil =>
  have O3:eH [x]=n:=hn;unfold iD;rw [if_pos rfl];unfold jJ;rw [O3];show (_/\decide ((1:Int)<n)=true/\_)\/(_/\decide ((1:Int)<n)=false/\_)\/_
  by_cases h0:0<n
  ·by_cases h1:1<n
   ·exact .inl ⟨decide_eq_true h0,decide_eq_true h1,by rw [if_pos h1];rfl⟩
   ·exact .inr (.inl ⟨decide_eq_true h0,decide_eq_false h1,by rw [if_neg h1,if_pos h0];rfl⟩)
  ·exact .inr (.inr (.inl ⟨decide_eq_false h0,rfl,by rw [if_neg (by omega),if_neg h0]⟩))
 |cons a H =>
  unfold iD;rw [if_neg (by simp),hn]
  by_cases h0:0<n
  ·by_cases h1:(((a :: H)++[x]).length:Int)<n
   ·exact .inl ⟨decide_eq_true h0,decide_eq_true h1,by rw [if_pos h1]⟩
   ·exact .inr (.inl ⟨decide_eq_true h0,decide_eq_false h1,by rw [if_neg h1,if_pos h0]⟩)
  ·exact .inr (.inr (.inr ⟨decide_eq_false h0,by simp,by rw [if_neg (by have:0<=(((a :: H)++[x]).length:Int):=Int.natCast_nonneg _;omega),if_neg h0]⟩))
theorem zD(x:Int):(jJ x).1.length<=2:=by unfold jJ;split <;> (try split) <;> simp
theorem nD(H:List Int)(hE:0<H.length->∀ (x:Int) (w:World),0<=x->x<=255->Calls Tryz.prog 157 #[.slice none 0 0,.int .u8 x] w (ga w (jJ x)))
  (x:Int) (v:Value) (w:World) (hv:Held .u8 w v H) (hl:H.length<=3) (hr:∀ i,i<H.length->0<=H.getD i 0/\H.getD i 0<=255) (x0:0<=x) (x1:x<=255) :
  Calls Tryz.prog 157 #[v,.int .u8 x] w (ga w (iD H x)):=by
 obtain ⟨ao,ca,rfl⟩:=hv.len;have hva:=hv.below (AU w (.cells #[] 5));obtain ⟨n,hn⟩ : ∃ n,eH (H++[x])=n:=⟨_,rfl⟩;have hcs:=sg H x n hn;have HN:=ab hn;clear hn;have hrW:∀ i,i<(H++[x]).length->0<=(H++[x]).getD i 0/\(H++[x]).getD i 0<=255:=by
  intro i hi
  rcases Nat.lt_or_ge i H.length with h | h
  ·have:=hr i h
   simpa [List.getD,List.getElem?_append,h] using this
  ·have:i=H.length:=by simp at hi;omega
   subst this
   simp [List.getD,List.getElem?_append]
   omega
 have JM:=ab hrW;have Oc:=ab hcs;have HE:=ab hE;clear hv hrW hcs hr hE;have HVA:=ab hva;clear hva
 go_enter Tryz.func157,Tryz.ntmps157
 go_wp2_with (at_builtin;refine cW (w.alloc (.cells #[] 5)) rfl (.tmp 10) (.tmp 11) 156 rfl w.heap.size 5 (.int .u8 0) 1 Tryz.underlying156 lg rfl .u8 _ 0 [] rfl (sS w 5 .u8 _ (Nat.le_refl _) [] 0 rfl (by decide)) _ H rfl HVA.out (by omega) (by omega) (by simp) ?_)
 intro v1 w1 BX hb1;have Ng:Below w.heap.size w w1:=(AU w (.cells #[] 5)).trans hb1;clear hb1
 go_wp2_with (at_builtin;refine bK w1 rfl (.tmp 12) (.tmp 14) 156 rfl w.heap.size 5 (.int .u8 0) 1 Tryz.underlying156 lg rfl v1 H.length (H.map (Value.int .u8)) rfl BX [.int .u8 x] 1 1 rfl rfl (by intro u hu;simp at hu;rcases hu with rfl <;> rfl) (by omega) (by omega) Ng.size ?_)
 intro v2 w2 BE hb2;have hb2':=Ng.trans hb2;have hW:Held .u8 w2 v2 (H++[x]):=bF (n:=H.length+1) (by rw [List.map_append];simpa using BE);have hFr:Fresh w.heap.size v2:=Fresh.ofOwn BE;obtain ⟨L,hL⟩:=ae (H++[x]);have Pb:L.length=H.length+1:=by rw [hL];simp
 rw [<-hL] at hW JM Oc HN;obtain ⟨lo,lc,rfl⟩:=hW.len;have E3:=ab Pb;have HW:=ab hW;have HF:=ab hFr;clear Pb hW hFr BX BE Ng hb2 hL
 go_wp2_with fail
 refine (fu _ L _ HW.out (by have:=E3.out;omega) (by have:=E3.out;omega) JM.out).mono ?_;rintro e w3 ⟨rfl,b3⟩;have hb3:=hb2'.trans (b3.mono hb2'.size);have hcs:=Oc.out;rw [HN.out];clear Oc
 rcases hcs with ⟨d1,d2,hs⟩ | ⟨d1,d2,hs⟩ | ⟨d1,h0,hs⟩ | ⟨d1,Dt,hs⟩
 ·have HS:=ab hs;clear hs;go_wp2
  go_ret2
  exact ⟨_,_,rfl,by rw [HS.out];exact Held.nil .i32 _,by rw [HS.out];exact HW.out.below b3,hb3,HF.out,Fresh.nil _ _ _⟩
 ·have HS:=ab hs;clear hs
  go_wp2_with fail
  refine (sm _ L _ (HW.out.below b3) (by have:=E3.out;omega) (by have:=E3.out;omega) JM.out).mono ?_;rintro e w4 ⟨rfl,b4⟩;have hb4:=hb3.trans (b4.mono hb3.size);go_wp2
  go_ret2
  exact ⟨_,_,rfl,by rw [HS.out];exact gQ .i32 w4 [.int .i32 (cD L)] 21 1 1 [cD L] rfl rfl,by rw [HS.out];exact Held.nil .u8 _,hb4.alloc hb4.size _,Fresh.nil _ _ _,Fresh.at_ _ _ _ _ _ hb4.size⟩
 ·subst h0;have HS:=ab hs;clear hs;go_wp2
  go_ret2
  exact ⟨_,_,rfl,by rw [HS.out];exact gQ .i32 w3 [.int .i32 65533] 21 1 1 [65533] rfl rfl,by rw [HS.out];exact Held.nil .u8 _,hb3.alloc hb3.size _,Fresh.nil _ _ _,Fresh.at_ _ _ _ _ _ hb3.size⟩
 ·have HS:=ab hs;have d3:((H.length:Int) == 0)=false:=beq_eq_false_iff_ne.2 (by omega);clear hs
  go_wp2_with fail
  refine (HE.out Dt x _ x0 x1).mono ?_;rintro e w4 ⟨vt,vh,rfl,ht,hh,b4,hf,_⟩;have hb4:=hb3.trans (b4.mono hb3.size);have hte:=zD x;obtain ⟨T,hT⟩:=ae ((jJ x).1);rw [<-hT] at ht hte HS;have KN:=ht.below (AU w4 (.cells #[.int .i32 65533] 21));have HH:=ab hh;have HFR:=ab (hf.mono hb3.size);obtain ⟨to',tc,rfl⟩:=KN.len;have HT:=ab KN;clear hh hf ht KN hT
  go_wp2_with (at_builtin;refine cW (w4.alloc (.cells #[.int .i32 65533] 21)) rfl (.tmp 41) (.tmp 42) 27 rfl w4.heap.size 21 (.int .i32 0) 4 Tryz.underlying27 qG rfl .i32 _ 1 [65533] rfl (sS w4 21 .i32 _ (Nat.le_refl _) [65533] 1 rfl (by decide)) _ T rfl HT.out (by omega) (by omega) (by simp) ?_)
  intro v5 w5 Dd CY;have hT5:Held .i32 w5 v5 (65533 :: T):=bF (n:=1+T.length) (by simpa using Dd);have J4:=(AU w4 (.cells #[.int .i32 65533] 21)).trans CY;have hb5':Below w.heap.size w w5:=hb4.trans (J4.mono hb4.size);have hHH:=HH.out.below J4;have GB:=ab ((Fresh.ofOwn Dd).mono hb4.size);clear Dd CY;go_wp2
  go_ret2
  exact ⟨_,_,rfl,by rw [HS.out];exact hT5,by rw [HS.out];exact hHH,hb5',HFR.out,GB.out⟩
theorem Ao(x:Int)(w:World)(x0:0<=x)(x1:x<=255):Calls Tryz.prog 157 #[.slice none 0 0,.int .u8 x] w (ga w (jJ x)):=by
 have:=nD [] (fun h=>absurd h (by simp)) x (.slice none 0 0) w (Held.nil .u8 w) (by simp) (fun i hi=>absurd hi (by simp)) x0 x1;unfold iD at this;rw [if_pos rfl] at this;exact this
theorem vk(H:List Int)(x:Int)(v:Value)(w:World)(hv:Held .u8 w v H)(hl:H.length<=3)(hr:∀ i,i<H.length->0<=H.getD i 0/\H.getD i 0<=255)(x0:0<=x)(x1:x<=255) :
  Calls Tryz.prog 157 #[v,.int .u8 x] w (ga w (iD H x)) :=
 nD H (fun _ y u y0 y1=>Ao y u y0 y1) x v w hv hl hr x0 x1
def vj(w:World)(s:St)(p:List Int)(e:Ending)(w':World):Prop:=∃ vt vh H',e=.returned (.tuple #[vt,vh])/\Held .i32 w' vt (aE s p)/\Held .u8 w' vh H'/\Rel H' (aI s p)/\Below w.heap.size w w'/\Fresh w.heap.size vt
theorem ix(s:St)(H:List Int)(v u:Value)(p:List Int)(w:World)(hr:Rel H s)(hv:Held .u8 w v H)(hu:Held .u8 w u p)(hp:∀ i,i<p.length->0<=p.getD i 0/\p.getD i 0<=255)(hl:p.length<=1000000) :
  Calls Tryz.prog 89 #[v,u] w (vj w s p):=by
 obtain ⟨ao,cap,rfl,hc⟩:=hu.view;obtain ⟨ho,Kh,rfl⟩:=hv.len;have HC:=ab hc;have HV:=ab hv;have HR:=ab hr;have HP:=ab hp;clear hc hv hr hp hu
 go_enter Tryz.func89,Tryz.ntmps89
 go_wp2
 go_loopw [0,6,7] (fun vh vo i wr=>∃ (k n:Nat) (K:List Int),k<=p.length/\i=.int .i64 k/\(aE s (p.take k)).length=n/\wr.ownsRow w.heap.size 21 1 vo n ((aE s (p.take k)).map (Value.int .i32))/\Held .u8 wr vh K/\Rel K (aI s (p.take k))/\Below w.heap.size w wr) (fun _ _ i _=>p.length - (intOf i).toNat)
 case atStart=>exact ⟨0,0,H,Nat.zero_le _,rfl,rfl,World.ownsRow_nil _ _ _ _,HV.out,HR.out,Below.refl _ _⟩
 case round =>
  obtain ⟨k,n,K,hk,rfl,hn,hown,hh,hrel,AY⟩:=hrel
  by_cases hlt:k<p.length
  ·obtain ⟨b,off,rfl,hb,B0⟩:=HC.out k hlt;have B0:=(AY.cell (p:=⟨b,off+k,none⟩) hb).trans B0;obtain ⟨x0,x1⟩:=HP.out k hlt;have e1:=fG s p k hlt;have e2:=fH s p k hlt;obtain ⟨x,hx⟩:=ae (p.getD k 0);rw [<-hx] at B0 x0 x1 e1 e2;have hst:=vk K x _ wr hh (jL hrel).2 (vu hrel) x0 x1;obtain ⟨Ea,CN⟩:=yA hrel x x0 x1;have Pq:(db (aI s (p.take k)) x).length<=2:=nw _ _ _ _;rw [<-e2] at CN;rw [<-Ea] at Pq e1;obtain ⟨R,hR⟩:=ae (iD K x);rw [<-hR] at hst CN Pq e1;obtain ⟨T,K2⟩:=R;have CN:Rel K2 (aI s (p.take (k+1))):=CN;have Pq:T.length<=2:=Pq;have e1:aE s (p.take (k+1))=aE s (p.take k)++T:=e1;have GI:=mc s (p.take k);have hnk:(p.take k).length<=k:=List.length_take_le _ _;have EZ:n<=2000000:=by omega
   have HST:=ab (show Calls Tryz.prog 157 _ wr (ga wr (T,K2)) from hst);have HREL:=ab CN;have HE:=ab e1;have HN:=ab hn;have HOW:=ab hown;have BJ:=fun g e=>(hown.lt g e).2
   have BH:=ab BJ;obtain ⟨vo',vc',rfl⟩:=hh.len;clear hx hst Ea CN hR hh hrel e1 e2 hn hown GI hnk BJ
   go_wp2_with fail
   refine HST.out.mono ?_;rintro e w2 ⟨vt,vh,rfl,ht,E5,b2,hf,_⟩;have hb2:=AY.trans (b2.mono AY.size);have hown2:=aA HOW.out b2;have HT:=ab ht;have O1:=ab E5;have HF:=ab hf;obtain ⟨to',tc,rfl⟩:=ht.len;clear HST ht E5 hf B0
   go_wp2_with (at_builtin;refine iE w2 rfl (.tmp 24) (.tmp 25) 27 rfl w.heap.size 21 (.int .i32 0) 4 Tryz.underlying27 qG rfl .i32 u6 n _ rfl hown2 _ T rfl HT.out (by omega) (by omega) hb2.size ?_)
   intro v3 w3 CO hb3 IT;have Dl:=O1.out.outlive hb3.size HF.out BH.out IT;have hb3':=hb2.trans hb3;have EK:w3.ownsRow w.heap.size 21 1 v3 (n+T.length) ((aE s (p.take (k+1))).map (Value.int .i32)):=by rw [HE.out,List.map_append];exact CO
   have Qq:(aE s (p.take (k+1))).length=n+T.length:=by rw [HE.out,List.length_append,HN.out]
   have HN4:=ab Qq;clear CO hb3 IT hown2 b2 hb2 Qq HE HN;go_wp2
   go_roundw
   case rel=>exact ⟨k+1,n+T.length,K2,by omega,by go_num,HN4.out,EK,Dl,HREL.out,hb3'⟩
   case measure=>simp [intOf] <;> omega
  ·obtain rfl:k=p.length:=by omega
   rw [List.take_length] at hown hrel;go_wp2
   go_ret2
   exact ⟨_,_,K,rfl,bF hown,hh,hrel,AY,Fresh.ofOwn hown⟩
def cSt(xs:List Pr):Nat->Int
 | 0=>0
 | k+1=>dn (cSt xs k) (xs.getD k Pr.none).cv
def pSt(xs:List Pr):Nat->Int
 | 0=>0
 | k+1=>eB (pSt xs k) (xs.getD k Pr.none).br (xs.getD k Pr.none).pc
def oSt(xs:List Pr):Nat->Bool
 | 0=>false
 | k+1=>(xs.getD k Pr.none).br == 6 && !oSt xs k
def lSt(xs:List Pr):Nat->Int
 | 0=>0
 | k+1=>(xs.getD k Pr.none).br
def ej(xs:List Pr):Nat->Nat->Bool
 | 0,_=>false
 | k+1,n=>if (xs.getD k Pr.none).cv=1 then decide (0<n) else if (xs.getD k Pr.none).cv=2 then ej xs k (n+1) else if (xs.getD k Pr.none).cv=3 then ej xs k n else false
def fA(xs:List Pr):Nat->Bool
 | 0=>false
 | k+1=>if (xs.getD k Pr.none).pc=true then true else if (xs.getD k Pr.none).br=4 then fA xs k else false
def dX(xs:List Pr):Nat->Nat
 | 0=>0
 | k+1=>if (xs.getD k Pr.none).br=6 then dX xs k+1 else 0
theorem wE(xs:List Pr)(k:Nat):cSt xs k=0\/cSt xs k=1\/cSt xs k=2:=by
 induction k with
 | zero=>exact .inl rfl
 | succ k ih=>unfold cSt dn;split <;> (try split) <;> (try split) <;> omega
theorem wF(xs:List Pr)(k:Nat):pSt xs k=0\/pSt xs k=1\/pSt xs k=2:=by
 cases k with
 | zero=>exact .inl rfl
 | succ k=>unfold pSt eB;split <;> (try split) <;> (try split) <;> (try split) <;> omega
theorem wG(xs:List Pr)(k:Nat):∀ n,ej xs k n=(if n=0 then decide (cSt xs k=2) else decide (cSt xs k≠0)):=by
 induction k with
 |zero=>intro n;simp [ej,cSt]
 |succ k ih =>
  intro n;have hb:=wE xs k;unfold ej cSt dn;simp only [ih];generalize (xs.getD k Pr.none).cv=c;generalize cSt xs k=s at *;have h0:n+1≠0:=by omega
  by_cases h1:c=1
  ·subst h1;by_cases hn:n=0 <;> simp [hn];omega
  by_cases h2:c=2
  ·subst h2;rcases hb with rfl | rfl | rfl <;> by_cases hn:n=0 <;> simp [hn]
  by_cases h3:c=3
  ·subst h3;simp
  ·simp [h1,h2,h3]
theorem wH(xs:List Pr)(k:Nat):fA xs k=decide (pSt xs k=1):=by
 induction k with
 |zero=>simp [fA,pSt]
 |succ k ih =>
  unfold fA pSt eB;simp only [ih];generalize (xs.getD k Pr.none).br=b;generalize (xs.getD k Pr.none).pc=c;generalize pSt xs k=s
  cases c with
  |true=>simp
  |false =>
   by_cases h4:b=4
   ·subst h4;by_cases h1:s=1 <;> simp [h1]
   ·by_cases h1:s=1
    ·by_cases h5:b=5 <;> simp [h1,h4,h5]
    ·simp [h1,h4]
theorem wI(xs:List Pr)(k:Nat):decide (dX xs k % 2=1)=oSt xs k:=by
 induction k with
 |zero=>simp [dX,oSt]
 |succ k ih =>
  unfold dX oSt;rw [<-ih];generalize (xs.getD k Pr.none).br=b;generalize dX xs k=m
  by_cases h:b=6
  ·subst h
   by_cases h2:m % 2=1
   ·have h3:¬ (m+1) % 2=1:=by omega
    simp [h2,h3]
   ·have h3:(m+1) % 2=1:=by omega
    simp [h2,h3]
  ·simp [h]
theorem wJ(xs:List Pr)(k:Nat)(h:oSt xs k=true):lSt xs k=6/\0<k:=by
 cases k with
 | zero=>simp [oSt] at h
 | succ k=>simp [oSt] at h;exact ⟨h.1,by omega⟩
def iA(xs:List Pr)(i:Nat):Bool:=(xs.getD i Pr.none).pc && (decide (2<=i) && (decide ((xs.getD (i - 1) Pr.none).br=5) && (!(xs.getD (i - 1) Pr.none).pc && fA xs (i - 1))))
theorem y9(xs:List Pr)(i:Nat):iA xs i=((xs.getD i Pr.none).pc && decide (pSt xs i=2)):=by
 unfold iA
 congr 1
 cases i with
 |zero=>simp [pSt]
 |succ k =>
  rw [wH];simp only [Nat.add_sub_cancel];have hb:=wF xs k
  cases k with
  |zero=>simp only [pSt,eB];cases (xs.getD 0 Pr.none).pc <;> simp
  |succ m =>
   rw [decide_eq_true (by omega),Bool.true_and];show _=decide (eB (pSt xs (m+1)) (xs.getD (m+1) Pr.none).br (xs.getD (m+1) Pr.none).pc=2);unfold eB;generalize (xs.getD (m+1) Pr.none).br=b;generalize (xs.getD (m+1) Pr.none).pc=c;generalize pSt xs (m+1)=s
   cases c with
   |true=>simp
   |false =>
    by_cases h1:s=1
    ·by_cases h4:b=4
     ·simp [h1,h4]
     ·by_cases h5:b=5 <;> simp [h1,h4,h5]
    ·simp [h1]
def jo(xs:List Pr)(i:Nat):Bool:=(xs.getD i Pr.none).cv == 1 && ej xs i 0
def jR(xs:List Pr)(i:Nat):Bool :=
 if i=0 then false else if cq (xs.getD (i - 1) Pr.none).br (xs.getD i Pr.none).br=1 then true else if jo xs i=true then true else if iA xs i=true then true
 else if cq (xs.getD (i - 1) Pr.none).br (xs.getD i Pr.none).br≠2 then false else if (xs.getD i Pr.none).br≠6 then false else decide (dX xs i % 2=1)
theorem lH(xs:List Pr)(i:Nat):jR xs i=cC (decide (0<i)) (lSt xs i) (cSt xs i) (pSt xs i) (oSt xs i) (xs.getD i Pr.none).br (xs.getD i Pr.none).pc (xs.getD i Pr.none).cv:=by
 cases i with
 |zero=>simp [jR,cC]
 |succ k =>
  have hl:(xs.getD (k+1 - 1) Pr.none).br=lSt xs (k+1):=rfl;have ho:=wJ xs (k+1);unfold jR cC jo;rw [hl,wG,if_pos rfl,y9,wI];rw [if_neg (show ¬ k+1=0 by omega),if_neg (show ¬ decide (0<k+1)=false by simp)];generalize (xs.getD (k+1) Pr.none).br=b;generalize (xs.getD (k+1) Pr.none).pc=c;generalize (xs.getD (k+1) Pr.none).cv=v;generalize cSt xs (k+1)=s1;generalize pSt xs (k+1)=s2;generalize oSt xs (k+1)=od at *;generalize lSt xs (k+1)=la at *
  by_cases h1:cq la b=1
  ·simp [h1]
  ·rw [if_neg h1,if_neg h1]
   by_cases h2:v=1/\s1=2
   ·rw [if_pos h2,if_pos (by simp [h2.1,h2.2])]
   ·rw [if_neg h2,if_neg (by simpa using h2)]
    by_cases h3:c=true/\s2=2
    ·rw [if_pos h3,if_pos (by simp [h3.1,h3.2])]
    ·rw [if_neg h3,if_neg (by simpa using h3)]
     by_cases h6:b=6
     ·subst h6
      cases od with
      |true =>
       rw [(ho rfl).1]
       rfl
      |false=>simp
     ·simp [h6]
theorem dT(P:Program)(t:TypeId)(T:List (Int × Int))(z:Array Value)(n:Nat)(hi:(P.info? t).map (·.size)=some (2 * n))(hz:z.size=2 * n)(hT:T.length=n)(w:World) :
  (storeCells ⟨w.heap.size,0,none⟩ (az .i32 T) 0).run P (w.alloc (.cells z t))=.ok () (w.alloc (.cells (az .i32 T).toArray t)):=by
 have hs:=dd .i32 T n hT;have:=run_storeCells_new (P:=P) w t z (az .i32 T).toArray (by rw [hs];exact hi) (by rw [hs];exact hz) (dG _ _)
 simpa using this
theorem aL{k:IntKind}{w:World}{T:List (Int × Int)}{t:TypeId}{n cap:Nat}(hn:T.length=n):HeldT k (w.alloc (.cells (az k T).toArray t)) (.slice (some ⟨w.heap.size,0,none⟩) n cap) T:=by
 subst hn;exact bL (heap_alloc_last w _)
theorem wj(r:Int)(w:World):Calls Tryz.prog 198 #[.int .i32 r] w (Gives w (.bool (aM tPict r))):=by
 have hst:=dT Tryz.prog 293 tPict Tryz.zeroCells293 78 (by kernel_rfl) (by kernel_rfl) fS
 go_enter Tryz.func198,Tryz.ntmps198
 go_wp2_with fail
 refine (nU _).mono ?_;rintro e w1 ⟨rfl,b1⟩
 go_wp2_with fail
 refine (aX _ tPict r _ (aL fS) wu (by rw [fS];decide)).mono ?_;rintro e w2 ⟨rfl,b2⟩;clear hst;go_wp2;go_ret;exact ⟨af,b1.trans ((AU _ _).trans (b2.mono (by simp)) |>.mono b1.size)⟩
theorem iO(v:Value)(T:List (Int × Int))(r:Int)(w:World)(hh:HeldT .i64 w v T)(hl:T.length<=1000000)(r0 : -2147483648<=r)(r1:r<=2147483647) :
  Calls Tryz.prog 125 #[v,.int .i32 r] w (Gives w (.bool (aM T r))):=by
 obtain ⟨ao,cap,rfl,hc⟩:=hh.view;have HC:=ab hc;clear hc hh
 go_enter Tryz.func125,Tryz.ntmps125
 go_wp2
 go_loopw [5] (fun i wr=>∃ k:Nat,k<=T.length/\i=.int .i64 k/\Hid (∀ j (hj:j<T.length),j<k->¬ (T[j].1<=r/\r<=T[j].2))/\Below w.heap.size w wr) (fun i _=>T.length - (intOf i).toNat)
 case atStart=>exact ⟨0,Nat.zero_le _,rfl,ab (fun j _ hj=>by omega),Below.refl _ _⟩
 case round =>
  obtain ⟨k,hk,rfl,HN,AY⟩:=hrel
  by_cases hlt:k<T.length
  ·obtain ⟨b,off,rfl,hb,h1,h2⟩:=HC.out k hlt;have h1:=(AY.cell (p:=⟨b,off+k * 2,none⟩) hb).trans h1;have h2:=(AY.cell (p:=⟨b,off+k * 2+1,none⟩) hb).trans h2;rw [fg hlt] at h1 h2
   by_cases h3:T[k].1<=r
   ·have d1:decide (T[k].1<=r)=true:=decide_eq_true h3
    by_cases h4:r<=T[k].2
    ·have d2:decide (r<=T[k].2)=true:=decide_eq_true h4;have HE:=ab (pq k hlt h3 h4);generalize T[k].1=x at *;generalize T[k].2=y at *;clear HN;go_wp2;go_ret;exact ⟨al (by rw [HE.out];rfl),AY⟩
    ·have d2:decide (r<=T[k].2)=false:=decide_eq_false h4;have F3:=ab (show ∀ j (hj:j<T.length),j<k+1->¬ (T[j].1<=r/\r<=T[j].2) from fun j hj hjk=>by
      by_cases h:j=k
      ·subst h;omega
      ·exact HN.out j hj (by omega))
     generalize T[k].1=x at h1 h3 d1;generalize T[k].2=y at h2 h4 d2;go_wp2
     go_roundw
     case rel=>exact ⟨k+1,by omega,by go_num,F3,AY⟩
     case measure=>simp [intOf];omega
   ·have d1:decide (T[k].1<=r)=false:=decide_eq_false h3;have F3:=ab (show ∀ j (hj:j<T.length),j<k+1->¬ (T[j].1<=r/\r<=T[j].2) from fun j hj hjk=>by
     by_cases h:j=k
     ·subst h;omega
     ·exact HN.out j hj (by omega))
    generalize T[k].1=x at h1 h3 d1;generalize T[k].2=y at h2;go_wp2
    go_roundw
    case rel=>exact ⟨k+1,by omega,by go_num,F3,AY⟩
    case measure=>simp [intOf];omega
  ·have he:aM T r=false:=gA fun j hj=>HN.out j hj (by omega)
   have HE:=ab he;clear he;go_wp2;go_ret;exact ⟨al (by rw [HE.out];rfl),AY⟩
theorem dA{w0 w1 w2 w3:World}{o:Obj}(h:Below w0.heap.size w0 w1)(b:Below w1.heap.size w1 w2)(c:Below (w2.alloc o).heap.size (w2.alloc o) w3):Below w0.heap.size w0 w3:=by
 have h2:=h.trans (b.mono h.size);exact (h2.alloc h2.size o).trans (c.mono (by have:=h2.size;simp;omega))
def bm(r:Int):Int:=if aM tControl r=true then 3 else if aM tExtend r=true then 4 else if aM tSpacing r=true then 8 else if aM tPrepend r=true then 7 else 0
def bQ(r:Int):Int:=if r=13 then 1 else if r=10 then 2 else if r=8205 then 5 else if 127462<=r/\r<=127487 then 6 else if bm r=0 then bi r else bm r
def dy(r:Int):Int:=if aM tCons r=true then 1 else if aM tLink r=true then 2 else if aM tJoin r=true then 3 else 0
def eN(r:Int):Int:=if aM tWide r=true then 1 else if aM tFull r=true then 2 else if aM tHalf r=true then 3 else 0
theorem gw(r:Int)(w:World):Calls Tryz.prog 239 #[.int .i32 r] w (Gives w (.int .i64 (bm r))):=by
 have hstControl:=dT Tryz.prog 329 tControl #[Value.int .i32 0,Value.int .i32 0,Value.int .i32 0,Value.int .i32 0,Value.int .i32 0,Value.int .i32 0,Value.int .i32 0,Value.int .i32 0,Value.int .i32 0,Value.int .i32 0,Value.int .i32 0,Value.int .i32 0,Value.int .i32 0,Value.int .i32 0,Value.int .i32 0,Value.int .i32 0,Value.int .i32 0,Value.int .i32 0,Value.int .i32 0,Value.int .i32 0,Value.int .i32 0,Value.int .i32 0,Value.int .i32 0,Value.int .i32 0,Value.int .i32 0,Value.int .i32 0,Value.int .i32 0,Value.int .i32 0,Value.int .i32 0,Value.int .i32 0,Value.int .i32 0,Value.int .i32 0] 16 (by kernel_rfl) (by kernel_rfl) bG;have hstExtend:=dT Tryz.prog 331 tExtend Tryz.zeroCells331 77 (by kernel_rfl) (by kernel_rfl) cn;have hstSpacing:=dT Tryz.prog 297 tSpacing #[Value.int .i32 0,Value.int .i32 0,Value.int .i32 0,Value.int .i32 0,Value.int .i32 0,Value.int .i32 0,Value.int .i32 0,Value.int .i32 0,Value.int .i32 0,Value.int .i32 0,Value.int .i32 0,Value.int .i32 0,Value.int .i32 0,Value.int .i32 0,Value.int .i32 0,Value.int .i32 0,Value.int .i32 0,Value.int .i32 0,Value.int .i32 0,Value.int .i32 0,Value.int .i32 0,Value.int .i32 0,Value.int .i32 0,Value.int .i32 0,Value.int .i32 0,Value.int .i32 0,Value.int .i32 0,Value.int .i32 0,Value.int .i32 0,Value.int .i32 0,Value.int .i32 0,Value.int .i32 0,Value.int .i32 0,Value.int .i32 0,Value.int .i32 0,Value.int .i32 0,Value.int .i32 0,Value.int .i32 0,Value.int .i32 0,Value.int .i32 0,Value.int .i32 0,Value.int .i32 0,Value.int .i32 0,Value.int .i32 0,Value.int .i32 0,Value.int .i32 0,Value.int .i32 0,Value.int .i32 0,Value.int .i32 0,Value.int .i32 0,Value.int .i32 0,Value.int .i32 0] 26 (by kernel_rfl) (by kernel_rfl) cG;have hstPrepend:=dT Tryz.prog 333 tPrepend #[Value.int .i32 0,Value.int .i32 0,Value.int .i32 0,Value.int .i32 0,Value.int .i32 0,Value.int .i32 0,Value.int .i32 0,Value.int .i32 0,Value.int .i32 0,Value.int .i32 0,Value.int .i32 0,Value.int .i32 0,Value.int .i32 0,Value.int .i32 0,Value.int .i32 0,Value.int .i32 0] 8 (by kernel_rfl) (by kernel_rfl) du
 cases q0:aM tControl r with
 |true =>
  have hv:bm r=3:=by unfold bm;simp [q0]
  have HV:=ab hv;clear hv
  go_enter Tryz.func239,Tryz.ntmps239
  go_wp2_with fail
  refine (dU _).mono ?_;rintro e w01 ⟨rfl,b01⟩
  go_wp2_with fail
  refine (aX _ tControl r _ (aL bG) ey (by rw [bG];decide)).mono ?_;rintro e w02 ⟨rfl,b02⟩;have hb0:=dA (Below.refl _ _) b01 b02;clear b01 b02;go_wp2;go_ret;exact ⟨al (by rw [HV.out];rfl),hb0⟩
 |false =>
  cases q1:aM tExtend r with
  |true =>
   have hv:bm r=4:=by unfold bm;simp [q0,q1]
   have HV:=ab hv;clear hv
   go_enter Tryz.func239,Tryz.ntmps239
   go_wp2_with fail
   refine (dU _).mono ?_;rintro e w01 ⟨rfl,b01⟩
   go_wp2_with fail
   refine (aX _ tControl r _ (aL bG) ey (by rw [bG];decide)).mono ?_;rintro e w02 ⟨rfl,b02⟩;have hb0:=dA (Below.refl _ _) b01 b02;clear b01 b02
   go_wp2_with fail
   refine (fz _).mono ?_;rintro e w11 ⟨rfl,b11⟩
   go_wp2_with fail
   refine (aX _ tExtend r _ (aL cn) gB (by rw [cn];decide)).mono ?_;rintro e w12 ⟨rfl,b12⟩;have hb1:=dA hb0 b11 b12;clear b11 b12;go_wp2;go_ret;exact ⟨al (by rw [HV.out];rfl),hb1⟩
  |false =>
   cases q2:aM tSpacing r with
   |true =>
    have hv:bm r=8:=by unfold bm;simp [q0,q1,q2]
    have HV:=ab hv;clear hv
    go_enter Tryz.func239,Tryz.ntmps239
    go_wp2_with fail
    refine (dU _).mono ?_;rintro e w01 ⟨rfl,b01⟩
    go_wp2_with fail
    refine (aX _ tControl r _ (aL bG) ey (by rw [bG];decide)).mono ?_;rintro e w02 ⟨rfl,b02⟩;have hb0:=dA (Below.refl _ _) b01 b02;clear b01 b02
    go_wp2_with fail
    refine (fz _).mono ?_;rintro e w11 ⟨rfl,b11⟩
    go_wp2_with fail
    refine (aX _ tExtend r _ (aL cn) gB (by rw [cn];decide)).mono ?_;rintro e w12 ⟨rfl,b12⟩;have hb1:=dA hb0 b11 b12;clear b11 b12
    go_wp2_with fail
    refine (gx _).mono ?_;rintro e w21 ⟨rfl,b21⟩
    go_wp2_with fail
    refine (aX _ tSpacing r _ (aL cG) gV (by rw [cG];decide)).mono ?_;rintro e w22 ⟨rfl,b22⟩;have hb2:=dA hb1 b21 b22;clear b21 b22;go_wp2;go_ret;exact ⟨al (by rw [HV.out];rfl),hb2⟩
   |false =>
    cases q3:aM tPrepend r with
    |true =>
     have hv:bm r=7:=by unfold bm;simp [q0,q1,q2,q3]
     have HV:=ab hv;clear hv
     go_enter Tryz.func239,Tryz.ntmps239
     go_wp2_with fail
     refine (dU _).mono ?_;rintro e w01 ⟨rfl,b01⟩
     go_wp2_with fail
     refine (aX _ tControl r _ (aL bG) ey (by rw [bG];decide)).mono ?_;rintro e w02 ⟨rfl,b02⟩;have hb0:=dA (Below.refl _ _) b01 b02;clear b01 b02
     go_wp2_with fail
     refine (fz _).mono ?_;rintro e w11 ⟨rfl,b11⟩
     go_wp2_with fail
     refine (aX _ tExtend r _ (aL cn) gB (by rw [cn];decide)).mono ?_;rintro e w12 ⟨rfl,b12⟩;have hb1:=dA hb0 b11 b12;clear b11 b12
     go_wp2_with fail
     refine (gx _).mono ?_;rintro e w21 ⟨rfl,b21⟩
     go_wp2_with fail
     refine (aX _ tSpacing r _ (aL cG) gV (by rw [cG];decide)).mono ?_;rintro e w22 ⟨rfl,b22⟩;have hb2:=dA hb1 b21 b22;clear b21 b22
     go_wp2_with fail
     refine (ji _).mono ?_;rintro e w31 ⟨rfl,b31⟩
     go_wp2_with fail
     refine (aX _ tPrepend r _ (aL du) ks (by rw [du];decide)).mono ?_;rintro e w32 ⟨rfl,b32⟩;have hb3:=dA hb2 b31 b32;clear b31 b32;go_wp2;go_ret;exact ⟨al (by rw [HV.out];rfl),hb3⟩
    |false =>
     have hv:bm r=0:=by unfold bm;simp [q0,q1,q2,q3]
     have HV:=ab hv;clear hv
     go_enter Tryz.func239,Tryz.ntmps239
     go_wp2_with fail
     refine (dU _).mono ?_;rintro e w01 ⟨rfl,b01⟩
     go_wp2_with fail
     refine (aX _ tControl r _ (aL bG) ey (by rw [bG];decide)).mono ?_;rintro e w02 ⟨rfl,b02⟩;have hb0:=dA (Below.refl _ _) b01 b02;clear b01 b02
     go_wp2_with fail
     refine (fz _).mono ?_;rintro e w11 ⟨rfl,b11⟩
     go_wp2_with fail
     refine (aX _ tExtend r _ (aL cn) gB (by rw [cn];decide)).mono ?_;rintro e w12 ⟨rfl,b12⟩;have hb1:=dA hb0 b11 b12;clear b11 b12
     go_wp2_with fail
     refine (gx _).mono ?_;rintro e w21 ⟨rfl,b21⟩
     go_wp2_with fail
     refine (aX _ tSpacing r _ (aL cG) gV (by rw [cG];decide)).mono ?_;rintro e w22 ⟨rfl,b22⟩;have hb2:=dA hb1 b21 b22;clear b21 b22
     go_wp2_with fail
     refine (ji _).mono ?_;rintro e w31 ⟨rfl,b31⟩
     go_wp2_with fail
     refine (aX _ tPrepend r _ (aL du) ks (by rw [du];decide)).mono ?_;rintro e w32 ⟨rfl,b32⟩;have hb3:=dA hb2 b31 b32;clear b31 b32;go_wp2;go_ret;exact ⟨al (by rw [HV.out];rfl),hb3⟩
theorem yY(r:Int)(w:World):Calls Tryz.prog 199 #[.int .i32 r] w (Gives w (.int .i64 (dy r))):=by
 have hstCons:=dT Tryz.prog 297 tCons #[Value.int .i32 0,Value.int .i32 0,Value.int .i32 0,Value.int .i32 0,Value.int .i32 0,Value.int .i32 0,Value.int .i32 0,Value.int .i32 0,Value.int .i32 0,Value.int .i32 0,Value.int .i32 0,Value.int .i32 0,Value.int .i32 0,Value.int .i32 0,Value.int .i32 0,Value.int .i32 0,Value.int .i32 0,Value.int .i32 0,Value.int .i32 0,Value.int .i32 0,Value.int .i32 0,Value.int .i32 0,Value.int .i32 0,Value.int .i32 0,Value.int .i32 0,Value.int .i32 0,Value.int .i32 0,Value.int .i32 0,Value.int .i32 0,Value.int .i32 0,Value.int .i32 0,Value.int .i32 0,Value.int .i32 0,Value.int .i32 0,Value.int .i32 0,Value.int .i32 0,Value.int .i32 0,Value.int .i32 0,Value.int .i32 0,Value.int .i32 0,Value.int .i32 0,Value.int .i32 0,Value.int .i32 0,Value.int .i32 0,Value.int .i32 0,Value.int .i32 0,Value.int .i32 0,Value.int .i32 0,Value.int .i32 0,Value.int .i32 0,Value.int .i32 0,Value.int .i32 0] 26 (by kernel_rfl) (by kernel_rfl) dg;have hstLink:=dT Tryz.prog 299 tLink #[Value.int .i32 0,Value.int .i32 0,Value.int .i32 0,Value.int .i32 0,Value.int .i32 0,Value.int .i32 0,Value.int .i32 0,Value.int .i32 0,Value.int .i32 0,Value.int .i32 0,Value.int .i32 0,Value.int .i32 0] 6 (by kernel_rfl) (by kernel_rfl) dN;have hstJoin:=dT Tryz.prog 301 tJoin #[Value.int .i32 0,Value.int .i32 0,Value.int .i32 0,Value.int .i32 0,Value.int .i32 0,Value.int .i32 0,Value.int .i32 0,Value.int .i32 0,Value.int .i32 0,Value.int .i32 0,Value.int .i32 0,Value.int .i32 0,Value.int .i32 0,Value.int .i32 0,Value.int .i32 0,Value.int .i32 0,Value.int .i32 0,Value.int .i32 0,Value.int .i32 0,Value.int .i32 0,Value.int .i32 0,Value.int .i32 0,Value.int .i32 0,Value.int .i32 0,Value.int .i32 0,Value.int .i32 0,Value.int .i32 0,Value.int .i32 0,Value.int .i32 0,Value.int .i32 0,Value.int .i32 0,Value.int .i32 0,Value.int .i32 0,Value.int .i32 0,Value.int .i32 0,Value.int .i32 0] 18 (by kernel_rfl) (by kernel_rfl) eW
 cases q0:aM tCons r with
 |true =>
  have hv:dy r=1:=by unfold dy;simp [q0]
  have HV:=ab hv;clear hv
  go_enter Tryz.func199,Tryz.ntmps199
  go_wp2_with fail
  refine (dV _).mono ?_;rintro e w01 ⟨rfl,b01⟩
  go_wp2_with fail
  refine (aX _ tCons r _ (aL dg) jl (by rw [dg];decide)).mono ?_;rintro e w02 ⟨rfl,b02⟩;have hb0:=dA (Below.refl _ _) b01 b02;clear b01 b02;go_wp2;go_ret;exact ⟨al (by rw [HV.out];rfl),hb0⟩
 |false =>
  cases q1:aM tLink r with
  |true =>
   have hv:dy r=2:=by unfold dy;simp [q0,q1]
   have HV:=ab hv;clear hv
   go_enter Tryz.func199,Tryz.ntmps199
   go_wp2_with fail
   refine (dV _).mono ?_;rintro e w01 ⟨rfl,b01⟩
   go_wp2_with fail
   refine (aX _ tCons r _ (aL dg) jl (by rw [dg];decide)).mono ?_;rintro e w02 ⟨rfl,b02⟩;have hb0:=dA (Below.refl _ _) b01 b02;clear b01 b02
   go_wp2_with fail
   refine (gT _).mono ?_;rintro e w11 ⟨rfl,b11⟩
   go_wp2_with fail
   refine (aX _ tLink r _ (aL dN) lD (by rw [dN];decide)).mono ?_;rintro e w12 ⟨rfl,b12⟩;have hb1:=dA hb0 b11 b12;clear b11 b12;go_wp2;go_ret;exact ⟨al (by rw [HV.out];rfl),hb1⟩
  |false =>
   cases q2:aM tJoin r with
   |true =>
    have hv:dy r=3:=by unfold dy;simp [q0,q1,q2]
    have HV:=ab hv;clear hv
    go_enter Tryz.func199,Tryz.ntmps199
    go_wp2_with fail
    refine (dV _).mono ?_;rintro e w01 ⟨rfl,b01⟩
    go_wp2_with fail
    refine (aX _ tCons r _ (aL dg) jl (by rw [dg];decide)).mono ?_;rintro e w02 ⟨rfl,b02⟩;have hb0:=dA (Below.refl _ _) b01 b02;clear b01 b02
    go_wp2_with fail
    refine (gT _).mono ?_;rintro e w11 ⟨rfl,b11⟩
    go_wp2_with fail
    refine (aX _ tLink r _ (aL dN) lD (by rw [dN];decide)).mono ?_;rintro e w12 ⟨rfl,b12⟩;have hb1:=dA hb0 b11 b12;clear b11 b12
    go_wp2_with fail
    refine (kr _).mono ?_;rintro e w21 ⟨rfl,b21⟩
    go_wp2_with fail
    refine (aX _ tJoin r _ (aL eW) pt (by rw [eW];decide)).mono ?_;rintro e w22 ⟨rfl,b22⟩;have hb2:=dA hb1 b21 b22;clear b21 b22;go_wp2;go_ret;exact ⟨al (by rw [HV.out];rfl),hb2⟩
   |false =>
    have hv:dy r=0:=by unfold dy;simp [q0,q1,q2]
    have HV:=ab hv;clear hv
    go_enter Tryz.func199,Tryz.ntmps199
    go_wp2_with fail
    refine (dV _).mono ?_;rintro e w01 ⟨rfl,b01⟩
    go_wp2_with fail
    refine (aX _ tCons r _ (aL dg) jl (by rw [dg];decide)).mono ?_;rintro e w02 ⟨rfl,b02⟩;have hb0:=dA (Below.refl _ _) b01 b02;clear b01 b02
    go_wp2_with fail
    refine (gT _).mono ?_;rintro e w11 ⟨rfl,b11⟩
    go_wp2_with fail
    refine (aX _ tLink r _ (aL dN) lD (by rw [dN];decide)).mono ?_;rintro e w12 ⟨rfl,b12⟩;have hb1:=dA hb0 b11 b12;clear b11 b12
    go_wp2_with fail
    refine (kr _).mono ?_;rintro e w21 ⟨rfl,b21⟩
    go_wp2_with fail
    refine (aX _ tJoin r _ (aL eW) pt (by rw [eW];decide)).mono ?_;rintro e w22 ⟨rfl,b22⟩;have hb2:=dA hb1 b21 b22;clear b21 b22;go_wp2;go_ret;exact ⟨al (by rw [HV.out];rfl),hb2⟩
theorem wh(r:Int)(w:World):Calls Tryz.prog 200 #[.int .i32 r] w (Gives w (.int .i64 (eN r))):=by
 have hstWide:=dT Tryz.prog 303 tWide Tryz.zeroCells303 109 (by kernel_rfl) (by kernel_rfl) dh;have hstFull:=dT Tryz.prog 305 tFull #[Value.int .i32 0,Value.int .i32 0,Value.int .i32 0,Value.int .i32 0,Value.int .i32 0,Value.int .i32 0] 3 (by kernel_rfl) (by kernel_rfl) dO;have hstHalf:=dT Tryz.prog 307 tHalf #[Value.int .i32 0,Value.int .i32 0,Value.int .i32 0,Value.int .i32 0,Value.int .i32 0,Value.int .i32 0,Value.int .i32 0,Value.int .i32 0,Value.int .i32 0,Value.int .i32 0,Value.int .i32 0,Value.int .i32 0,Value.int .i32 0,Value.int .i32 0] 7 (by kernel_rfl) (by kernel_rfl) eX
 cases q0:aM tWide r with
 |true =>
  have hv:eN r=1:=by unfold eN;simp [q0]
  have HV:=ab hv;clear hv
  go_enter Tryz.func200,Tryz.ntmps200
  go_wp2_with fail
  refine (im _).mono ?_;rintro e w01 ⟨rfl,b01⟩
  go_wp2_with fail
  refine (aX _ tWide r _ (aL dh) jm (by rw [dh];decide)).mono ?_;rintro e w02 ⟨rfl,b02⟩;have hb0:=dA (Below.refl _ _) b01 b02;clear b01 b02;go_wp2;go_ret;exact ⟨al (by rw [HV.out];rfl),hb0⟩
 |false =>
  cases q1:aM tFull r with
  |true =>
   have hv:eN r=2:=by unfold eN;simp [q0,q1]
   have HV:=ab hv;clear hv
   go_enter Tryz.func200,Tryz.ntmps200
   go_wp2_with fail
   refine (im _).mono ?_;rintro e w01 ⟨rfl,b01⟩
   go_wp2_with fail
   refine (aX _ tWide r _ (aL dh) jm (by rw [dh];decide)).mono ?_;rintro e w02 ⟨rfl,b02⟩;have hb0:=dA (Below.refl _ _) b01 b02;clear b01 b02
   go_wp2_with fail
   refine (jY _).mono ?_;rintro e w11 ⟨rfl,b11⟩
   go_wp2_with fail
   refine (aX _ tFull r _ (aL dO) lE (by rw [dO];decide)).mono ?_;rintro e w12 ⟨rfl,b12⟩;have hb1:=dA hb0 b11 b12;clear b11 b12;go_wp2;go_ret;exact ⟨al (by rw [HV.out];rfl),hb1⟩
  |false =>
   cases q2:aM tHalf r with
   |true =>
    have hv:eN r=3:=by unfold eN;simp [q0,q1,q2]
    have HV:=ab hv;clear hv
    go_enter Tryz.func200,Tryz.ntmps200
    go_wp2_with fail
    refine (im _).mono ?_;rintro e w01 ⟨rfl,b01⟩
    go_wp2_with fail
    refine (aX _ tWide r _ (aL dh) jm (by rw [dh];decide)).mono ?_;rintro e w02 ⟨rfl,b02⟩;have hb0:=dA (Below.refl _ _) b01 b02;clear b01 b02
    go_wp2_with fail
    refine (jY _).mono ?_;rintro e w11 ⟨rfl,b11⟩
    go_wp2_with fail
    refine (aX _ tFull r _ (aL dO) lE (by rw [dO];decide)).mono ?_;rintro e w12 ⟨rfl,b12⟩;have hb1:=dA hb0 b11 b12;clear b11 b12
    go_wp2_with fail
    refine (lC _).mono ?_;rintro e w21 ⟨rfl,b21⟩
    go_wp2_with fail
    refine (aX _ tHalf r _ (aL eX) pu (by rw [eX];decide)).mono ?_;rintro e w22 ⟨rfl,b22⟩;have hb2:=dA hb1 b21 b22;clear b21 b22;go_wp2;go_ret;exact ⟨al (by rw [HV.out];rfl),hb2⟩
   |false =>
    have hv:eN r=0:=by unfold eN;simp [q0,q1,q2]
    have HV:=ab hv;clear hv
    go_enter Tryz.func200,Tryz.ntmps200
    go_wp2_with fail
    refine (im _).mono ?_;rintro e w01 ⟨rfl,b01⟩
    go_wp2_with fail
    refine (aX _ tWide r _ (aL dh) jm (by rw [dh];decide)).mono ?_;rintro e w02 ⟨rfl,b02⟩;have hb0:=dA (Below.refl _ _) b01 b02;clear b01 b02
    go_wp2_with fail
    refine (jY _).mono ?_;rintro e w11 ⟨rfl,b11⟩
    go_wp2_with fail
    refine (aX _ tFull r _ (aL dO) lE (by rw [dO];decide)).mono ?_;rintro e w12 ⟨rfl,b12⟩;have hb1:=dA hb0 b11 b12;clear b11 b12
    go_wp2_with fail
    refine (lC _).mono ?_;rintro e w21 ⟨rfl,b21⟩
    go_wp2_with fail
    refine (aX _ tHalf r _ (aL eX) pu (by rw [eX];decide)).mono ?_;rintro e w22 ⟨rfl,b22⟩;have hb2:=dA hb1 b21 b22;clear b21 b22;go_wp2;go_ret;exact ⟨al (by rw [HV.out];rfl),hb2⟩
theorem yZ(r:Int)(w:World):Calls Tryz.prog 197 #[.int .i32 r] w (Gives w (.int .i64 (bQ r))):=by
 by_cases h1:r=13
 ·subst h1
  go_enter Tryz.func197,Tryz.ntmps197
  go_wp2;go_ret;exact ⟨al (by first | rfl | decide +kernel),Below.refl _ _⟩
 by_cases h2:r=10
 ·subst h2
  go_enter Tryz.func197,Tryz.ntmps197
  go_wp2;go_ret;exact ⟨al (by first | rfl | decide +kernel),Below.refl _ _⟩
 by_cases h3:r=8205
 ·subst h3
  go_enter Tryz.func197,Tryz.ntmps197
  go_wp2;go_ret;exact ⟨al (by first | rfl | decide +kernel),Below.refl _ _⟩
 have d1:(r == 13)=false:=by simpa using h1
 have d2:(r == 10)=false:=by simpa using h2
 have d3:(r == 8205)=false:=by simpa using h3
 by_cases h4:127462<=r
 ·have d4:decide (127462<=r)=true:=decide_eq_true h4
  by_cases h5:r<=127487
  ·have d5:decide (r<=127487)=true:=decide_eq_true h5;have hv:bQ r=6:=by unfold bQ;rw [if_neg h1,if_neg h2,if_neg h3,if_pos ⟨h4,h5⟩]
   have HV:=ab hv;clear hv h1 h2 h3
   go_enter Tryz.func197,Tryz.ntmps197
   go_wp2;go_ret;exact ⟨al (by rw [HV.out];rfl),Below.refl _ _⟩
  ·have d5:decide (r<=127487)=false:=decide_eq_false h5;have hv:bQ r=if bm r=0 then bi r else bm r:=by unfold bQ;rw [if_neg h1,if_neg h2,if_neg h3,if_neg (by omega)]
   have HV:=ab hv;clear hv h1 h2 h3
   by_cases h6:bm r=0
   ·rw [if_pos h6] at HV
    go_enter Tryz.func197,Tryz.ntmps197
    go_wp2_with fail
    refine (gw r _).mono ?_;rintro e w1 ⟨rfl,b1⟩;rw [h6]
    go_wp2_with fail
    refine (mT r _).mono ?_;rintro e w' ⟨rfl,rfl⟩;go_wp2;go_ret;exact ⟨al (by rw [HV.out];rfl),b1⟩
   ·rw [if_neg h6] at HV;have d6:(bm r == 0)=false:=by simpa using h6
    go_enter Tryz.func197,Tryz.ntmps197
    go_wp2_with fail
    refine (gw r _).mono ?_;rintro e w1 ⟨rfl,b1⟩;generalize bm r=c at *;go_wp2;go_ret;exact ⟨al (by rw [HV.out];rfl),b1⟩
 ·have d4:decide (127462<=r)=false:=decide_eq_false h4;have hv:bQ r=if bm r=0 then bi r else bm r:=by unfold bQ;rw [if_neg h1,if_neg h2,if_neg h3,if_neg (by omega)]
  have HV:=ab hv;clear hv h1 h2 h3
  by_cases h6:bm r=0
  ·rw [if_pos h6] at HV
   go_enter Tryz.func197,Tryz.ntmps197
   go_wp2_with fail
   refine (gw r _).mono ?_;rintro e w1 ⟨rfl,b1⟩;rw [h6]
   go_wp2_with fail
   refine (mT r _).mono ?_;rintro e w' ⟨rfl,rfl⟩;go_wp2;go_ret;exact ⟨al (by rw [HV.out];rfl),b1⟩
  ·rw [if_neg h6] at HV;have d6:(bm r == 0)=false:=by simpa using h6
   go_enter Tryz.func197,Tryz.ntmps197
   go_wp2_with fail
   refine (gw r _).mono ?_;rintro e w1 ⟨rfl,b1⟩;generalize bm r=c at *;go_wp2;go_ret;exact ⟨al (by rw [HV.out];rfl),b1⟩
end Go.Proofs.YtoeggiplcaegoaaGreatDoor
