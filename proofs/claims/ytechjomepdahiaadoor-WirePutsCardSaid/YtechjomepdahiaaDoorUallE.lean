import Derived.Test.YtechjomepdahiaaDoorZ0
import Derived.Test.YtechjomepdahiaaDoorMg1
set_option maxRecDepth 100000
set_option linter.unusedVariables false
set_option linter.unusedSimpArgs false
set_option maxHeartbeats 1000000
namespace Go.Proofs.YtechjomepdahiaaDoor
open Go.RowKit Go.ChangeShapes Go.WideShapes
abbrev G5:=Int × Int × Int × Int × Bool
def lO(g:G5):Value:=.agg #[.int .i32 g.1,.int .i64 g.2.1,.int .i64 g.2.2.1,.int .i64 g.2.2.2.1,.bool g.2.2.2.2]
def bD(xs:List Int)(p:Nat):G5 :=
 if al (xs.getD p 0)=0 then (65533,p,1,p+1,true) else
 if (bi (xs.drop p) (al (xs.getD p 0)):Int)=al (xs.getD p 0) then (cX ((xs.drop p).take (bi (xs.drop p) (al (xs.getD p 0)))) (bi (xs.drop p) (al (xs.getD p 0)) - 1),p,bi (xs.drop p) (al (xs.getD p 0)),p+bi (xs.drop p) (al (xs.getD p 0)),false)
 else (65533,p,bi (xs.drop p) (al (xs.getD p 0)),min (p+bi (xs.drop p) (al (xs.getD p 0))+1:Int) xs.length,true)
theorem kN(xs:List Int)(p:Nat)(x:Int)(hx:x=xs.getD p 0):bD xs p =
 if al x=0 then (65533,(p:Int),1,(p:Int)+1,true) else
 if (bi (xs.drop p) (al x):Int)=al x then (cX ((xs.drop p).take (bi (xs.drop p) (al x))) (bi (xs.drop p) (al x) - 1),(p:Int),(bi (xs.drop p) (al x):Int),(p:Int)+bi (xs.drop p) (al x),false)
 else (65533,(p:Int),(bi (xs.drop p) (al x):Int),min (p+bi (xs.drop p) (al x)+1:Int) xs.length,true):=by subst hx;rfl
theorem il{k:IntKind}{w:World}{b off n cap:Nat}{xs:List Int}(h:Held k w (.slice (some ⟨b,off,none⟩) n cap) xs)(i j:Nat)(hb:b<w.heap.size)(hj:i+j<=xs.length)(c:Nat):Held k w (.slice (some ⟨b,off+i,none⟩) j c) ((xs.drop i).take j):=by
 have hl:((xs.drop i).take j).length=j:=by simp;omega
 have:=h.spots;rw [show (Value.slice (some ⟨b,off+i,none⟩) j c)=.slice (some ⟨b,off+i,none⟩) ((xs.drop i).take j).length c by rw [hl]];refine gi hb fun q hq=>?_
 rw [hl] at hq;obtain ⟨b',off',e,_,hc⟩:=this (i+q) (by omega)
 cases e
 rw [Nat.add_assoc,hc]
 simp [List.getD,List.getElem?_take,hq]
theorem jU{k:IntKind}{w:World}{b off n cap:Nat}{xs:List Int}(h:Held k w (.slice (some ⟨b,off,none⟩) n cap) xs)(i:Nat)(hb:b<w.heap.size)(hj:i<=xs.length)(c:Nat):Held k w (.slice (some ⟨b,off+i,none⟩) (xs.length - i) c) (xs.drop i):=by
 have:=il h i (xs.length - i) hb (by omega) c
 rwa [List.take_of_length_le (by simp)] at this
theorem lq{xs:List Int}(hr:∀ i,i<xs.length->0<=xs.getD i 0/\xs.getD i 0<=255)(p:Nat):∀ i,i<(xs.drop p).length->0<=(xs.drop p).getD i 0/\(xs.drop p).getD i 0<=255:=by
 intro i hi;have:=hr (p+i) (by simp at hi;omega)
 simpa [List.getD] using this
theorem lr{xs:List Int}(hr:∀ i,i<xs.length->0<=xs.getD i 0/\xs.getD i 0<=255)(p:Nat):∀ i,i<(xs.take p).length->0<=(xs.take p).getD i 0/\(xs.take p).getD i 0<=255:=by
 intro i hi;have hi2:i<p/\i<xs.length:=by simp at hi;omega
 have:=hr i hi2.2
 simpa [List.getD,List.getElem?_take,hi2.1] using this
theorem im{ao:Option Addr}{n c:Nat}(h:n<=c):fS (.slice ao n c):=fun _ _ _ e=>by cases e;exact h
theorem ch{w W:World}(hl:Below w.heap.size w W)(g:Nat)(hg:w.heap.size<=g)(x y z u t:Value) :
  Below w.heap.size w (((((W.setCell ⟨g,0,none⟩ x).setCell ⟨g,1,none⟩ y).setCell ⟨g,2,none⟩ z).setCell ⟨g,3,none⟩ u).setCell ⟨g,4,none⟩ t) :=
 hl.trans (((((((But.refl g W.heap.size W).set 0 x).set 1 y).set 2 z).set 3 u).set 4 t).below (B':=w.heap.size) hl.size hg)
theorem io(v:Value)(xs:List Int)(p:Nat)(w:World)(hv:Held .u8 w v xs)(pf:fS v)(hp:p<xs.length)(hm:xs.length<=1000000000)(hr:∀ i,i<xs.length->0<=xs.getD i 0/\xs.getD i 0<=255) :
  Calls Tryd.prog 118 #[v,.int .i64 p] w (Gives w (lO (bD xs p))):=by
 obtain ⟨ao,cap,rfl,hc⟩:=hv.view;have m8:xs.length<=cap:=pf _ _ _ rfl;obtain ⟨b,off,rfl,hb,mx⟩:=hc p hp;obtain ⟨r0,r1⟩:=hr p hp;have hbl:=gy (xs.drop p) (al (xs.getD p 0)) (by simp;omega);have rM:(xs.drop p).length=xs.length - p:=by simp
 rw [rM] at hbl;obtain ⟨x,hx⟩:=ab (xs.getD p 0);have hg:=kN xs p x hx;rw [<-hx] at mx r0 r1 hbl;obtain ⟨G,hG⟩:=ab (bD xs p);rw [<-hG] at hg ⊢;have HVV:=aa hv;have HR:=aa hr;have vR:=aa hg;have HB:=aa hb;have mx:=mx;have hk:=Has.new w [Value.int .i32 0,.int .i64 0,.int .i64 0,.int .i64 0,.bool false] 177;have hl0:=l7 w (.cells [Value.int .i32 0,.int .i64 0,.int .i64 0,.int .i64 0,.bool false].toArray 177);have m7:=hv.below (l7 w (.cells [Value.int .i32 0,.int .i64 0,.int .i64 0,.int .i64 0,.bool false].toArray 177));have hcx1:=(hl0.cell (p:=⟨b,off+p,none⟩) hb).trans mx;obtain ⟨W,hW⟩:=ab (w.alloc (.cells [Value.int .i32 0,.int .i64 0,.int .i64 0,.int .i64 0,.bool false].toArray 177));rw [<-hW] at hk hl0 m7 hcx1;have E1:w.alloc (.cells #[Value.int .i32 0,.int .i64 0,.int .i64 0,.int .i64 0,.bool false] 177)=W:=hW.symm;have HE1:=aa E1;have k0:=hk.cell 0 _ rfl;have k1:=hk.cell 1 _ rfl;have k2:=hk.cell 2 _ rfl;have k3:=hk.cell 3 _ rfl;have k4:=hk.cell 4 _ rfl;have g0:=hk.free 0;have g1:=hk.free 1;have g2:=hk.free 2;have g3:=hk.free 3;have g4:=hk.free 4;have HK:=aa hk;have HV1:=aa m7;have HX:=aa hx;have hbW:=hl0.size;have r6:=aa hl0;have yr:=aa hbl;clear hv pf hc hr hx hG hg hk hl0 hW m7 mx E1 hbl rM
 go_enter Tryd.func118,Tryd.ntmps118
 go_wp2_with fail
 rw [HE1.out]
 go_wp2_with fail
 refine (dT x _ r0 r1).mono ?_;rintro e w' ⟨rfl,rfl⟩;have hlx:=dH x;obtain ⟨lv,hlv⟩:=ab (al x);rw [<-hlv] at vR yr hlx ⊢;have hl4:0<=lv/\lv<=4:=by omega
 clear hlx hlv
 by_cases hz:lv=0
 ·have t1:(lv == 0)=true:=by simp [hz]
  have sr:=vR.out;rw [if_pos hz] at sr;have nP:=aa sr;clear sr hz;go_wp2;exact bodyPost_ret (v:=.agg #[.int .i32 65533,.int .i64 p,.int .i64 1,.int .i64 (p+1),.bool true]) (by simp [results,Tryd.results118,go_sem,k0,k1,k2,k3,k4]) rfl ⟨by rw [nP.out];rfl,ch r6.out _ (Nat.le_refl _) _ _ _ _ _⟩
 ·have t1:(lv == 0)=false:=by simp [hz]
  have sr:=vR.out;rw [if_neg hz] at sr;have nP:=aa sr;have q0:¬ (cap=p):=by omega
  have q1:¬ (cap<xs.length):=by omega
  have q2:¬ (xs.length<p):=by omega
  clear sr hz vR;have hbW2:b<W.heap.size:=by have:=HB.out;omega
  have hdr:=jU HV1.out p hbW2 (by omega) (cap - p);have HDR:=aa hdr;have vT:=aa (lq HR.out p);have rM:0<(xs.drop p).length:=by simp;omega
  have tX:=aa rM;clear hdr rM
  go_wp2_with fail
  refine (jW _ (xs.drop p) lv _ HDR.out tX.out (by omega) vT.out).mono ?_;rintro e w' ⟨rfl,rfl⟩;obtain ⟨n,hn⟩:=ab (bi (xs.drop p) lv);rw [<-hn] at nP yr ⊢;obtain ⟨ol,r8,hn3⟩:=yr.out;have q3:¬ (cap<p+n):=by omega
  have q4:¬ (p+n<p):=by omega
  have q5:¬ ((p:Int)+(n:Int)<p):=by omega
  have q6:¬ ((cap:Int)<(p:Int)+n):=by omega
  clear hn
  by_cases hq:(n:Int)=lv
  ·have t2:((n:Int) == lv)=true:=by simp [hq]
   have pe:=nP.out;rw [if_pos hq] at pe;have oL:=aa pe;have uK:=il HV1.out p n hbW2 (by omega) (cap - p);have HCT:=aa uK;have rU:((xs.drop p).take n).length=n:=by simp;omega
   have wO:=aa rU;have sw:=aa (lr vT.out n);clear pe hq uK rU nP
   go_wp2_with fail
   refine (jV _ ((xs.drop p).take n) _ HCT.out (im (by omega)) (by have:=wO.out;omega) (by have:=wO.out;omega) sw.out).mono ?_;rintro e w' ⟨rfl,rfl⟩;rw [wO.out];obtain ⟨V,hV⟩:=ab (cX ((xs.drop p).take n) (n - 1));rw [<-hV] at oL ⊢;clear hV;go_wp2;exact bodyPost_ret (v:=.agg #[.int .i32 V,.int .i64 p,.int .i64 n,.int .i64 (p+n),.bool false]) (by simp [results,Tryd.results118,go_sem,k0,k1,k2,k3,k4]) rfl ⟨by rw [oL.out];rfl,ch r6.out _ (Nat.le_refl _) _ _ _ _ _⟩
  ·have t2:((n:Int) == lv)=false:=by simp [hq]
   have pe:=nP.out;rw [if_neg hq] at pe;have oL:=aa pe;clear pe hq nP
   rcases (by omega:(p:Int)+n+1<xs.length\/(p:Int)+n+1=xs.length\/(xs.length:Int)<p+n+1) with qK | qK | qK
   ·have rK:min ((p:Int)+n+1) xs.length=(p:Int)+n+1:=by omega
    rw [rK] at oL;clear rK;go_wp2;exact bodyPost_ret (v:=.agg #[.int .i32 65533,.int .i64 p,.int .i64 n,.int .i64 ((p:Int)+n+1),.bool true]) (by simp [results,Tryd.results118,go_sem,k0,k1,k2,k3,k4]) rfl ⟨by rw [oL.out];rfl,ch r6.out _ (Nat.le_refl _) _ _ _ _ _⟩
   ·have rK:min ((p:Int)+n+1) xs.length=(xs.length:Int):=by omega
    rw [rK] at oL;clear rK;go_wp2;exact bodyPost_ret (v:=.agg #[.int .i32 65533,.int .i64 p,.int .i64 n,.int .i64 ((xs.length:Int)),.bool true]) (by simp [results,Tryd.results118,go_sem,k0,k1,k2,k3,k4]) rfl ⟨by rw [oL.out];rfl,ch r6.out _ (Nat.le_refl _) _ _ _ _ _⟩
   ·have rK:min ((p:Int)+n+1) xs.length=(xs.length:Int):=by omega
    rw [rK] at oL;clear rK;go_wp2;exact bodyPost_ret (v:=.agg #[.int .i32 65533,.int .i64 p,.int .i64 n,.int .i64 ((xs.length:Int)),.bool true]) (by simp [results,Tryd.results118,go_sem,k0,k1,k2,k3,k4]) rfl ⟨by rw [oL.out];rfl,ch r6.out _ (Nat.le_refl _) _ _ _ _ _⟩
end Go.Proofs.YtechjomepdahiaaDoor
