import Derived.Test.YtoeggiplcaegoaaGreatDoorZ0
import Derived.Test.YtoeggiplcaegoaaGreatDoorMg3
import Derived.Test.YtoeggiplcaegoaaGreatDoorMg2
import Derived.Lib.MinMax
import Derived.Deep.Cut
set_option maxRecDepth 100000
set_option linter.unusedVariables false
set_option linter.unusedSimpArgs false
set_option maxHeartbeats 1000000
namespace Go.Proofs.YtoeggiplcaegoaaGreatDoor
open Go.RowKit Go.ChangeShapes Go.WideShapes
theorem mr{w w':World}{g B e size n:Nat}{v:Value}{xs:List Value}(h:w.ownsRow B e size v n xs)(hb:But g w.heap.size w w')(hn:v.ownBlock≠some g):w'.ownsRow B e size v n xs:=by
 refine ⟨h.1,?_⟩
 rcases h.2 with hv | ⟨g',cap,cur,rfl,hg,hh,Gs⟩
 ·exact .inl hv
 ·exact .inr ⟨g',cap,cur,rfl,hg,(hb.block g' (Array.getElem?_eq_some_iff.1 hh).1 (fun e=>hn (by subst e;rfl))).trans hh,Gs⟩
theorem iy:(Tryz.prog.info? 155).map (fun i=>(i.zero,i.size,i.bytes))=some (some (.agg #[.int .i32 0,.int .i64 0,.int .i64 0,.int .i64 0,.bool false]),5,40):=by kernel_rfl
def Aq(w:World)(xs:List Int)(e:Ending)(w':World):Prop:=∃ k v',e=.returned v'/\bZ xs k=xs.length/\w'.ownsRow w.heap.size 155 5 v' k (aP (bI xs k))/\Below w.heap.size w w'
theorem yB(xs:List Int)(q:Nat)(h:aw (xs.getD q 0)≠0):nK (xs.drop q)=cd xs q:=by
 unfold nK cd;rw [show (xs.drop q).getD 0 0=xs.getD q 0 by rw [dS];rfl,if_neg h,if_neg h]
theorem zF(xs:List Int)(q:Nat)(h:aw (xs.getD q 0)=0):nK (xs.drop q)=0:=by
 unfold nK;rw [show (xs.drop q).getD 0 0=xs.getD q 0 by rw [dS];rfl,if_pos h]
theorem yC(xs:List Int)(q:Nat)(KV:q<xs.length)(hr:∀ i,i<xs.length->0<=xs.getD i 0/\xs.getD i 0<=255) :
  (∀ j,j<nK (xs.drop q)->q+j<xs.length/\eH ((xs.drop q).take (j+1))=aw (xs.getD q 0)/\0<aw (xs.getD q 0)/\(aw (xs.getD q 0)=(j:Int)+1->nK (xs.drop q)=j+1)) /\
  (q+nK (xs.drop q)<xs.length->(nK (xs.drop q)=0\/aw (xs.getD q 0)≠nK (xs.drop q))->eH ((xs.drop q).take (nK (xs.drop q)+1))=0) /\
  (nK (xs.drop q)=0->cO xs q=(65533,(q:Int),1,(q:Int)+1,true)/\cd xs q=1) /\
  (1<=nK (xs.drop q)->cd xs q=nK (xs.drop q)/\(nK (xs.drop q):Int)<=aw (xs.getD q 0) /\
   (aw (xs.getD q 0)=nK (xs.drop q)->cO xs q=(eU (xs.drop q) (nK (xs.drop q) - 1),(q:Int),(nK (xs.drop q):Int),(q:Int)+nK (xs.drop q),false) /\
    aE (0,0,0) ((xs.drop q).take (nK (xs.drop q)))=[eU (xs.drop q) (nK (xs.drop q) - 1)]/\(aI (0,0,0) ((xs.drop q).take (nK (xs.drop q)))).2.2=0) /\
   (aw (xs.getD q 0)≠nK (xs.drop q)->cO xs q=(65533,(q:Int),(nK (xs.drop q):Int),min ((q:Int)+nK (xs.drop q)+1) xs.length,true) /\
    (aI (0,0,0) ((xs.drop q).take (nK (xs.drop q)))).2.2=nK (xs.drop q))):=by
 have hy:0<(xs.drop q).length:=by simp;omega
 have Dy:(xs.drop q).getD 0 0=xs.getD q 0:=by rw [dS];rfl
 have hrd:=sY hr q;have hle:=li xs q KV;refine ⟨fun j hj=>?_,fun h1 h2=>?_,fun h0=>?_,fun h1=>?_⟩
 ·have:=AK (xs.drop q) hrd hy j hj;rw [Dy] at this;refine ⟨?_,this.2⟩;have h3:=this.1
  simp at h3
  omega
 ·exact Ar (xs.drop q) hrd hy (by simp;omega) (by rw [Dy];exact h2)
 ·by_cases h:aw (xs.getD q 0)=0
  ·exact kn h
  ·rw [yB xs q h] at h0;have:=ef xs q;omega
 ·have h:aw (xs.getD q 0)≠0:=fun h=>by rw [zF xs q h] at h1;omega
  have hn:=yB xs q h;rw [hn] at h1 ⊢;have DA:cd xs q=fw (xs.drop q) (aw (xs.getD q 0)):=by unfold cd;rw [if_neg h]
  have hbl:=fJ (xs.drop q) (aw (xs.getD q 0)) hy;have hlc:=bq (xs.getD q 0);have Kv:=nF (xs.drop q) (by rw [Dy];exact h) hy (cd xs q) h1 (by rw [Dy,<-DA];exact Nat.le_refl _);rw [Dy] at Kv;rw [<-DA] at hbl;refine ⟨rfl,by omega,fun he=>?_,fun he=>?_⟩
  ·rw [if_neg (by omega),if_neg (by omega)] at Kv;exact ⟨gJ h he.symm,Kv.1,by rw [Kv.2]⟩
  ·rw [if_pos (by omega),if_pos (by omega)] at Kv;exact ⟨gh ⟨h,fun e=>he e.symm⟩,by rw [Kv.2]⟩
theorem qI(v:Value)(xs:List Int)(w:World)(hv:Held .u8 w v xs)(Kh:sZ v)(hm:xs.length<=1000000)(hr:∀ i,i<xs.length->0<=xs.getD i 0/\xs.getD i 0<=255) :
  Calls Tryz.prog 88 #[v] w (Aq w xs):=by
 obtain ⟨ao,cap,rfl,hc⟩:=hv.view;have Cd:xs.length<=cap:=Kh _ _ _ rfl;have HV:=ab hv;have HR:=ab hr;have MI:=ab hc;clear hv Kh hr hc
 go_enter Tryz.func88,Tryz.ntmps88
 go_wp2
 go_loopw [3,4] (fun l p wr=>∃ k q:Nat,bZ xs k=q/\k<=q/\q<=xs.length/\p=.int .i64 q/\wr.ownsRow w.heap.size 155 5 l k (aP (bI xs k))/\Below w.heap.size w wr) (fun _ p _=>xs.length - (intOf p).toNat)
 case atStart=>exact ⟨0,0,rfl,Nat.zero_le _,Nat.zero_le _,rfl,World.ownsRow_nil _ _ _ _,Below.refl _ _⟩
 case round =>
  obtain ⟨k,q,hq,hkq,KV,rfl,hown,AY⟩:=hrel;obtain ⟨wo,QE⟩:=ae (wr);subst QE
  by_cases hlt:q<xs.length
  ·obtain ⟨b,off,rfl,hb,B0⟩:=MI.out q hlt;have Db:=vw xs k;have Jk:bZ xs (k+1)=q+cd xs q:=by show bZ xs k+_=_;rw [hq]
   have hle:=li xs q hlt;have Lp:=ef xs q;rw [hq] at Db;obtain ⟨r1,r2,r3,r4⟩:=yC xs q hlt HR.out;have HRD:=ab (sY HR.out q);have Nm:(xs.drop q).length=xs.length - q:=by simp
   obtain ⟨G,hG⟩:=ae (cO xs q);rw [<-hG] at Db r3 r4;obtain ⟨n,hn⟩:=ae (cd xs q);rw [<-hn] at Jk hle Lp r3 r4;obtain ⟨lv,hlv⟩:=ae (aw (xs.getD q 0));rw [<-hlv] at r1 r2 r4;obtain ⟨ys,FD⟩:=ae (xs.drop q);rw [<-FD] at r1 r2 r3 r4 HRD Nm;have I0:=fun (W:World) (hW:Held .u8 W (.slice (some ⟨b,off,none⟩) xs.length cap) xs) (hbW:b<W.heap.size) (j:Nat) (hj:q+j<=xs.length)=>qP hW q j hbW hj (cap - q)
   rw [<-FD] at I0;obtain ⟨N,hN⟩:=ae (nK ys);rw [<-hN] at r1 r2 r3 r4;have hNl:q+N<=xs.length:=by
    rcases Nat.eq_zero_or_pos N with h | h
    ·omega
    ·have:=(r1 (N - 1) (by omega)).1;omega
   have FV:=ab (show ∀ j,q+j<=xs.length->(ys.take j).length=j from fun j hj=>by rw [List.length_take,Nm];omega);have L7:=ab (fun j=>zJ HRD.out j);have Fc:=ab Db;have Mp:=ab Jk;have HOW:=ab hown;have LM:=ab r1;have I5:=ab r2;have Gc:=ab r3;have Jj:=ab r4;have IM:=ab I0;clear Db Jk hown hq r1 r2 r3 r4 I0 B0 hG hn hlv FD hN Nm;go_wp2
   go_loopw [5] (fun j wi=>∃ i:Nat,i<=N/\j=.int .i64 i/\(i=0\/lv≠(i:Int))/\Below wo.heap.size wo wi) (fun j _=>N - (intOf j).toNat)
   case atStart=>exact ⟨0,Nat.zero_le _,rfl,.inl rfl,Below.refl _ _⟩
   case round =>
    obtain ⟨i,hiN,rfl,Ll,Ja⟩:=hrel;have EN:=AY.trans (Ja.mono AY.size);have hbs:=EN.size;have q0:¬ (cap=q):=by omega
    by_cases GV:i<N
    ·obtain ⟨a1,a2,a3,a4⟩:=LM.out i GV;have d1:decide ((q:Int)+i<xs.length)=true:=decide_eq_true (by omega);have d2:decide ((0:Int)<lv)=true:=decide_eq_true a3;have q1:¬ (cap<xs.length):=by omega
     have q3:¬ (cap<q+i+1):=by omega
     have q4:¬ (q+i+1<q):=by omega
     have q5:¬ ((q:Int)+(i:Int)+1<q):=by omega
     have q6:¬ ((cap:Int)<(q:Int)+i+1):=by omega
     have HA4:=ab a4;have Ji:=ab a2;have PA:=IM.out wr (HV.out.below EN) (by omega) (i+1) (by omega);have LB:=ab PA;have E0:=FV.out (i+1) (by omega);have F0:=ab E0;clear a4 a2 PA E0;have q7:¬ (cap<q+(i+1)):=by omega
     have q8:¬ (q+(i+1)<q):=by omega
     have q9:¬ ((q:Int)+((i:Int)+1)<q):=by omega
     have q10:¬ ((cap:Int)<(q:Int)+((i:Int)+1)):=by omega
     go_wp2_with fail
     rw [show q+i+1 - q=i+1 by omega];refine (fu _ (ys.take (i+1)) _ LB.out (by have:=F0.out;omega) (by have:=F0.out;omega) (L7.out (i+1))).mono ?_;rintro e w1 ⟨rfl,b1⟩;rw [Ji.out];have hb1:=EN.trans (b1.mono EN.size);have hb1i:=Ja.trans (b1.mono Ja.size);have hs1:=hb1.size;have LF:=ab (IM.out w1 (HV.out.below hb1) (by omega) (i+1) (by omega));clear LB b1
     go_wp2_with fail
     refine (fu _ (ys.take (i+1)) _ LF.out (by have:=F0.out;omega) (by have:=F0.out;omega) (L7.out (i+1))).mono ?_;rintro e w2 ⟨rfl,b2⟩;rw [Ji.out];have hb2:=hb1.trans (b2.mono hb1.size);have hb2i:=hb1i.trans (b2.mono hb1i.size);have hs2:=hb2.size;clear LF b2 Ji
     by_cases hwh:lv=(i:Int)+1
     ·have t1:(lv == (i:Int)+1)=true:=by simp [hwh]
      have hNi:=HA4.out hwh;subst hNi;obtain ⟨c1,c2,c3,c4⟩:=Jj.out (by omega);obtain ⟨c5,c6,c7⟩:=c3 (by rw [hwh];rfl);subst c1;subst c5;obtain ⟨V,hV⟩:=ae (eU ys (i+1 - 1));rw [<-hV] at c6 Fc;have HC6:=ab c6;have OM:=ab c7;clear hV;have Hh:=hb2;have G1:=hb2i;rw [show ((i+1:Nat):Int)=(i:Int)+1 from rfl] at Fc;have Cx:=aA HOW.out G1;have Ej:u3.ownBlock≠some w2.heap.size:=fun e=>by have:=(Cx.lt _ e).2;omega
      have Ix:=Has.new w2 [Value.int .i32 65533,.int .i64 q,.int .i64 ((i:Int)+1),.int .i64 (q+1),.bool true] 155;have Fk:=Hh.alloc Hh.size (.cells [Value.int .i32 65533,.int .i64 q,.int .i64 ((i:Int)+1),.int .i64 (q+1),.bool true].toArray 155);have CI:=Cx.alloc (.cells [Value.int .i32 65533,.int .i64 q,.int .i64 ((i:Int)+1),.int .i64 (q+1),.bool true].toArray 155);obtain ⟨WA,FH⟩:=ae (w2.alloc (.cells [Value.int .i32 65533,.int .i64 q,.int .i64 ((i:Int)+1),.int .i64 (q+1),.bool true].toArray 155));have MM:WA.heap.size=w2.heap.size+1:=by rw [FH];simp
      rw [<-FH] at Ix Fk CI;have E1:w2.alloc (.cells #[Value.int .i32 65533,.int .i64 q,.int .i64 ((i:Int)+1),.int .i64 (q+1),.bool true] 155)=WA:=FH.symm;have Ht:=ab E1;have Jv:=ab (show max ((i:Int)+1:Int) 1=((i:Int)+1) by omega);have Js:=ab Ix;have GG:=ab CI;clear FH E1 Ix CI Cx;have KJ:=ab (IM.out WA (HV.out.below Fk) (by have:=Fk.size;omega) (i+1) (by omega));have C5:=ab (FV.out (i+1) (by omega))
      go_wp2_with fail
      rw [Jv.out,Ht.out];refine (ix (0,0,0) [] _ _ (ys.take (i+1)) _ Rel.none (Held.nil .u8 _) KJ.out (L7.out (i+1)) (by have:=C5.out;omega)).mono ?_;rintro e w3 ⟨vt,vh,H',rfl,ht,hh,DB,b3,I6⟩;have GE:w2.heap.size<WA.heap.size:=by omega
      have hg3:=Js.out.below b3 GE;have hb3:=Fk.trans (b3.mono Fk.size);have EK:=aA GG.out b3;have hs3:=b3.size;obtain ⟨ho,hcp2,rfl⟩:=hh.len;have DA:=(jL DB).1;have g0:=hg3.free 0;have g1:=hg3.free 1;have g2:=hg3.free 2;have g3:=hg3.free 3;have g4:=hg3.free 4;have k0:=hg3.cell 0 _ rfl;have k1:=hg3.cell 1 _ rfl;have k2:=hg3.cell 2 _ rfl;have k3:=hg3.cell 3 _ rfl;have k4:=hg3.cell 4 _ rfl;have OD:=ab hg3;rw [OM.out] at DA;have hH0:H'.length=0:=by omega
      rw [hH0];rw [HC6.out] at ht;obtain ⟨tz9,tc,rfl,OK⟩:=ht.view;obtain ⟨bt,offt,rfl,hbt,I0⟩:=OK 0 (by simp);have hct1:w3.cell? ⟨bt,offt+0,none⟩=some (.int .i32 V):=I0;have hne:bt≠w2.heap.size:=by have:=I6 _ _ _ rfl;simp at this;omega
      have hne2:w2.heap.size≠bt:=fun e=>hne e.symm
      rw [Nat.add_zero] at hct1;clear ht hh DB b3 I6 OK I0 DA hg3 hH0 c3 HA4 Jj Gc I5 LM;have EH:(((((((w3.setCell ⟨w2.heap.size,3,none⟩ (.int .i64 (min ((q:Int)+((i:Int)+1)+1) xs.length))).setCell ⟨w2.heap.size,0,none⟩ (.int .i32 V)).setCell ⟨w2.heap.size,1,none⟩ (.int .i64 q)).setCell ⟨w2.heap.size,2,none⟩ (.int .i64 ((i:Int)+1))).setCell ⟨w2.heap.size,3,none⟩ (.int .i64 ((q:Int)+((i:Int)+1)))).setCell ⟨w2.heap.size,4,none⟩ (.bool false))).heap.size=w3.heap.size:=by first | (simp;done) | exact MM
      have hS:=(Has.set (Has.set (Has.set (Has.set (Has.set (Has.set OD.out 3 (.int .i64 (min ((q:Int)+((i:Int)+1)+1) xs.length))) 0 (.int .i32 V)) 1 (.int .i64 q)) 2 (.int .i64 ((i:Int)+1))) 3 (.int .i64 ((q:Int)+((i:Int)+1)))) 4 (.bool false));have JU:Below w.heap.size w (((((((w3.setCell ⟨w2.heap.size,3,none⟩ (.int .i64 (min ((q:Int)+((i:Int)+1)+1) xs.length))).setCell ⟨w2.heap.size,0,none⟩ (.int .i32 V)).setCell ⟨w2.heap.size,1,none⟩ (.int .i64 q)).setCell ⟨w2.heap.size,2,none⟩ (.int .i64 ((i:Int)+1))).setCell ⟨w2.heap.size,3,none⟩ (.int .i64 ((q:Int)+((i:Int)+1)))).setCell ⟨w2.heap.size,4,none⟩ (.bool false))):=hb3.trans ((But.set (But.set (But.set (But.set (But.set (But.set (But.refl w2.heap.size w3.heap.size w3) 3 _) 0 _) 1 _) 2 _) 3 _) 4 _).below hb3.size (by have:=Hh.size;omega));have JS:(((((((w3.setCell ⟨w2.heap.size,3,none⟩ (.int .i64 (min ((q:Int)+((i:Int)+1)+1) xs.length))).setCell ⟨w2.heap.size,0,none⟩ (.int .i32 V)).setCell ⟨w2.heap.size,1,none⟩ (.int .i64 q)).setCell ⟨w2.heap.size,2,none⟩ (.int .i64 ((i:Int)+1))).setCell ⟨w2.heap.size,3,none⟩ (.int .i64 ((q:Int)+((i:Int)+1)))).setCell ⟨w2.heap.size,4,none⟩ (.bool false))).ownsRow w.heap.size 155 5 u3 k (aP (bI xs k)):=mr EK (But.set (But.set (But.set (But.set (But.set (But.set (But.refl w2.heap.size w3.heap.size w3) 3 _) 0 _) 1 _) 2 _) 3 _) 4 _) Ej;have DF:=ab EH;have E4:=ab hS;have Fd:=ab JU;have JK:=ab JS;clear EH hS JU JS
      go_wp2_with (at_builtin;refine bd (((((((w3.setCell ⟨w2.heap.size,3,none⟩ (.int .i64 (min ((q:Int)+((i:Int)+1)+1) xs.length))).setCell ⟨w2.heap.size,0,none⟩ (.int .i32 V)).setCell ⟨w2.heap.size,1,none⟩ (.int .i64 q)).setCell ⟨w2.heap.size,2,none⟩ (.int .i64 ((i:Int)+1))).setCell ⟨w2.heap.size,3,none⟩ (.int .i64 ((q:Int)+((i:Int)+1)))).setCell ⟨w2.heap.size,4,none⟩ (.bool false))) rfl (.tmp 79) (.tmp 81) 152 rfl w.heap.size 155 (.agg #[.int .i32 0,.int .i64 0,.int .i64 0,.int .i64 0,.bool false]) 5 40 Tryz.underlying152 iy rfl (by decide) u3 k (aP (bI xs k)) rfl JK.out [Value.int .i32 V,.int .i64 q,.int .i64 ((i:Int)+1),.int .i64 ((q:Int)+((i:Int)+1)),.bool false] 1 1 (w3.heap.size) DF.out rfl rfl (by intro u hu;simp at hu;rcases hu with rfl | rfl | rfl | rfl | rfl <;> rfl) (by omega) (by omega) Fd.out.size ?_)
      intro v' w' hown' hb' IT;have hg2:=(IT w2.heap.size (by first | omega | (rw [DF.out];omega)) Ej).trans E4.out;have c2:=Has.cell hg2 2 _ rfl;have CO:w'.ownsRow w.heap.size 155 5 v' (k+1) (aP (bI xs (k+1))):=by rw [Fc.out];exact hown'
      have hb3:=Fd.out.trans hb';clear hown' hb' IT hg2 Ej Fc DF E4 Fd JK;go_wp2
      go_roundw
      case rel=>exact ⟨k+1,q+(i+1),Mp.out,by omega,by omega,by go_num,CO,hb3⟩
      case measure=>simp [intOf] <;> omega
     ·have t1:(lv == (i:Int)+1)=false:=by simp [hwh]
      go_wp2
      go_roundw
      case rel=>exact ⟨i+1,by omega,by go_num,.inr hwh,hb2i⟩
      case measure=>simp [intOf] <;> omega
    ·obtain rfl:i=N:=by omega
     have Hh:=EN;have G1:=Ja;have q1:¬ (cap<xs.length):=by omega
     by_cases hN0:i=0
     ·subst hN0;obtain ⟨c1,c2⟩:=Gc.out rfl;subst c1;subst c2;have d1:decide ((q:Int)+(0:Nat)<xs.length)=true:=decide_eq_true (by omega);have q3:¬ (cap<q+0+1):=by omega
      have q4:¬ (q+0+1<q):=by omega
      have q5:¬ ((q:Int)+1<q):=by omega
      have q6:¬ ((cap:Int)<(q:Int)+1):=by omega
      have N3:=ab (show eH (ys.take 1)=0 from I5.out hlt (.inl rfl));have LB:=ab (IM.out wr (HV.out.below EN) (by omega) 1 (by omega));have F0:=ab (FV.out 1 (by omega));clear I5 LM Jj Gc
      go_wp2_with fail
      refine (fu _ (ys.take 1) _ LB.out (by have:=F0.out;omega) (by have:=F0.out;omega) (L7.out 1)).mono ?_;rintro e w1 ⟨rfl,b1⟩;rw [N3.out];have Hh:=EN.trans (b1.mono EN.size);have G1:=Ja.trans (b1.mono Ja.size);clear LB b1 N3;have Cx:=aA HOW.out G1;have Ej:u3.ownBlock≠some w1.heap.size:=fun e=>by have:=(Cx.lt _ e).2;omega
      have Ix:=Has.new w1 [Value.int .i32 65533,.int .i64 q,.int .i64 1,.int .i64 (q+1),.bool true] 155;have Fk:=Hh.alloc Hh.size (.cells [Value.int .i32 65533,.int .i64 q,.int .i64 1,.int .i64 (q+1),.bool true].toArray 155);have CI:=Cx.alloc (.cells [Value.int .i32 65533,.int .i64 q,.int .i64 1,.int .i64 (q+1),.bool true].toArray 155);obtain ⟨WA,FH⟩:=ae (w1.alloc (.cells [Value.int .i32 65533,.int .i64 q,.int .i64 1,.int .i64 (q+1),.bool true].toArray 155));have MM:WA.heap.size=w1.heap.size+1:=by rw [FH];simp
      rw [<-FH] at Ix Fk CI;have E1:w1.alloc (.cells #[Value.int .i32 65533,.int .i64 q,.int .i64 1,.int .i64 (q+1),.bool true] 155)=WA:=FH.symm;have Ht:=ab E1;have Jv:=ab (show max (0:Int) 1=1 by omega);have Js:=ab Ix;have GG:=ab CI;clear FH E1 Ix CI Cx;have hbX2:=Hh
      go_upto_region 14 with (fail)
      rw [Jv.out,Ht.out];have hnb2:=Ej;have k0:=Js.out.cell 0 _ rfl;have k1:=Js.out.cell 1 _ rfl;have k2:=Js.out.cell 2 _ rfl;have k3:=Js.out.cell 3 _ rfl;have k4:=Js.out.cell 4 _ rfl;have EH:(WA).heap.size=w1.heap.size+1:=by first | (simp;done) | exact MM
      have hS:=Js.out;have JU:Below w.heap.size w (WA):=Fk;have JS:(WA).ownsRow w.heap.size 155 5 u3 k (aP (bI xs k)):=GG.out;have DF:=ab EH;have E4:=ab hS;have Fd:=ab JU;have JK:=ab JS;clear EH hS JU JS
      go_wp2_with (at_builtin;refine bd (WA) rfl (.tmp 79) (.tmp 81) 152 rfl w.heap.size 155 (.agg #[.int .i32 0,.int .i64 0,.int .i64 0,.int .i64 0,.bool false]) 5 40 Tryz.underlying152 iy rfl (by decide) u3 k (aP (bI xs k)) rfl JK.out [Value.int .i32 65533,.int .i64 q,.int .i64 1,.int .i64 (q+1),.bool true] 1 1 (w1.heap.size+1) DF.out rfl rfl (by intro u hu;simp at hu;rcases hu with rfl | rfl | rfl | rfl | rfl <;> rfl) (by omega) (by omega) Fd.out.size ?_)
      intro v' w' hown' hb' IT;have hg2:=(IT w1.heap.size (by first | omega | (rw [DF.out];omega)) Ej).trans E4.out;have c2:=Has.cell hg2 2 _ rfl;have CO:w'.ownsRow w.heap.size 155 5 v' (k+1) (aP (bI xs (k+1))):=by rw [Fc.out];exact hown'
      have hb3:=Fd.out.trans hb';clear hown' hb' IT hg2 Ej Fc DF E4 Fd JK;go_wp2
      go_roundw
      case rel=>exact ⟨k+1,q+1,Mp.out,by omega,by omega,by go_num,CO,hb3⟩
      case measure=>simp [intOf] <;> omega
     ·have Dt:1<=i:=by omega
      obtain ⟨c1,c2,c3,c4⟩:=Jj.out Dt;obtain ⟨c5,c7⟩:=c4 (by omega);subst c1;subst c5;have OM:=ab c7;clear c2 c3 c4
      by_cases hql2:q+n<xs.length
      ·have d1:decide ((q:Int)+n<xs.length)=true:=decide_eq_true (by omega);have q3:¬ (cap<q+n+1):=by omega
       have q4:¬ (q+n+1<q):=by omega
       have q5:¬ ((q:Int)+(n:Int)+1<q):=by omega
       have q6:¬ ((cap:Int)<(q:Int)+n+1):=by omega
       have N3:=ab (I5.out hql2 (.inr (by omega)));have LB:=ab (IM.out wr (HV.out.below EN) (by omega) (n+1) (by omega));have F0:=ab (FV.out (n+1) (by omega));clear I5 LM Jj Gc
       go_wp2_with fail
       rw [show q+n+1 - q=n+1 by omega];refine (fu _ (ys.take (n+1)) _ LB.out (by have:=F0.out;omega) (by have:=F0.out;omega) (L7.out (n+1))).mono ?_;rintro e w1 ⟨rfl,b1⟩;rw [N3.out];have Hh:=EN.trans (b1.mono EN.size);have G1:=Ja.trans (b1.mono Ja.size);clear LB b1 N3;have Cx:=aA HOW.out G1;have Ej:u3.ownBlock≠some w1.heap.size:=fun e=>by have:=(Cx.lt _ e).2;omega
       have Ix:=Has.new w1 [Value.int .i32 65533,.int .i64 q,.int .i64 n,.int .i64 (q+1),.bool true] 155;have Fk:=Hh.alloc Hh.size (.cells [Value.int .i32 65533,.int .i64 q,.int .i64 n,.int .i64 (q+1),.bool true].toArray 155);have CI:=Cx.alloc (.cells [Value.int .i32 65533,.int .i64 q,.int .i64 n,.int .i64 (q+1),.bool true].toArray 155);obtain ⟨WA,FH⟩:=ae (w1.alloc (.cells [Value.int .i32 65533,.int .i64 q,.int .i64 n,.int .i64 (q+1),.bool true].toArray 155));have MM:WA.heap.size=w1.heap.size+1:=by rw [FH];simp
       rw [<-FH] at Ix Fk CI;have E1:w1.alloc (.cells #[Value.int .i32 65533,.int .i64 q,.int .i64 n,.int .i64 (q+1),.bool true] 155)=WA:=FH.symm;have Ht:=ab E1;have Jv:=ab (show max (n:Int) 1=n by omega);have Js:=ab Ix;have GG:=ab CI;clear FH E1 Ix CI Cx;have KJ:=ab (IM.out WA (HV.out.below Fk) (by have:=Fk.size;omega) (n) (by omega));have C5:=ab (FV.out (n) (by omega))
       go_wp2_with fail
       rw [Jv.out,Ht.out];refine (ix (0,0,0) [] _ _ (ys.take (n)) _ Rel.none (Held.nil .u8 _) KJ.out (L7.out (n)) (by have:=C5.out;omega)).mono ?_;rintro e w3 ⟨vt,vh,H',rfl,ht,hh,DB,b3,I6⟩;have GE:w1.heap.size<WA.heap.size:=by omega
       have hg3:=Js.out.below b3 GE;have hb3:=Fk.trans (b3.mono Fk.size);have EK:=aA GG.out b3;have hs3:=b3.size;obtain ⟨ho,hcp2,rfl⟩:=hh.len;have DA:=(jL DB).1;have g0:=hg3.free 0;have g1:=hg3.free 1;have g2:=hg3.free 2;have g3:=hg3.free 3;have g4:=hg3.free 4;have k0:=hg3.cell 0 _ rfl;have k1:=hg3.cell 1 _ rfl;have k2:=hg3.cell 2 _ rfl;have k3:=hg3.cell 3 _ rfl;have k4:=hg3.cell 4 _ rfl;have OD:=ab hg3;rw [OM.out] at DA;have d9:((H'.length:Int) == 0)=false:=beq_eq_false_iff_ne.2 (by omega);clear ht hh DB b3 I6 DA hg3;have EH:((w3.setCell ⟨w1.heap.size,3,none⟩ (.int .i64 (min ((q:Int)+n+1) xs.length)))).heap.size=w3.heap.size:=by first | (simp;done) | exact MM
       have hS:=(Has.set OD.out 3 (.int .i64 (min ((q:Int)+n+1) xs.length)));have JU:Below w.heap.size w ((w3.setCell ⟨w1.heap.size,3,none⟩ (.int .i64 (min ((q:Int)+n+1) xs.length)))):=hb3.trans ((But.set (But.refl w1.heap.size w3.heap.size w3) 3 _).below hb3.size (by have:=Hh.size;omega));have JS:((w3.setCell ⟨w1.heap.size,3,none⟩ (.int .i64 (min ((q:Int)+n+1) xs.length)))).ownsRow w.heap.size 155 5 u3 k (aP (bI xs k)):=mr EK (But.set (But.refl w1.heap.size w3.heap.size w3) 3 _) Ej;have DF:=ab EH;have E4:=ab hS;have Fd:=ab JU;have JK:=ab JS;clear EH hS JU JS
       go_wp2_with (at_builtin;refine bd ((w3.setCell ⟨w1.heap.size,3,none⟩ (.int .i64 (min ((q:Int)+n+1) xs.length)))) rfl (.tmp 79) (.tmp 81) 152 rfl w.heap.size 155 (.agg #[.int .i32 0,.int .i64 0,.int .i64 0,.int .i64 0,.bool false]) 5 40 Tryz.underlying152 iy rfl (by decide) u3 k (aP (bI xs k)) rfl JK.out [Value.int .i32 65533,.int .i64 q,.int .i64 n,.int .i64 (min ((q:Int)+n+1) xs.length),.bool true] 1 1 (w3.heap.size) DF.out rfl rfl (by intro u hu;simp at hu;rcases hu with rfl | rfl | rfl | rfl | rfl <;> rfl) (by omega) (by omega) Fd.out.size ?_)
       intro v' w' hown' hb' IT;have hg2:=(IT w1.heap.size (by first | omega | (rw [DF.out];omega)) Ej).trans E4.out;have c2:=Has.cell hg2 2 _ rfl;have CO:w'.ownsRow w.heap.size 155 5 v' (k+1) (aP (bI xs (k+1))):=by rw [Fc.out];exact hown'
       have hb3:=Fd.out.trans hb';clear hown' hb' IT hg2 Ej Fc DF E4 Fd JK;go_wp2
       go_roundw
       case rel=>exact ⟨k+1,q+n,Mp.out,by omega,by omega,by go_num,CO,hb3⟩
       case measure=>simp [intOf] <;> omega
      ·have d1:decide ((q:Int)+n<xs.length)=false:=decide_eq_false (by omega);clear I5 LM Jj Gc;have Cx:=aA HOW.out G1;have Ej:u3.ownBlock≠some wr.heap.size:=fun e=>by have:=(Cx.lt _ e).2;omega
       have Ix:=Has.new wr [Value.int .i32 65533,.int .i64 q,.int .i64 n,.int .i64 (q+1),.bool true] 155;have Fk:=Hh.alloc Hh.size (.cells [Value.int .i32 65533,.int .i64 q,.int .i64 n,.int .i64 (q+1),.bool true].toArray 155);have CI:=Cx.alloc (.cells [Value.int .i32 65533,.int .i64 q,.int .i64 n,.int .i64 (q+1),.bool true].toArray 155);obtain ⟨WA,FH⟩:=ae (wr.alloc (.cells [Value.int .i32 65533,.int .i64 q,.int .i64 n,.int .i64 (q+1),.bool true].toArray 155));have MM:WA.heap.size=wr.heap.size+1:=by rw [FH];simp
       rw [<-FH] at Ix Fk CI;have E1:wr.alloc (.cells #[Value.int .i32 65533,.int .i64 q,.int .i64 n,.int .i64 (q+1),.bool true] 155)=WA:=FH.symm;have Ht:=ab E1;have Jv:=ab (show max (n:Int) 1=n by omega);have Js:=ab Ix;have GG:=ab CI;clear FH E1 Ix CI Cx;have KJ:=ab (IM.out WA (HV.out.below Fk) (by have:=Fk.size;omega) (n) (by omega));have C5:=ab (FV.out (n) (by omega))
       go_wp2_with fail
       rw [Jv.out,Ht.out];refine (ix (0,0,0) [] _ _ (ys.take (n)) _ Rel.none (Held.nil .u8 _) KJ.out (L7.out (n)) (by have:=C5.out;omega)).mono ?_;rintro e w3 ⟨vt,vh,H',rfl,ht,hh,DB,b3,I6⟩;have GE:wr.heap.size<WA.heap.size:=by omega
       have hg3:=Js.out.below b3 GE;have hb3:=Fk.trans (b3.mono Fk.size);have EK:=aA GG.out b3;have hs3:=b3.size;obtain ⟨ho,hcp2,rfl⟩:=hh.len;have DA:=(jL DB).1;have g0:=hg3.free 0;have g1:=hg3.free 1;have g2:=hg3.free 2;have g3:=hg3.free 3;have g4:=hg3.free 4;have k0:=hg3.cell 0 _ rfl;have k1:=hg3.cell 1 _ rfl;have k2:=hg3.cell 2 _ rfl;have k3:=hg3.cell 3 _ rfl;have k4:=hg3.cell 4 _ rfl;have OD:=ab hg3;rw [OM.out] at DA;have d9:((H'.length:Int) == 0)=false:=beq_eq_false_iff_ne.2 (by omega);clear ht hh DB b3 I6 DA hg3;have EH:((w3.setCell ⟨wr.heap.size,3,none⟩ (.int .i64 (min ((q:Int)+n+1) xs.length)))).heap.size=w3.heap.size:=by first | (simp;done) | exact MM
       have hS:=(Has.set OD.out 3 (.int .i64 (min ((q:Int)+n+1) xs.length)));have JU:Below w.heap.size w ((w3.setCell ⟨wr.heap.size,3,none⟩ (.int .i64 (min ((q:Int)+n+1) xs.length)))):=hb3.trans ((But.set (But.refl wr.heap.size w3.heap.size w3) 3 _).below hb3.size (by have:=Hh.size;omega));have JS:((w3.setCell ⟨wr.heap.size,3,none⟩ (.int .i64 (min ((q:Int)+n+1) xs.length)))).ownsRow w.heap.size 155 5 u3 k (aP (bI xs k)):=mr EK (But.set (But.refl wr.heap.size w3.heap.size w3) 3 _) Ej;have DF:=ab EH;have E4:=ab hS;have Fd:=ab JU;have JK:=ab JS;clear EH hS JU JS
       go_wp2_with (at_builtin;refine bd ((w3.setCell ⟨wr.heap.size,3,none⟩ (.int .i64 (min ((q:Int)+n+1) xs.length)))) rfl (.tmp 79) (.tmp 81) 152 rfl w.heap.size 155 (.agg #[.int .i32 0,.int .i64 0,.int .i64 0,.int .i64 0,.bool false]) 5 40 Tryz.underlying152 iy rfl (by decide) u3 k (aP (bI xs k)) rfl JK.out [Value.int .i32 65533,.int .i64 q,.int .i64 n,.int .i64 (min ((q:Int)+n+1) xs.length),.bool true] 1 1 (w3.heap.size) DF.out rfl rfl (by intro u hu;simp at hu;rcases hu with rfl | rfl | rfl | rfl | rfl <;> rfl) (by omega) (by omega) Fd.out.size ?_)
       intro v' w' hown' hb' IT;have hg2:=(IT wr.heap.size (by first | omega | (rw [DF.out];omega)) Ej).trans E4.out;have c2:=Has.cell hg2 2 _ rfl;have CO:w'.ownsRow w.heap.size 155 5 v' (k+1) (aP (bI xs (k+1))):=by rw [Fc.out];exact hown'
       have hb3:=Fd.out.trans hb';clear hown' hb' IT hg2 Ej Fc DF E4 Fd JK;go_wp2
       go_roundw
       case rel=>exact ⟨k+1,q+n,Mp.out,by omega,by omega,by go_num,CO,hb3⟩
       case measure=>simp [intOf] <;> omega
  ·have Oy:q=xs.length:=by omega
   subst Oy;go_wp2;go_ret;exact ⟨k,_,rfl,hq,hown,AY⟩
end Go.Proofs.YtoeggiplcaegoaaGreatDoor
