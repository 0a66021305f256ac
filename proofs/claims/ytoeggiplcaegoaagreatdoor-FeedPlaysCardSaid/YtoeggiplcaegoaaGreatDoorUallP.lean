import Derived.Test.YtoeggiplcaegoaaGreatDoorZ0
import Derived.Test.YtoeggiplcaegoaaGreatDoorMg3
import Derived.Test.YtoeggiplcaegoaaGreatDoorMg2
import Derived.Lib.MinMax
import Derived.Deep.Cut
set_option maxRecDepth 100000
set_option linter.unusedVariables false
set_option linter.unusedSimpArgs false
set_option maxHeartbeats 1000000
namespace Go.Proofs.YtoeggiplcaegoaaGreatDoor
open Go.RowKit Go.ChangeShapes Go.WideShapes
theorem lW{w w':World}{g B e size n:Nat}{v:Value}{xs:List Value}(h:w.ownsRow B e size v n xs)(hb:But g w.heap.size w w')(hn:v.ownBlock≠some g):w'.ownsRow B e size v n xs:=by
 refine ⟨h.1,?_⟩
 rcases h.2 with hv | ⟨g',cap,cur,rfl,hg,hh,hrest⟩
 ·exact .inl hv
 ·exact .inr ⟨g',cap,cur,rfl,hg,(hb.block g' (Array.getElem?_eq_some_iff.1 hh).1 (fun e=>hn (by subst e;rfl))).trans hh,hrest⟩
theorem im:(Tryz.prog.info? 155).map (fun i=>(i.zero,i.size,i.bytes))=some (some (.agg #[.int .i32 0,.int .i64 0,.int .i64 0,.int .i64 0,.bool false]),5,40):=by kernel_rfl
def zh(w:World)(xs:List Int)(e:Ending)(w':World):Prop:=∃ k v',e=.returned v'/\cx xs k=xs.length/\w'.ownsRow w.heap.size 155 5 v' k (aP (bK xs k))/\Below w.heap.size w w'
theorem xp(xs:List Int)(q:Nat)(h:ax (xs.getD q 0)≠0):nK (xs.drop q)=cf xs q:=by
 unfold nK cf;rw [show (xs.drop q).getD 0 0=xs.getD q 0 by rw [dN];rfl,if_neg h,if_neg h]
theorem yx(xs:List Int)(q:Nat)(h:ax (xs.getD q 0)=0):nK (xs.drop q)=0:=by
 unfold nK;rw [show (xs.drop q).getD 0 0=xs.getD q 0 by rw [dN];rfl,if_pos h]
theorem xr(xs:List Int)(q:Nat)(Kv:q<xs.length)(hr:∀ i,i<xs.length->0<=xs.getD i 0/\xs.getD i 0<=255) :
  (∀ j,j<nK (xs.drop q)->q+j<xs.length/\eE ((xs.drop q).take (j+1))=ax (xs.getD q 0)/\0<ax (xs.getD q 0)/\(ax (xs.getD q 0)=(j:Int)+1->nK (xs.drop q)=j+1)) /\
  (q+nK (xs.drop q)<xs.length->(nK (xs.drop q)=0\/ax (xs.getD q 0)≠nK (xs.drop q))->eE ((xs.drop q).take (nK (xs.drop q)+1))=0) /\
  (nK (xs.drop q)=0->cO xs q=(65533,(q:Int),1,(q:Int)+1,true)/\cf xs q=1) /\
  (1<=nK (xs.drop q)->cf xs q=nK (xs.drop q)/\(nK (xs.drop q):Int)<=ax (xs.getD q 0) /\
   (ax (xs.getD q 0)=nK (xs.drop q)->cO xs q=(eT (xs.drop q) (nK (xs.drop q) - 1),(q:Int),(nK (xs.drop q):Int),(q:Int)+nK (xs.drop q),false) /\
    aA (0,0,0) ((xs.drop q).take (nK (xs.drop q)))=[eT (xs.drop q) (nK (xs.drop q) - 1)]/\(aF (0,0,0) ((xs.drop q).take (nK (xs.drop q)))).2.2=0) /\
   (ax (xs.getD q 0)≠nK (xs.drop q)->cO xs q=(65533,(q:Int),(nK (xs.drop q):Int),min ((q:Int)+nK (xs.drop q)+1) xs.length,true) /\
    (aF (0,0,0) ((xs.drop q).take (nK (xs.drop q)))).2.2=nK (xs.drop q))):=by
 have hy:0<(xs.drop q).length:=by simp;omega
 have CF:(xs.drop q).getD 0 0=xs.getD q 0:=by rw [dN];rfl
 have hrd:=sc hr q;have hle:=kS xs q Kv;refine ⟨fun j hj=>?_,fun h1 h2=>?_,fun h0=>?_,fun h1=>?_⟩
 ·have:=zA (xs.drop q) hrd hy j hj;rw [CF] at this;refine ⟨?_,this.2⟩;have h3:=this.1
  simp at h3
  omega
 ·exact zi (xs.drop q) hrd hy (by simp;omega) (by rw [CF];exact h2)
 ·by_cases h:ax (xs.getD q 0)=0
  ·exact ke h
  ·rw [xp xs q h] at h0;have:=eF xs q;omega
 ·have h:ax (xs.getD q 0)≠0:=fun h=>by rw [yx xs q h] at h1;omega
  have hn:=xp xs q h;rw [hn] at h1 ⊢;have Ce:cf xs q=fp (xs.drop q) (ax (xs.getD q 0)):=by unfold cf;rw [if_neg h]
  have hbl:=fD (xs.drop q) (ax (xs.getD q 0)) hy;have hlc:=bp (xs.getD q 0);have J7:=ng (xs.drop q) (by rw [CF];exact h) hy (cf xs q) h1 (by rw [CF,<-Ce];exact Nat.le_refl _);rw [CF] at J7;rw [<-Ce] at hbl;refine ⟨rfl,by omega,fun he=>?_,fun he=>?_⟩
  ·rw [if_neg (by omega),if_neg (by omega)] at J7;exact ⟨gA h he.symm,J7.1,by rw [J7.2]⟩
  ·rw [if_pos (by omega),if_pos (by omega)] at J7;exact ⟨fU ⟨h,fun e=>he e.symm⟩,by rw [J7.2]⟩
theorem xt(v:Value)(xs:List Int)(w:World)(hv:Held .u8 w v xs)(M5:yI v)(hm:xs.length<=1000000)(hr:∀ i,i<xs.length->0<=xs.getD i 0/\xs.getD i 0<=255) :
  Calls Tryz.prog 88 #[v] w (zh w xs):=by
 obtain ⟨ao,cap,rfl,hc⟩:=hv.view;have Bg:xs.length<=cap:=M5 _ _ _ rfl;have HV:=ab hv;have HR:=ab hr;have Lw:=ab hc;clear hv M5 hr hc
 go_enter Tryz.func88,Tryz.ntmps88
 go_wp2
 go_loopw [3,4] (fun l p wr=>∃ k q:Nat,cx xs k=q/\k<=q/\q<=xs.length/\p=.int .i64 q/\wr.ownsRow w.heap.size 155 5 l k (aP (bK xs k))/\Below w.heap.size w wr) (fun _ p _=>xs.length - (intOf p).toNat)
 case atStart=>exact ⟨0,0,rfl,Nat.zero_le _,Nat.zero_le _,rfl,World.ownsRow_nil _ _ _ _,Below.refl _ _⟩
 case round =>
  obtain ⟨k,q,hq,hkq,Kv,rfl,hown,zN⟩:=hrel;obtain ⟨wo,PA⟩:=ae (wr);subst PA
  by_cases hlt:q<xs.length
  ·obtain ⟨b,off,rfl,hb,AX⟩:=Lw.out q hlt;have CN:=uq xs k;have J8:cx xs (k+1)=q+cf xs q:=by show cx xs k+_=_;rw [hq]
   have hle:=kS xs q hlt;have OF:=eF xs q;rw [hq] at CN;obtain ⟨r1,r2,r3,r4⟩:=xr xs q hlt HR.out;have HRD:=ab (sc HR.out q);have Mo:(xs.drop q).length=xs.length - q:=by simp
   obtain ⟨G,hG⟩:=ae (cO xs q);rw [<-hG] at CN r3 r4;obtain ⟨n,hn⟩:=ae (cf xs q);rw [<-hn] at J8 hle OF r3 r4;obtain ⟨lv,hlv⟩:=ae (ax (xs.getD q 0));rw [<-hlv] at r1 r2 r4;obtain ⟨ys,E0⟩:=ae (xs.drop q);rw [<-E0] at r1 r2 r3 r4 HRD Mo;have Jf:=fun (W:World) (hW:Held .u8 W (.slice (some ⟨b,off,none⟩) xs.length cap) xs) (hbW:b<W.heap.size) (j:Nat) (hj:q+j<=xs.length)=>xz hW q j hbW hj (cap - q)
   rw [<-E0] at Jf;obtain ⟨N,hN⟩:=ae (nK ys);rw [<-hN] at r1 r2 r3 r4;have hNl:q+N<=xs.length:=by
    rcases Nat.eq_zero_or_pos N with h | h
    ·omega
    ·have:=(r1 (N - 1) (by omega)).1;omega
   have FB:=ab (show ∀ j,q+j<=xs.length->(ys.take j).length=j from fun j hj=>by rw [List.length_take,Mo];omega);have Lj:=ab (fun j=>yA HRD.out j);have F6:=ab CN;have N4:=ab J8;have HOW:=ab hown;have NB:=ab r1;have I0:=ab r2;have Gf:=ab r3;have IO:=ab r4;have KG:=ab Jf;clear CN J8 hown hq r1 r2 r3 r4 Jf AX hG hn hlv E0 hN Mo;go_wp2
   go_loopw [5] (fun j wi=>∃ i:Nat,i<=N/\j=.int .i64 i/\(i=0\/lv≠(i:Int))/\Below wo.heap.size wo wi) (fun j _=>N - (intOf j).toNat)
   case atStart=>exact ⟨0,Nat.zero_le _,rfl,.inl rfl,Below.refl _ _⟩
   case round =>
    obtain ⟨i,hiN,rfl,Ki,IS⟩:=hrel;have Em:=zN.trans (IS.mono zN.size);have OS:=Em.size;have q0:¬ (cap=q):=by omega
    by_cases hlt2:i<N
    ·obtain ⟨a1,a2,a3,a4⟩:=NB.out i hlt2;have d1:decide ((q:Int)+i<xs.length)=true:=decide_eq_true (by omega);have d2:decide ((0:Int)<lv)=true:=decide_eq_true a3;have q1:¬ (cap<xs.length):=by omega
     have q3:¬ (cap<q+i+1):=by omega
     have q4:¬ (q+i+1<q):=by omega
     have q5:¬ ((q:Int)+(i:Int)+1<q):=by omega
     have q6:¬ ((cap:Int)<(q:Int)+i+1):=by omega
     have HA4:=ab a4;have OX:=ab a2;have Lp:=KG.out wr (HV.out.below Em) (by omega) (i+1) (by omega);have K8:=ab Lp;have Dn:=FB.out (i+1) (by omega);have EJ:=ab Dn;clear a4 a2 Lp Dn;have q7:¬ (cap<q+(i+1)):=by omega
     have q8:¬ (q+(i+1)<q):=by omega
     have q9:¬ ((q:Int)+((i:Int)+1)<q):=by omega
     have q10:¬ ((cap:Int)<(q:Int)+((i:Int)+1)):=by omega
     go_wp2_with fail
     rw [show q+i+1 - q=i+1 by omega];refine (fo _ (ys.take (i+1)) _ K8.out (by have:=EJ.out;omega) (by have:=EJ.out;omega) (Lj.out (i+1))).mono ?_;rintro e w1 ⟨rfl,b1⟩;rw [OX.out];have hb1:=Em.trans (b1.mono Em.size);have hb1i:=IS.trans (b1.mono IS.size);have hs1:=hb1.size;have KP:=ab (KG.out w1 (HV.out.below hb1) (by omega) (i+1) (by omega));clear K8 b1
     go_wp2_with fail
     refine (fo _ (ys.take (i+1)) _ KP.out (by have:=EJ.out;omega) (by have:=EJ.out;omega) (Lj.out (i+1))).mono ?_;rintro e w2 ⟨rfl,b2⟩;rw [OX.out];have hb2:=hb1.trans (b2.mono hb1.size);have hb2i:=hb1i.trans (b2.mono hb1i.size);have hs2:=hb2.size;clear KP b2 OX
     by_cases hwh:lv=(i:Int)+1
     ·have t1:(lv == (i:Int)+1)=true:=by simp [hwh]
      have hNi:=HA4.out hwh;subst hNi;obtain ⟨c1,c2,c3,c4⟩:=IO.out (by omega);obtain ⟨c5,c6,c7⟩:=c3 (by rw [hwh];rfl);subst c1;subst c5;obtain ⟨V,hV⟩:=ae (eT ys (i+1 - 1));rw [<-hV] at c6 F6;have HC6:=ab c6;have Om:=ab c7;clear hV;have Hd:=hb2;have Ho:=hb2i;rw [show ((i+1:Nat):Int)=(i:Int)+1 from rfl] at F6;have Bz:=aN HOW.out Ho;have Iw:u3.ownBlock≠some w2.heap.size:=fun e=>by have:=(Bz.lt _ e).2;omega
      have If:=Has.new w2 [Value.int .i32 65533,.int .i64 q,.int .i64 ((i:Int)+1),.int .i64 (q+1),.bool true] 155;have EL:=Hd.alloc Hd.size (.cells [Value.int .i32 65533,.int .i64 q,.int .i64 ((i:Int)+1),.int .i64 (q+1),.bool true].toArray 155);have Bv:=Bz.alloc (.cells [Value.int .i32 65533,.int .i64 q,.int .i64 ((i:Int)+1),.int .i64 (q+1),.bool true].toArray 155);obtain ⟨WA,Fu⟩:=ae (w2.alloc (.cells [Value.int .i32 65533,.int .i64 q,.int .i64 ((i:Int)+1),.int .i64 (q+1),.bool true].toArray 155));have LU:WA.heap.size=w2.heap.size+1:=by rw [Fu];simp
      rw [<-Fu] at If EL Bv;have E1:w2.alloc (.cells #[Value.int .i32 65533,.int .i64 q,.int .i64 ((i:Int)+1),.int .i64 (q+1),.bool true] 155)=WA:=Fu.symm;have Hl:=ab E1;have Jj:=ab (show max ((i:Int)+1:Int) 1=((i:Int)+1) by omega);have Jd:=ab If;have Gn:=ab Bv;clear Fu E1 If Bv Bz;have Kw:=ab (KG.out WA (HV.out.below EL) (by have:=EL.size;omega) (i+1) (by omega));have BT:=ab (FB.out (i+1) (by omega))
      go_wp2_with fail
      rw [Jj.out,Hl.out];refine (il (0,0,0) [] _ _ (ys.take (i+1)) _ Rel.none (Held.nil .u8 _) Kw.out (Lj.out (i+1)) (by have:=BT.out;omega)).mono ?_;rintro e w3 ⟨vt,vh,H',rfl,ht,hh,CM,b3,IV⟩;have JY:w2.heap.size<WA.heap.size:=by omega
      have hg3:=Jd.out.below b3 JY;have hb3:=EL.trans (b3.mono EL.size);have Eo:=aN Gn.out b3;have hs3:=b3.size;obtain ⟨ho,hcp2,rfl⟩:=hh.len;have Ce:=(jE CM).1;have g0:=hg3.free 0;have g1:=hg3.free 1;have g2:=hg3.free 2;have g3:=hg3.free 3;have g4:=hg3.free 4;have k0:=hg3.cell 0 _ rfl;have k1:=hg3.cell 1 _ rfl;have k2:=hg3.cell 2 _ rfl;have k3:=hg3.cell 3 _ rfl;have k4:=hg3.cell 4 _ rfl;have MV:=ab hg3;rw [Om.out] at Ce;have hH0:H'.length=0:=by omega
      rw [hH0];rw [HC6.out] at ht;obtain ⟨tz9,tc,rfl,MG⟩:=ht.view;obtain ⟨bt,offt,rfl,hbt,Jf⟩:=MG 0 (by simp);have hct1:w3.cell? ⟨bt,offt+0,none⟩=some (.int .i32 V):=Jf;have hne:bt≠w2.heap.size:=by have:=IV _ _ _ rfl;simp at this;omega
      have hne2:w2.heap.size≠bt:=fun e=>hne e.symm
      rw [Nat.add_zero] at hct1;clear ht hh CM b3 IV MG Jf Ce hg3 hH0 c3 HA4 IO Gf I0 NB;have D7:(((((((w3.setCell ⟨w2.heap.size,3,none⟩ (.int .i64 (min ((q:Int)+((i:Int)+1)+1) xs.length))).setCell ⟨w2.heap.size,0,none⟩ (.int .i32 V)).setCell ⟨w2.heap.size,1,none⟩ (.int .i64 q)).setCell ⟨w2.heap.size,2,none⟩ (.int .i64 ((i:Int)+1))).setCell ⟨w2.heap.size,3,none⟩ (.int .i64 ((q:Int)+((i:Int)+1)))).setCell ⟨w2.heap.size,4,none⟩ (.bool false))).heap.size=w3.heap.size:=by first | (simp;done) | exact LU
      have hS:=(Has.set (Has.set (Has.set (Has.set (Has.set (Has.set MV.out 3 (.int .i64 (min ((q:Int)+((i:Int)+1)+1) xs.length))) 0 (.int .i32 V)) 1 (.int .i64 q)) 2 (.int .i64 ((i:Int)+1))) 3 (.int .i64 ((q:Int)+((i:Int)+1)))) 4 (.bool false));have JR:Below w.heap.size w (((((((w3.setCell ⟨w2.heap.size,3,none⟩ (.int .i64 (min ((q:Int)+((i:Int)+1)+1) xs.length))).setCell ⟨w2.heap.size,0,none⟩ (.int .i32 V)).setCell ⟨w2.heap.size,1,none⟩ (.int .i64 q)).setCell ⟨w2.heap.size,2,none⟩ (.int .i64 ((i:Int)+1))).setCell ⟨w2.heap.size,3,none⟩ (.int .i64 ((q:Int)+((i:Int)+1)))).setCell ⟨w2.heap.size,4,none⟩ (.bool false))):=hb3.trans ((But.set (But.set (But.set (But.set (But.set (But.set (But.refl w2.heap.size w3.heap.size w3) 3 _) 0 _) 1 _) 2 _) 3 _) 4 _).below hb3.size (by have:=Hd.size;omega));have JO:(((((((w3.setCell ⟨w2.heap.size,3,none⟩ (.int .i64 (min ((q:Int)+((i:Int)+1)+1) xs.length))).setCell ⟨w2.heap.size,0,none⟩ (.int .i32 V)).setCell ⟨w2.heap.size,1,none⟩ (.int .i64 q)).setCell ⟨w2.heap.size,2,none⟩ (.int .i64 ((i:Int)+1))).setCell ⟨w2.heap.size,3,none⟩ (.int .i64 ((q:Int)+((i:Int)+1)))).setCell ⟨w2.heap.size,4,none⟩ (.bool false))).ownsRow w.heap.size 155 5 u3 k (aP (bK xs k)):=lW Eo (But.set (But.set (But.set (But.set (But.set (But.set (But.refl w2.heap.size w3.heap.size w3) 3 _) 0 _) 1 _) 2 _) 3 _) 4 _) Iw;have EV:=ab D7;have Ex:=ab hS;have FS:=ab JR;have JB:=ab JO;clear D7 hS JR JO
      go_wp2_with (at_builtin;refine cX (((((((w3.setCell ⟨w2.heap.size,3,none⟩ (.int .i64 (min ((q:Int)+((i:Int)+1)+1) xs.length))).setCell ⟨w2.heap.size,0,none⟩ (.int .i32 V)).setCell ⟨w2.heap.size,1,none⟩ (.int .i64 q)).setCell ⟨w2.heap.size,2,none⟩ (.int .i64 ((i:Int)+1))).setCell ⟨w2.heap.size,3,none⟩ (.int .i64 ((q:Int)+((i:Int)+1)))).setCell ⟨w2.heap.size,4,none⟩ (.bool false))) rfl (.tmp 79) (.tmp 81) 152 rfl w.heap.size 155 (.agg #[.int .i32 0,.int .i64 0,.int .i64 0,.int .i64 0,.bool false]) 5 40 Tryz.underlying152 im rfl (by decide) u3 k (aP (bK xs k)) rfl JB.out [Value.int .i32 V,.int .i64 q,.int .i64 ((i:Int)+1),.int .i64 ((q:Int)+((i:Int)+1)),.bool false] 1 1 (w3.heap.size) EV.out rfl rfl (by intro u hu;simp at hu;rcases hu with rfl | rfl | rfl | rfl | rfl <;> rfl) (by omega) (by omega) FS.out.size ?_)
      intro v' w' hown' hb' IH;have hg2:=(IH w2.heap.size (by first | omega | (rw [EV.out];omega)) Iw).trans Ex.out;have c2:=Has.cell hg2 2 _ rfl;have BX:w'.ownsRow w.heap.size 155 5 v' (k+1) (aP (bK xs (k+1))):=by rw [F6.out];exact hown'
      have hb3:=FS.out.trans hb';clear hown' hb' IH hg2 Iw F6 EV Ex FS JB;go_wp2
      go_roundw
      case rel=>exact ⟨k+1,q+(i+1),N4.out,by omega,by omega,by go_num,BX,hb3⟩
      case measure=>simp [intOf] <;> omega
     ·have t1:(lv == (i:Int)+1)=false:=by simp [hwh]
      go_wp2
      go_roundw
      case rel=>exact ⟨i+1,by omega,by go_num,.inr hwh,hb2i⟩
      case measure=>simp [intOf] <;> omega
    ·obtain rfl:i=N:=by omega
     have Hd:=Em;have Ho:=IS;have q1:¬ (cap<xs.length):=by omega
     by_cases hN0:i=0
     ·subst hN0;obtain ⟨c1,c2⟩:=Gf.out rfl;subst c1;subst c2;have d1:decide ((q:Int)+(0:Nat)<xs.length)=true:=decide_eq_true (by omega);have q3:¬ (cap<q+0+1):=by omega
      have q4:¬ (q+0+1<q):=by omega
      have q5:¬ ((q:Int)+1<q):=by omega
      have q6:¬ ((cap:Int)<(q:Int)+1):=by omega
      have KO:=ab (show eE (ys.take 1)=0 from I0.out hlt (.inl rfl));have K8:=ab (KG.out wr (HV.out.below Em) (by omega) 1 (by omega));have EJ:=ab (FB.out 1 (by omega));clear I0 NB IO Gf
      go_wp2_with fail
      refine (fo _ (ys.take 1) _ K8.out (by have:=EJ.out;omega) (by have:=EJ.out;omega) (Lj.out 1)).mono ?_;rintro e w1 ⟨rfl,b1⟩;rw [KO.out];have Hd:=Em.trans (b1.mono Em.size);have Ho:=IS.trans (b1.mono IS.size);clear K8 b1 KO;have Bz:=aN HOW.out Ho;have Iw:u3.ownBlock≠some w1.heap.size:=fun e=>by have:=(Bz.lt _ e).2;omega
      have If:=Has.new w1 [Value.int .i32 65533,.int .i64 q,.int .i64 1,.int .i64 (q+1),.bool true] 155;have EL:=Hd.alloc Hd.size (.cells [Value.int .i32 65533,.int .i64 q,.int .i64 1,.int .i64 (q+1),.bool true].toArray 155);have Bv:=Bz.alloc (.cells [Value.int .i32 65533,.int .i64 q,.int .i64 1,.int .i64 (q+1),.bool true].toArray 155);obtain ⟨WA,Fu⟩:=ae (w1.alloc (.cells [Value.int .i32 65533,.int .i64 q,.int .i64 1,.int .i64 (q+1),.bool true].toArray 155));have LU:WA.heap.size=w1.heap.size+1:=by rw [Fu];simp
      rw [<-Fu] at If EL Bv;have E1:w1.alloc (.cells #[Value.int .i32 65533,.int .i64 q,.int .i64 1,.int .i64 (q+1),.bool true] 155)=WA:=Fu.symm;have Hl:=ab E1;have Jj:=ab (show max (0:Int) 1=1 by omega);have Jd:=ab If;have Gn:=ab Bv;clear Fu E1 If Bv Bz;have hbX2:=Hd
      go_upto_region 14 with (fail)
      rw [Jj.out,Hl.out];have hnb2:=Iw;have k0:=Jd.out.cell 0 _ rfl;have k1:=Jd.out.cell 1 _ rfl;have k2:=Jd.out.cell 2 _ rfl;have k3:=Jd.out.cell 3 _ rfl;have k4:=Jd.out.cell 4 _ rfl;have D7:(WA).heap.size=w1.heap.size+1:=by first | (simp;done) | exact LU
      have hS:=Jd.out;have JR:Below w.heap.size w (WA):=EL;have JO:(WA).ownsRow w.heap.size 155 5 u3 k (aP (bK xs k)):=Gn.out;have EV:=ab D7;have Ex:=ab hS;have FS:=ab JR;have JB:=ab JO;clear D7 hS JR JO
      go_wp2_with (at_builtin;refine cX (WA) rfl (.tmp 79) (.tmp 81) 152 rfl w.heap.size 155 (.agg #[.int .i32 0,.int .i64 0,.int .i64 0,.int .i64 0,.bool false]) 5 40 Tryz.underlying152 im rfl (by decide) u3 k (aP (bK xs k)) rfl JB.out [Value.int .i32 65533,.int .i64 q,.int .i64 1,.int .i64 (q+1),.bool true] 1 1 (w1.heap.size+1) EV.out rfl rfl (by intro u hu;simp at hu;rcases hu with rfl | rfl | rfl | rfl | rfl <;> rfl) (by omega) (by omega) FS.out.size ?_)
      intro v' w' hown' hb' IH;have hg2:=(IH w1.heap.size (by first | omega | (rw [EV.out];omega)) Iw).trans Ex.out;have c2:=Has.cell hg2 2 _ rfl;have BX:w'.ownsRow w.heap.size 155 5 v' (k+1) (aP (bK xs (k+1))):=by rw [F6.out];exact hown'
      have hb3:=FS.out.trans hb';clear hown' hb' IH hg2 Iw F6 EV Ex FS JB;go_wp2
      go_roundw
      case rel=>exact ⟨k+1,q+1,N4.out,by omega,by omega,by go_num,BX,hb3⟩
      case measure=>simp [intOf] <;> omega
     ·have Ci:1<=i:=by omega
      obtain ⟨c1,c2,c3,c4⟩:=IO.out Ci;obtain ⟨c5,c7⟩:=c4 (by omega);subst c1;subst c5;have Om:=ab c7;clear c2 c3 c4
      by_cases hql2:q+n<xs.length
      ·have d1:decide ((q:Int)+n<xs.length)=true:=decide_eq_true (by omega);have q3:¬ (cap<q+n+1):=by omega
       have q4:¬ (q+n+1<q):=by omega
       have q5:¬ ((q:Int)+(n:Int)+1<q):=by omega
       have q6:¬ ((cap:Int)<(q:Int)+n+1):=by omega
       have KO:=ab (I0.out hql2 (.inr (by omega)));have K8:=ab (KG.out wr (HV.out.below Em) (by omega) (n+1) (by omega));have EJ:=ab (FB.out (n+1) (by omega));clear I0 NB IO Gf
       go_wp2_with fail
       rw [show q+n+1 - q=n+1 by omega];refine (fo _ (ys.take (n+1)) _ K8.out (by have:=EJ.out;omega) (by have:=EJ.out;omega) (Lj.out (n+1))).mono ?_;rintro e w1 ⟨rfl,b1⟩;rw [KO.out];have Hd:=Em.trans (b1.mono Em.size);have Ho:=IS.trans (b1.mono IS.size);clear K8 b1 KO;have Bz:=aN HOW.out Ho;have Iw:u3.ownBlock≠some w1.heap.size:=fun e=>by have:=(Bz.lt _ e).2;omega
       have If:=Has.new w1 [Value.int .i32 65533,.int .i64 q,.int .i64 n,.int .i64 (q+1),.bool true] 155;have EL:=Hd.alloc Hd.size (.cells [Value.int .i32 65533,.int .i64 q,.int .i64 n,.int .i64 (q+1),.bool true].toArray 155);have Bv:=Bz.alloc (.cells [Value.int .i32 65533,.int .i64 q,.int .i64 n,.int .i64 (q+1),.bool true].toArray 155);obtain ⟨WA,Fu⟩:=ae (w1.alloc (.cells [Value.int .i32 65533,.int .i64 q,.int .i64 n,.int .i64 (q+1),.bool true].toArray 155));have LU:WA.heap.size=w1.heap.size+1:=by rw [Fu];simp
       rw [<-Fu] at If EL Bv;have E1:w1.alloc (.cells #[Value.int .i32 65533,.int .i64 q,.int .i64 n,.int .i64 (q+1),.bool true] 155)=WA:=Fu.symm;have Hl:=ab E1;have Jj:=ab (show max (n:Int) 1=n by omega);have Jd:=ab If;have Gn:=ab Bv;clear Fu E1 If Bv Bz;have Kw:=ab (KG.out WA (HV.out.below EL) (by have:=EL.size;omega) (n) (by omega));have BT:=ab (FB.out (n) (by omega))
       go_wp2_with fail
       rw [Jj.out,Hl.out];refine (il (0,0,0) [] _ _ (ys.take (n)) _ Rel.none (Held.nil .u8 _) Kw.out (Lj.out (n)) (by have:=BT.out;omega)).mono ?_;rintro e w3 ⟨vt,vh,H',rfl,ht,hh,CM,b3,IV⟩;have JY:w1.heap.size<WA.heap.size:=by omega
       have hg3:=Jd.out.below b3 JY;have hb3:=EL.trans (b3.mono EL.size);have Eo:=aN Gn.out b3;have hs3:=b3.size;obtain ⟨ho,hcp2,rfl⟩:=hh.len;have Ce:=(jE CM).1;have g0:=hg3.free 0;have g1:=hg3.free 1;have g2:=hg3.free 2;have g3:=hg3.free 3;have g4:=hg3.free 4;have k0:=hg3.cell 0 _ rfl;have k1:=hg3.cell 1 _ rfl;have k2:=hg3.cell 2 _ rfl;have k3:=hg3.cell 3 _ rfl;have k4:=hg3.cell 4 _ rfl;have MV:=ab hg3;rw [Om.out] at Ce;have d9:((H'.length:Int) == 0)=false:=beq_eq_false_iff_ne.2 (by omega);clear ht hh CM b3 IV Ce hg3;have D7:((w3.setCell ⟨w1.heap.size,3,none⟩ (.int .i64 (min ((q:Int)+n+1) xs.length)))).heap.size=w3.heap.size:=by first | (simp;done) | exact LU
       have hS:=(Has.set MV.out 3 (.int .i64 (min ((q:Int)+n+1) xs.length)));have JR:Below w.heap.size w ((w3.setCell ⟨w1.heap.size,3,none⟩ (.int .i64 (min ((q:Int)+n+1) xs.length)))):=hb3.trans ((But.set (But.refl w1.heap.size w3.heap.size w3) 3 _).below hb3.size (by have:=Hd.size;omega));have JO:((w3.setCell ⟨w1.heap.size,3,none⟩ (.int .i64 (min ((q:Int)+n+1) xs.length)))).ownsRow w.heap.size 155 5 u3 k (aP (bK xs k)):=lW Eo (But.set (But.refl w1.heap.size w3.heap.size w3) 3 _) Iw;have EV:=ab D7;have Ex:=ab hS;have FS:=ab JR;have JB:=ab JO;clear D7 hS JR JO
       go_wp2_with (at_builtin;refine cX ((w3.setCell ⟨w1.heap.size,3,none⟩ (.int .i64 (min ((q:Int)+n+1) xs.length)))) rfl (.tmp 79) (.tmp 81) 152 rfl w.heap.size 155 (.agg #[.int .i32 0,.int .i64 0,.int .i64 0,.int .i64 0,.bool false]) 5 40 Tryz.underlying152 im rfl (by decide) u3 k (aP (bK xs k)) rfl JB.out [Value.int .i32 65533,.int .i64 q,.int .i64 n,.int .i64 (min ((q:Int)+n+1) xs.length),.bool true] 1 1 (w3.heap.size) EV.out rfl rfl (by intro u hu;simp at hu;rcases hu with rfl | rfl | rfl | rfl | rfl <;> rfl) (by omega) (by omega) FS.out.size ?_)
       intro v' w' hown' hb' IH;have hg2:=(IH w1.heap.size (by first | omega | (rw [EV.out];omega)) Iw).trans Ex.out;have c2:=Has.cell hg2 2 _ rfl;have BX:w'.ownsRow w.heap.size 155 5 v' (k+1) (aP (bK xs (k+1))):=by rw [F6.out];exact hown'
       have hb3:=FS.out.trans hb';clear hown' hb' IH hg2 Iw F6 EV Ex FS JB;go_wp2
       go_roundw
       case rel=>exact ⟨k+1,q+n,N4.out,by omega,by omega,by go_num,BX,hb3⟩
       case measure=>simp [intOf] <;> omega
      ·have d1:decide ((q:Int)+n<xs.length)=false:=decide_eq_false (by omega);clear I0 NB IO Gf;have Bz:=aN HOW.out Ho;have Iw:u3.ownBlock≠some wr.heap.size:=fun e=>by have:=(Bz.lt _ e).2;omega
       have If:=Has.new wr [Value.int .i32 65533,.int .i64 q,.int .i64 n,.int .i64 (q+1),.bool true] 155;have EL:=Hd.alloc Hd.size (.cells [Value.int .i32 65533,.int .i64 q,.int .i64 n,.int .i64 (q+1),.bool true].toArray 155);have Bv:=Bz.alloc (.cells [Value.int .i32 65533,.int .i64 q,.int .i64 n,.int .i64 (q+1),.bool true].toArray 155);obtain ⟨WA,Fu⟩:=ae (wr.alloc (.cells [Value.int .i32 65533,.int .i64 q,.int .i64 n,.int .i64 (q+1),.bool true].toArray 155));have LU:WA.heap.size=wr.heap.size+1:=by rw [Fu];simp
       rw [<-Fu] at If EL Bv;have E1:wr.alloc (.cells #[Value.int .i32 65533,.int .i64 q,.int .i64 n,.int .i64 (q+1),.bool true] 155)=WA:=Fu.symm;have Hl:=ab E1;have Jj:=ab (show max (n:Int) 1=n by omega);have Jd:=ab If;have Gn:=ab Bv;clear Fu E1 If Bv Bz;have Kw:=ab (KG.out WA (HV.out.below EL) (by have:=EL.size;omega) (n) (by omega));have BT:=ab (FB.out (n) (by omega))
       go_wp2_with fail
       rw [Jj.out,Hl.out];refine (il (0,0,0) [] _ _ (ys.take (n)) _ Rel.none (Held.nil .u8 _) Kw.out (Lj.out (n)) (by have:=BT.out;omega)).mono ?_;rintro e w3 ⟨vt,vh,H',rfl,ht,hh,CM,b3,IV⟩;have JY:wr.heap.size<WA.heap.size:=by omega
       have hg3:=Jd.out.below b3 JY;have hb3:=EL.trans (b3.mono EL.size);have Eo:=aN Gn.out b3;have hs3:=b3.size;obtain ⟨ho,hcp2,rfl⟩:=hh.len;have Ce:=(jE CM).1;have g0:=hg3.free 0;have g1:=hg3.free 1;have g2:=hg3.free 2;have g3:=hg3.free 3;have g4:=hg3.free 4;have k0:=hg3.cell 0 _ rfl;have k1:=hg3.cell 1 _ rfl;have k2:=hg3.cell 2 _ rfl;have k3:=hg3.cell 3 _ rfl;have k4:=hg3.cell 4 _ rfl;have MV:=ab hg3;rw [Om.out] at Ce;have d9:((H'.length:Int) == 0)=false:=beq_eq_false_iff_ne.2 (by omega);clear ht hh CM b3 IV Ce hg3;have D7:((w3.setCell ⟨wr.heap.size,3,none⟩ (.int .i64 (min ((q:Int)+n+1) xs.length)))).heap.size=w3.heap.size:=by first | (simp;done) | exact LU
       have hS:=(Has.set MV.out 3 (.int .i64 (min ((q:Int)+n+1) xs.length)));have JR:Below w.heap.size w ((w3.setCell ⟨wr.heap.size,3,none⟩ (.int .i64 (min ((q:Int)+n+1) xs.length)))):=hb3.trans ((But.set (But.refl wr.heap.size w3.heap.size w3) 3 _).below hb3.size (by have:=Hd.size;omega));have JO:((w3.setCell ⟨wr.heap.size,3,none⟩ (.int .i64 (min ((q:Int)+n+1) xs.length)))).ownsRow w.heap.size 155 5 u3 k (aP (bK xs k)):=lW Eo (But.set (But.refl wr.heap.size w3.heap.size w3) 3 _) Iw;have EV:=ab D7;have Ex:=ab hS;have FS:=ab JR;have JB:=ab JO;clear D7 hS JR JO
       go_wp2_with (at_builtin;refine cX ((w3.setCell ⟨wr.heap.size,3,none⟩ (.int .i64 (min ((q:Int)+n+1) xs.length)))) rfl (.tmp 79) (.tmp 81) 152 rfl w.heap.size 155 (.agg #[.int .i32 0,.int .i64 0,.int .i64 0,.int .i64 0,.bool false]) 5 40 Tryz.underlying152 im rfl (by decide) u3 k (aP (bK xs k)) rfl JB.out [Value.int .i32 65533,.int .i64 q,.int .i64 n,.int .i64 (min ((q:Int)+n+1) xs.length),.bool true] 1 1 (w3.heap.size) EV.out rfl rfl (by intro u hu;simp at hu;rcases hu with rfl | rfl | rfl | rfl | rfl <;> rfl) (by omega) (by omega) FS.out.size ?_)
       intro v' w' hown' hb' IH;have hg2:=(IH wr.heap.size (by first | omega | (rw [EV.out];omega)) Iw).trans Ex.out;have c2:=Has.cell hg2 2 _ rfl;have BX:w'.ownsRow w.heap.size 155 5 v' (k+1) (aP (bK xs (k+1))):=by rw [F6.out];exact hown'
       have hb3:=FS.out.trans hb';clear hown' hb' IH hg2 Iw F6 EV Ex FS JB;go_wp2
       go_roundw
       case rel=>exact ⟨k+1,q+n,N4.out,by omega,by omega,by go_num,BX,hb3⟩
       case measure=>simp [intOf] <;> omega
  ·have M6:q=xs.length:=by omega
   subst M6;go_wp2;go_ret;exact ⟨k,_,rfl,hq,hown,zN⟩
end Go.Proofs.YtoeggiplcaegoaaGreatDoor
