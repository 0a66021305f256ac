import Derived.Test.YthdphijabffpiaaDoorZ0
import Derived.Test.YthdphijabffpiaaDoorSchB
set_option maxRecDepth 100000
set_option linter.unusedVariables false
set_option linter.unusedSimpArgs false
set_option maxHeartbeats 3000000
namespace Go.Proofs.YthdphijabffpiaaDoor
open Go.RowKit Go.ChangeShapes Go.WideShapes
def hitE:Elem Ht:=prE (aF .i64) (prE (aF .i64) (aF .i64))
theorem hit_rep{Z:ak}{w:World}{C:List Value}{x:Ht}:hitE.rep Z w C x↔C=[.int .i64 x.1,.int .i64 x.2.1,.int .i64 x.2.2]:=by
 constructor
 ·rintro ⟨C1,C2,rfl,rfl,C3,C4,rfl,rfl,rfl⟩
  rfl
 ·rintro rfl;exact ⟨[.int .i64 x.1],[.int .i64 x.2.1,.int .i64 x.2.2],rfl,rfl,[.int .i64 x.2.1],[.int .i64 x.2.2],rfl,rfl,rfl⟩
theorem fR:(Tryd.prog.info? 80).map (fun i=>(i.zero,i.size,i.bytes))=some (some (.agg #[.int .i64 0,.int .i64 0,.int .i64 0]),hitE.size,24):=by kernel_rfl
def cr(v:Vw)(x:List Int):List Ht:=if x=[]\/aM v=false then [] else bw x (aJ v.L) (aJ v.L).length
theorem c8(x:List Int)(R:List (List Pc))(k:Nat)(h:k<R.length):bw x R (k+1)=bw x R k++bn x (R.getD k []) (R.getD k []).length:=by
 unfold bw;rw [List.take_succ_eq_append_getElem h,List.flatMap_append];have:R.getD k []=R[k]:=by simp [List.getD,List.getElem?_eq_getElem h]
 rw [this]
 simp
theorem cF(x:List Int)(R:List (List Pc))(M:Nat)(hM:∀ P ∈ R,P.length<=M):∀ k,k<=R.length->(bw x R k).length<=k * M
 |0,_=>by simp [bw]
 |k+1,h=>by
  rw [c8 x R k h,List.length_append];have h1:=cF x R M hM k (by omega);have h2:=cK x (R.getD k []) (R.getD k []).length;have h3:(R.getD k []).length<=M:=hM _ (by
   rw [List.getD_eq_getElem?_getD,List.getElem?_eq_getElem (show k<R.length by omega)];exact List.getElem_mem _)
  rw [Nat.succ_mul];omega
theorem cG(Ls:List Ln)(hr:∀ i,(bi Ls i).length<=1024):∀ (k n:Nat) (p:List Pc),(aW Ls k n p).length<=k+1/\∀ P ∈ aW Ls k n p,P.length<=p.length+1024 * k
 |0,n,p=>⟨Nat.le_refl _,fun P hP=>by
  have:P=p:=by simpa [aW] using hP
  rw [this];omega⟩
 |k+1,n,p=>by
  have h1:=hr n;show (if (Ls.getD n zl).2=true then aW Ls k (n+1) (p++bi Ls n) else (p++bi Ls n) :: aW Ls k (n+1) []).length<=k+1+1/\∀ P ∈ (if (Ls.getD n zl).2=true then aW Ls k (n+1) (p++bi Ls n) else (p++bi Ls n) :: aW Ls k (n+1) []),P.length<=p.length+1024 * (k+1)
  split
  ·obtain ⟨a,b⟩:=cG Ls hr k (n+1) (p++bi Ls n);refine ⟨by omega,fun P hP=>?_⟩;have:=b P hP;rw [List.length_append] at this;omega
  ·obtain ⟨a,b⟩:=cG Ls hr k (n+1) [];refine ⟨by rw [List.length_cons];omega,fun P hP=>?_⟩
   rcases List.mem_cons.1 hP with rfl | hP
   ·rw [List.length_append];omega
   ·have:=b P hP;simp only [List.length_nil] at this;omega
theorem da{v:Vw}{W H:Nat}(hn:NatV v W H):(aJ v.L).length<=1025/\∀ P ∈ aJ v.L,P.length<=1048576:=by
 have hr:∀ i,(bi v.L i).length<=1024:=fun i=>by
  unfold bi;have h1:=dz i (aO (v.L.getD i zl)) 0;have h2:=(fx (v.L.getD i zl)).1
  by_cases hi:i<H
  ·have:=(hn.row i hi).1;have:=hn.w2;omega
  ·have:v.L.getD i zl=zl:=by rw [List.getD_eq_getElem?_getD,List.getElem?_eq_none (by rw [hn.len];omega)];rfl
   rw [this] at h1 h2 ⊢;have:zl.1.length=0:=rfl;omega
 have h:=cG v.L hr v.L.length 0 [];unfold aJ;rw [hn.len] at h ⊢;have:=hn.h2;refine ⟨by omega,fun P hP=>?_⟩;have:=h.2 P hP;simp only [List.length_nil] at this;omega
theorem db(sa:Nat->Addr)(Y:ak)(v:Vw)(lv tv:Value)(x:List Int)(w:World)(hs:Five w sa)(hv:ViewAt w v lv)(ht:HeldE (aF .i32) Y w tv x):Calls Tryd.prog 43 #[aN v lv,tv] w (gH hitE (fun _=>True) 80 w (cr v x)):=by
 have hl0:=hv.1.max;have jT:=aa (fun (w':World) (b:Below w.heap.size w w')=>et sa v lv w' (hs.below b) (hv.below b));have ld:=aa (fun (W H:Nat) (hn:NatV v W H) (w':World) (b:Below w.heap.size w w')=>dR v lv W H hn w' (hv.below b));have nL:=aa (fun (P:List Pc) (u:Value) (w':World) (b:Below w.heap.size w w') (h:HeldE pieceE (fun _=>True) w' u P)=>ff (fun _=>True) Y u tv P x w' h (ht.below b));have nN:=ht.max;obtain ⟨xo,xc,rfl⟩:=ht.len;obtain ⟨vv,iI⟩:=ab (v);have lM:=aa (show aM v=aM vv from by rw [iI]);rw [lM.out] at jT;have m5:=aa (show ∀ W H,NatV vv W H->NatV v W H from by rw [iI];exact fun _ _ h=>h);have mC:=aa (show v.L=vv.L from by rw [iI]);rw [mC.out] at ld;rw [<-iI];obtain ⟨vw,vh,Ls,r,c,pd,au⟩:=v;rw [iI];rw [show ∀ z,aN ⟨vw,vh,Ls,r,c,pd,au⟩ z=.agg #[.int .i64 vw,.int .i64 vh,z,.int .i64 r,.int .i64 c,.bool pd,.bool au] from fun _=>rfl] at jT ld ⊢;rw [<-iI];obtain ⟨Wa,gP⟩:=ab (w.alloc (.cells ([.int .i64 vw,.int .i64 vh,lv,.int .i64 r,.int .i64 c,.bool pd,.bool au]:List Value).toArray 26));have ba:Below w.heap.size w Wa:=by rw [gP];exact af _ _
 have ga:Has Wa w.heap.size [.int .i64 vw,.int .i64 vh,lv,.int .i64 r,.int .i64 c,.bool pd,.bool au] 26:=by rw [gP];exact Has.new w _ _
 have iY:=aa (show w.alloc (.cells #[.int .i64 vw,.int .i64 vh,lv,.int .i64 r,.int .i64 c,.bool pd,.bool au] 26)=Wa from by rw [gP]);have iM:=aa ga;have HB:=aa ba;have q0:=ga.cell 0 _ rfl;have q1:=ga.cell 1 _ rfl;have q2:=ga.cell 2 _ rfl;have q3:=ga.cell 3 _ rfl;have q4:=ga.cell 4 _ rfl;have q5:=ga.cell 5 _ rfl;have q6:=ga.cell 6 _ rfl;clear gP ba ga iI hs hv ht
 by_cases hx:x=[]
 ·have HE:=aa (show cr vv x=[] from if_pos (.inl hx));have hx0:x.length=0:=by rw [hx];rfl
  have hz:((x.length:Int) == 0)=true:=by rw [beq_iff_eq];omega
  clear hx
  go_enter Tryd.func43,Tryd.ntmps43
  go_upto_region 1 with (fail)
  rw [iY.out];go_wp2;go_ret;exact ⟨_,rfl,by rw [HE.out];exact OwnE.nil _ _ _ _ _,HB.out⟩
 have hx1:x.length≠0:=fun e=>hx (List.eq_nil_of_length_eq_zero e)
 have hz:((x.length:Int) == 0)=false:=by rw [beq_eq_false_iff_ne];omega
 have hz2:(x.length == 0)=false:=by rw [beq_eq_false_iff_ne];exact hx1
 have hz3:decide (x.length=0)=false:=decide_eq_false hx1;have lP:=aa hx;clear hx hx1
 cases hR:aM vv with
 |false =>
  have HE:=aa (show cr vv x=[] from if_pos (.inr hR));rw [hR] at jT;clear hR
  go_enter Tryd.func43,Tryd.ntmps43
  go_upto_region 1 with (fail)
  rw [iY.out]
  go_wp2_with fail
  refine (jT.out _ HB.out).mono ?_;rintro e w1 ⟨rfl,b1⟩;have HF:=aa (HB.out.trans (b1.mono HB.out.size));clear b1;go_wp2;go_ret;exact ⟨_,rfl,by rw [HE.out];exact OwnE.nil _ _ _ _ _,HF.out⟩
 |true =>
  obtain ⟨W,H,hn⟩:=dB hR;have hsm:=da hn;have HE:=aa (show cr vv x=bw x (aJ vv.L) (aJ vv.L).length from if_neg (by rw [hR];rintro (h | h);exact lP.out h;exact absurd h (by decide)));have kM:=aa (ld.out W H (m5.out W H hn));rw [hR] at jT;obtain ⟨R,hRe⟩:=ab (aJ vv.L);rw [<-hRe] at kM HE hsm;have kC:=aa hsm;have HLN:=aa (fun k (hk:k<=R.length)=>cF x R 1048576 hsm.2 k hk);clear hR hn hsm hRe m5 mC ld lM
  go_enter Tryd.func43,Tryd.ntmps43
  go_upto_region 1 with (fail)
  rw [iY.out]
  go_wp2_with fail
  refine (jT.out _ HB.out).mono ?_;rintro e w1 ⟨rfl,b1⟩;have ia:=aa (HB.out.trans (b1.mono HB.out.size));have kO:=aa (iM.out.below b1 iM.out.lt);clear b1 q0 q1 q2 q3 q4 q5 q6;have q0:=kO.out.cell 0 _ rfl;have q1:=kO.out.cell 1 _ rfl;have q2:=kO.out.cell 2 _ rfl;have q3:=kO.out.cell 3 _ rfl;have q4:=kO.out.cell 4 _ rfl;have q5:=kO.out.cell 5 _ rfl;have q6:=kO.out.cell 6 _ rfl
  go_wp2_with fail
  refine (kM.out _ ia.out).mono ?_;rintro e w2 ⟨rv,rfl,lK,b2⟩;have gU:=aa (ia.out.trans (b2.mono ia.out.size));obtain ⟨ro,rc,erv⟩:=lK.len;subst erv;obtain ⟨ln,jS,kY⟩:=lK.spots;have mO:=aa kY;have HR24:=aa kC.out.1;clear b2 q0 q1 q2 q3 q4 q5 q6 ln kY lK;obtain ⟨rn,ln⟩:=ab (R.length);have HRN:=aa ln;rw [<-ln] at jS ⊢;have hrn24:rn<=1025:=by rw [ln];exact HR24.out
  clear ln;go_wp2
  go_loopw [5,22] (fun hv kv wr=>∃ k:Nat,k<=rn/\kv=.int .i64 k/\OwnE hitE (fun _=>True) wr w2.heap.size 80 hv (bw x R k)/\Below w2.heap.size w2 wr) (fun _ kv _=>rn - (intOf kv).toNat)
  case atStart=>exact ⟨0,Nat.zero_le _,rfl,OwnE.nil _ _ _ _ _,Below.refl _ _⟩
  case round =>
   obtain ⟨k,hk,rfl,hown,hb⟩:=hrel;obtain ⟨wo,jy⟩:=ab (wr);subst jy;have HO:=aa hown;have ic:=aa hb;clear hown hb
   by_cases hkn:k<rn
   ·have d1:(k:Int)<(rn:Int):=by omega
    have mT:k<R.length:=by rw [<-HRN.out];exact hkn
    obtain ⟨rb,roff,e0,hrb,_,Cc,hC,hrp⟩:=mO.out k mT;subst e0;obtain ⟨pv,rfl,lN⟩:=hrp;have hsz1:longE.size=1:=rfl;have yw:w2.cell? ⟨rb,roff+k,none⟩=some pv:=by
     have h9:=hC 0 (by decide);rw [hsz1] at h9
     simpa using h9
    have y0:=(ic.out.cell (p:=⟨rb,roff+k,none⟩) hrb).trans yw;clear yw;have hz0:longE.zero=[]:=rfl;rw [hz0] at lN;have hPm:(R.getD k []).length<=1048576:=kC.out.2 _ (by
     rw [List.getD_eq_getElem?_getD,List.getElem?_eq_getElem mT];exact List.getElem_mem _)
    have mW:=aa (c8 x R k mT);have kf:=aa (HLN.out k (by omega));obtain ⟨P,hP⟩:=ab (R.getD k []);rw [<-hP] at lN hPm mW;obtain ⟨po,pc,epv⟩:=lN.len;subst epv;have nh:=aa lN;obtain ⟨_,hpc,hps⟩:=dN lN;have HPS:=aa hps;obtain ⟨pn,nn⟩:=ab (P.length);have lC:=aa nn;rw [<-nn] at y0 hPm hpc nh mW;obtain ⟨A,hA⟩:=ab (bw x R k);rw [<-hA] at HO kf mW;have iJ:k<rc:=by omega
    clear hrb hC lN hsz1 hz0 hps nn hA hP mT hkn;go_wp2
    go_loopw [5,28] (fun hv iv wr=>∃ i:Nat,i<=pn/\iv=.int .i64 i/\OwnE hitE (fun _=>True) wr w2.heap.size 80 hv (A++bn x P i)/\Below w2.heap.size w2 wr) (fun _ iv _=>pn - (intOf iv).toNat)
    case atStart=>exact ⟨0,Nat.zero_le _,rfl,by rw [show bn x P 0=[] from rfl,List.append_nil];exact HO.out,ic.out⟩
    case round =>
     obtain ⟨i,hi,rfl,hown,hb⟩:=hrel;obtain ⟨ws,lH⟩:=ab (wr);subst lH;have HO2:=aa hown;have lq:=aa hb;clear hown hb y0
     by_cases hO:i<pn
     ·have d2:(i:Int)<(pn:Int):=by omega
      obtain ⟨pb,poff,xv,e1,mH,_,c0,c1,c2,hh⟩:=HPS.out i (by rw [<-lC.out];exact hO);subst e1;obtain ⟨⟨a,b,T⟩,hab⟩ : ∃ y,y=P.getD i zpc:=⟨_,rfl⟩;rw [<-hab] at c0 c1 hh;simp only at c0 c1 hh;obtain ⟨tx,tc,exv⟩:=hh.len;subst exv;have c0:=(lq.out.cell (p:=⟨pb,poff+i * 3,none⟩) mH).trans c0;have c1:=(lq.out.cell (p:=⟨pb,poff+i * 3+1,none⟩) mH).trans c1;have c2:=(lq.out.cell (p:=⟨pb,poff+i * 3+2,none⟩) mH).trans c2;obtain ⟨W1,hW1⟩:=ab (ws.alloc (.cells [Value.int .i64 a,.int .i64 b,.slice tx T.length tc].toArray 120));have hb1:Below ws.heap.size ws W1:=by rw [hW1];exact af _ _
      have iZ:Has W1 ws.heap.size [.int .i64 a,.int .i64 b,.slice tx T.length tc] 120:=by rw [hW1];exact Has.new ws _ _
      have jc:=aa (show ws.alloc (.cells #[Value.int .i64 a,.int .i64 b,.slice tx T.length tc] 120)=W1 from by rw [hW1]);obtain ⟨gp,kX⟩:=ab (ws.heap.size);rw [<-kX] at iZ;have nQ:=aa kX;have jj:=aa iZ;have i2:=aa (lq.out.trans (hb1.mono lq.out.size));have HO3:=aa (HO2.out.below hb1);have hp:=(nh.out.below i2.out).part i pn (by omega) (by rw [lC.out];exact Nat.le_refl _) (some ⟨pb,poff+i * 3,none⟩) (pc - i) (fun e=>by cases e) (fun b off e hlt=>by cases e;rfl) (fun _ _=>by simp) (by omega) (by have:=(nh.out).max;obtain ⟨_,c9,e9,h9,h8,_⟩:=nh.out;cases e9;omega);rw [List.take_of_length_le (by rw [List.length_drop,lC.out];exact Nat.le_refl _)] at hp;have HPD:=aa (nL.out (P.drop i) _ W1 (gU.out.trans (i2.out.mono gU.out.size)) hp);have HKS:=aa (dd x P i);have jW:=aa (show hAt x (P.drop i)=if 0<aI (P.drop i) x then ([(a,b,((aI (P.drop i) x:Nat):Int))]:List Ht) else [] from by
       rw [List.drop_eq_getElem_cons (show i<P.length by rw [<-lC.out];exact hO)];have:P[i]'(by rw [<-lC.out];exact hO)=(a,b,T):=by rw [hab];simp [List.getD,List.getElem?_eq_getElem (show i<P.length by rw [<-lC.out];exact hO)]
       rw [this]
       rfl)
      have HKL:=aa (cK x P i);obtain ⟨cn,g6⟩:=ab (aI (P.drop i) x);rw [<-g6] at HPD jW;have hic:i<pc:=by omega
      have hile:i<=pn:=hi;clear hab hh mH hW1 hb1 iZ kX hp g6
      go_upto_region 10 with (fail)
      rw [jc.out,<-nQ.out];clear c0 c1 c2
      go_wp2_with fail
      refine (HPD.out).mono ?_;rintro e w4 ⟨rfl,b4⟩;have j2:=aa (i2.out.trans (b4.mono i2.out.size));have mK:=aa (HO3.out.below b4);have z0:=(jj.out.below b4 jj.out.lt).cell 0 _ rfl;have z1:=(jj.out.below b4 jj.out.lt).cell 1 _ rfl;clear b4
      by_cases hc0:0<cn
      ·have e1:(0:Int)<(cn:Int):=by omega
       have hat:=jW.out;rw [if_pos hc0] at hat;have lg:=aa (show A++bn x P (i+1)=(A++bn x P i)++[(a,b,(cn:Int))] from by rw [HKS.out,hat,List.append_assoc]);obtain ⟨P0,nW⟩:=ab (A++bn x P i);have mz:=aa (show P0.length<=2000000000 from by rw [nW,List.length_append];have:=kf.out;have:=HKL.out;omega);rw [<-nW] at mK lg;have HX:=aa (bL (E:=hitE) (w:=w4) (ty:=80) (Y:=fun _=>False) (Z:=fun b=>True/\u5.ownBlock≠some b) [.int .i64 a,.int .i64 b,.int .i64 (cn:Int)] (a,b,(cn:Int)) (hit_rep.2 rfl) (fun _ _ h=>h.elim) ⟨trivial,fun e=>by have:=(mK.out.lt _ e).2;omega⟩);have gQ:Below w4.heap.size w4 (w4.alloc (.cells [Value.int .i64 a,.int .i64 b,.int .i64 (cn:Int)].toArray 80)):=af _ _;have HO5:=aa (mK.out.below gQ);have hY:=aa (j2.out.trans (gQ.mono j2.out.size));have kU:=aa hY.out.size;clear hat nW gQ hc0
       go_wp2_with (at_builtin;refine aL (E:=hitE) (Z:=fun _=>True) rfl (.tmp 40) (.tmp 47) 77 rfl (.agg #[.int .i64 0,.int .i64 0,.int .i64 0]) 24 Tryd.underlying77 fR rfl (by decide) rfl rfl HO5.out HX.out (by have:=mz.out;simp;omega) (by have:=mz.out;simp;omega) kU.out ?_)
       intro v2 w6 iq ja _ _;rw [<-lg.out] at iq;have HF:=aa (And.intro iq (hY.out.trans ja));clear iq ja z0 z1;go_wp2
       go_roundw
       case rel=>exact ⟨i+1,by omega,by go_num,HF.out⟩
       case measure=>simp [intOf] <;> omega
      ·have hcz:cn=0:=by omega
       have hat:=jW.out;rw [if_neg hc0] at hat;have lg:=aa (show A++bn x P (i+1)=A++bn x P i from by rw [HKS.out,hat,List.append_nil]);have e1:¬ (0:Int)<(cn:Int):=by omega
       clear hcz hat hc0;go_wp2
       go_roundw
       case rel=>exact ⟨i+1,by omega,by go_num,by rw [lg.out];exact mK.out,j2.out⟩
       case measure=>simp [intOf] <;> omega
     ·obtain rfl:i=pn:=by omega
      have d2:¬ (i:Int)<(i:Int):=by omega
      have lg:=aa mW.out.symm;go_wp2
      go_roundw
      case rel=>exact ⟨k+1,by omega,by go_num,by rw [<-lg.out];exact HO2.out,lq.out⟩
      case measure=>simp [intOf] <;> omega
   ·obtain rfl:k=rn:=by omega
    have d1:¬ (k:Int)<(k:Int):=by omega
    have HF:=aa (And.intro (HO.out.base (B':=w.heap.size) gU.out.size) (gU.out.trans (ic.out.mono gU.out.size)));have nj:=aa (show bw x R k=cr vv x from by rw [HE.out,HRN.out]);clear hkn;go_wp2;go_ret;exact ⟨_,rfl,by rw [<-nj.out];exact HF.out.1,HF.out.2⟩
end Go.Proofs.YthdphijabffpiaaDoor
