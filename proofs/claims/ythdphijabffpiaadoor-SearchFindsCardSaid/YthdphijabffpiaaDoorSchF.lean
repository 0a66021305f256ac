import Derived.Test.YthdphijabffpiaaDoorZ0
import Derived.Test.YthdphijabffpiaaDoorSchE
set_option maxRecDepth 100000
set_option linter.unusedVariables false
set_option linter.unusedSimpArgs false
set_option maxHeartbeats 2000000
namespace Go.Proofs.YthdphijabffpiaaDoor
open Go.RowKit Go.ChangeShapes Go.WideShapes
theorem fM(v:Vw)(lv:Value)(W H:Nat)(hn:NatV v W H)(i j:Nat)(hs:aV v.L W H i j)(w:World)(hv:ViewAt w v lv):Calls Tryd.prog 78 #[aN v lv,.int .i64 (i:Int),.int .i64 (j:Int)] w (Gives w (.tuple #[.int .i64 ((ap v.L W H i j).1:Nat),.int .i64 ((ap v.L W H i j).2.1:Nat),.bool (ap v.L W H i j).2.2])):=by
 have l8:=hn.w1;have hw2:=hn.w2;have ko:=hn.h2;have lR:=aa (fun (q:Nat) (hq:q<=H) (w':World) (b:Below w.heap.size w w')=>fN v lv W H hn q hq w' (hv.below b));have iJ:=bh hn hs.2.1 hs.2.2;have iL:=aa hn.len;have iT:=aa (fun i (hi:i<H)=>(hn.row i hi).1);obtain ⟨vw,vh,Ls,r,c,pd,au⟩:=v;obtain ⟨kt,hi,hj⟩:=hs;obtain ⟨lo,lc,elv⟩:=hv.1.len;rw [hn.len] at elv;subst elv;have im:=aH hv.1;simp only at im iL iT lR iJ kt ⊢;have hlc:=im.2.1;have ik:=aa im.2.2;rw [show ∀ z,aN ⟨vw,vh,Ls,r,c,pd,au⟩ z=.agg #[.int .i64 vw,.int .i64 vh,z,.int .i64 r,.int .i64 c,.bool pd,.bool au] from fun _=>rfl] at lR ⊢;obtain ⟨lb,off,cv,e0,iw,_,l0,l1,hcv⟩:=ik.out i (by rw [iL.out];exact hi);subst e0;have it:=iT.out i hi;obtain ⟨g,hg⟩:=ab ((Ls.getD i zl).2);rw [<-hg] at l1;obtain ⟨co,cc,ecv⟩:=hcv.len;rw [it] at ecv;subst ecv;obtain ⟨g6,hcc,iA⟩:=aX hcv;clear g6;obtain ⟨cb,coff,tv1,rfl,hcb,_,x0,_,_⟩:=iA j (by omega);have iA:∀ q,q<W->w.cell? ⟨cb,coff+q * 2,none⟩=some (.int .i64 (aq Ls i q)):=fun q hq=>by
  obtain ⟨b2,o2,t2,e2,_,_,y0,_,_⟩:=iA q (by omega)
  cases e2
  exact y0
 obtain ⟨K,hK⟩:=ab (aq Ls i j);rw [show ((Ls.getD i zl).1.getD j zc).1=K from hK.symm] at x0;rw [<-hK] at iJ kt;obtain ⟨m,hm⟩ : ∃ m:Nat,m=j+(aq Ls i j).toNat:=⟨_,rfl⟩;have hmK:(m:Int)=(j:Int)+K:=by rw [hm,<-hK];omega
 have hmW:m<=W:=by
  rcases iJ with ⟨e,_⟩ | ⟨e,_⟩ | ⟨e,_,h,_⟩ | ⟨e,_⟩ <;> omega
 obtain ⟨m1,lf⟩:=ab (W - 1);obtain ⟨st,hst⟩:=ab (cu Ls i j W);obtain ⟨q3,kp⟩:=ab ((decide (m=m1) && g && decide (aq Ls i m=0)));have kA:st=if q3=true then m+1 else m:=by
  rw [hst];unfold cu;simp only [<-hm,<-lf];have e:(m=m1/\aP Ls i=true/\aq Ls i m=0)↔q3=true:=by
   rw [kp];simp only [Bool.and_eq_true,decide_eq_true_eq,and_assoc];unfold aP;rw [hg]
  by_cases h:q3=true
  ·rw [if_pos h,if_pos (e.2 h)]
  ·rw [if_neg h,if_neg (fun h9=>h (e.1 h9))]
 have hstW:st<=W:=by
  rw [kA]
  split
  ·next h =>
   rw [kp] at h;simp only [Bool.and_eq_true,decide_eq_true_eq] at h;omega
  ·exact hmW
 have hN1:W<=st->aP Ls i=false->ap Ls W H i j=(0,0,false):=fun h1 h2=>by unfold ap;rw [<-hst,if_pos h1,if_pos (.inl h2)]
 have hN2:W<=st->H<=i+1->ap Ls W H i j=(0,0,false):=fun h1 h2=>by unfold ap;rw [<-hst,if_pos h1,if_pos (.inr h2)]
 have hN3:W<=st->aP Ls i=true->¬ H<=i+1->W=1/\aP Ls (i+1)=true/\aq Ls (i+1) 0=0->ap Ls W H i j=(an Ls H H (i+1),0,decide (an Ls H H (i+1)<H) && (aq Ls (an Ls H H (i+1)) 0 != 0)):=fun h1 h2 h3 h4=>by unfold ap;rw [<-hst,if_pos h1,if_neg (by rintro (h | h);rw [h2] at h;exact absurd h (by decide);exact h3 h),if_pos h4]
 have hN4:W<=st->aP Ls i=true->¬ H<=i+1->¬ (W=1/\aP Ls (i+1)=true/\aq Ls (i+1) 0=0)->ap Ls W H i j=(i+1,0,aq Ls (i+1) 0 != 0):=fun h1 h2 h3 h4=>by unfold ap;rw [<-hst,if_pos h1,if_neg (by rintro (h | h);rw [h2] at h;exact absurd h (by decide);exact h3 h),if_neg h4]
 have hN5:¬ W<=st->ap Ls W H i j=(i,st,aq Ls i st != 0):=fun h1=>by unfold ap;rw [<-hst,if_neg h1]
 have lS:=aa hN1;have HN2:=aa hN2;have HN3:=aa hN3;have HN4:=aa hN4;have HN5:=aa hN5;have nO:=aa kp;have lu:=aa kA;have HG:=aa (show aP Ls i=g from hg.symm);have mt:=aa iA;have hwj:IntKind.i64.wrap ((j:Int)+K)=(m:Int):=by rw [IntKind.wrap_i64];omega
 have ku:IntKind.i64.wrap ((W:Int) - 1)=(m1:Int):=by rw [IntKind.wrap_i64];omega
 have hM1:=aa lf;obtain ⟨Wa,gP⟩:=ab (w.alloc (.cells ([.int .i64 vw,.int .i64 vh,.slice (some ⟨lb,off,none⟩) H lc,.int .i64 r,.int .i64 c,.bool pd,.bool au]:List Value).toArray 26));obtain ⟨Wb,il⟩:=ab (Wa.alloc (.cells [Value.slice (some ⟨cb,coff,none⟩) W cc,.bool g].toArray 30));have ba:Below w.heap.size w Wa:=by rw [gP];exact af _ _
 have bb:Below Wa.heap.size Wa Wb:=by rw [il];exact af _ _
 have sa':Wa.heap.size=w.heap.size+1:=by rw [gP];exact Array.size_push _
 have gva0:Has Wa w.heap.size [.int .i64 vw,.int .i64 vh,.slice (some ⟨lb,off,none⟩) H lc,.int .i64 r,.int .i64 c,.bool pd,.bool au] 26:=by rw [gP];exact Has.new w _ _
 have gla:Has Wb Wa.heap.size [.slice (some ⟨cb,coff,none⟩) W cc,.bool g] 30:=by rw [il];exact Has.new Wa _ _
 have gva:=Has.below gva0 bb gva0.lt;have HB:=aa (ba.trans (bb.mono ba.size));rw [sa'] at gla;obtain ⟨g9,nD⟩:=ab (w.heap.size+1);rw [<-nD] at gla;have HG9:=aa nD;have iY:=aa (show w.alloc (.cells #[.int .i64 vw,.int .i64 vh,.slice (some ⟨lb,off,none⟩) H lc,.int .i64 r,.int .i64 c,.bool pd,.bool au] 26)=Wa from by rw [gP]);have HWB:=aa (show Wa.alloc (.cells #[Value.slice (some ⟨cb,coff,none⟩) W cc,.bool g] 30)=Wb from by rw [il]);have HSA:=aa sa';have HV:=aa gva;have q2:=gva0.cell 2 _ rfl;have l0:=(ba.cell (p:=⟨lb,off+i * 2,none⟩) iw).trans l0;have l1:=(ba.cell (p:=⟨lb,off+i * 2+1,none⟩) iw).trans l1;have x0:=(HB.out.cell (p:=⟨cb,coff+j * 2,none⟩) hcb).trans x0;have HL0:=aa (bb.cell (p:=⟨lb,off+i * 2,none⟩) (Nat.lt_of_lt_of_le iw ba.size) |>.trans l0);have z0:=gla.cell 0 _ rfl;have z1:=gla.cell 1 _ rfl;have k8:=aa hcb;have hic:i<lc:=by omega
 have hih:(i:Int)<(H:Int):=by omega
 have hjc:j<cc:=by omega
 have nV:(j:Int)<(W:Int):=by omega
 clear gP il ba bb sa' gva0 gla gva nD hv im hn hg hK hm hmK hst kp kA hN1 hN2 hN3 hN4 hN5 iA hcb hcv it iw lf iJ kt
 go_enter Tryd.func78,Tryd.ntmps78
 go_upto_region 1 with (fail)
 rw [iY.out]
 go_upto_region 2 with (fail)
 rw [HWB.out,HSA.out,<-HG9.out];clear q2 l0 l1
 go_upto_region 3 with (fail)
 go_cut [41] from 23 to 41 (fun cv wx=>cv=.bool q3/\wx=Wb)
 case first =>
  have hq:=nO.out;clear x0 hwj nO lu
  by_cases h1:m=m1
  ·have d1:((m:Int) == (m1:Int))=true:=by rw [beq_iff_eq];omega
   have d2:(m == m1)=true:=by rw [beq_iff_eq];exact h1
   rw [decide_eq_true h1,Bool.true_and] at hq;have hmw:m<W:=by have:=hM1.out;omega
   have y0:=(HB.out.cell (p:=⟨cb,coff+m * 2,none⟩) k8.out).trans (mt.out m hmw);have hmc:m<cc:=by omega
   have hmwI:(m:Int)<(W:Int):=by omega
   clear h1
   cases g with
   |false =>
    rw [Bool.false_and] at hq;have i4:=aa hq;clear hq;go_wp2;go_meet
    case rel=>exact ⟨by rw [i4.out],rfl⟩
   |true =>
    rw [Bool.true_and] at hq;generalize aq Ls i m=K3 at y0 hq
    by_cases h3:K3=0
    ·subst h3;have i4:=aa (show q3=true from hq);clear hq;go_wp2;go_meet
     case rel=>exact ⟨by rw [i4.out],rfl⟩
    ·have d3:(K3 == 0)=false:=by rw [beq_eq_false_iff_ne];exact h3
     rw [decide_eq_false h3] at hq;have i4:=aa hq;clear h3 hq;go_wp2;go_meet
     case rel=>exact ⟨by rw [i4.out],rfl⟩
  ·have d1:((m:Int) == (m1:Int))=false:=by rw [beq_eq_false_iff_ne];omega
   have d2:(m == m1)=false:=by rw [beq_eq_false_iff_ne];exact h1
   rw [decide_eq_false h1,Bool.false_and,Bool.false_and] at hq;have i4:=aa hq;clear h1 hq;go_wp2;go_meet
   case rel=>exact ⟨by rw [i4.out],rfl⟩
 case rest =>
  obtain ⟨rfl,jo⟩:=hcut;obtain ⟨wp,mg⟩:=ab (wc);subst mg;subst jo
  go_upto_if 41 with (fail)
  go_cut [2] from 42 to 43 (fun cv wx=>cv=.int .i64 (st:Nat)/\wx=wp)
  case first =>
   cases q3 with
   |true =>
    have HE:=aa (show st=m+1 from lu.out);have kc:IntKind.i64.wrap ((m:Int)+1)=((m+1:Nat):Int):=by rw [IntKind.wrap_i64];omega
    clear lu;go_wp2;go_meet
    case rel=>exact ⟨by rw [HE.out];first | rfl | (push_cast;rfl),rfl⟩
   |false =>
    have HE:=aa (show st=m from lu.out);clear lu;go_wp2;go_meet
    case rel=>exact ⟨by rw [HE.out],rfl⟩
  case rest =>
   obtain ⟨rfl,jo⟩:=hcut;obtain ⟨wq,iE⟩:=ab (wc);subst iE;subst jo;have iQ:=aa HB.out;clear x0 nO lu hwj ku;have q2:=HV.out.cell 2 _ rfl;have q0:=HV.out.cell 0 _ rfl;have q1:=HV.out.cell 1 _ rfl;have q3':=HV.out.cell 3 _ rfl;have q4:=HV.out.cell 4 _ rfl;have q5:=HV.out.cell 5 _ rfl;have q6:=HV.out.cell 6 _ rfl
   by_cases h1:W<=st
   ·have d1:(W:Int)<=(st:Int):=by omega
    have d1':decide ((W:Int)<=(st:Int))=true:=decide_eq_true d1;have hwi:IntKind.i64.wrap ((i:Int)+1)=((i+1:Nat):Int):=by rw [IntKind.wrap_i64];omega
    obtain ⟨i1,ks⟩:=ab (i+1);have HI1:=aa ks;rw [<-ks] at hwi
    cases g with
    |false =>
     have HE:=aa (lS.out h1 HG.out);clear ks h1;go_wp2;exact bodyPost_ret (v:=.tuple #[.int .i64 0,.int .i64 0,.bool false]) (by simp [results,Tryd.results78,go_sem]) rfl ⟨by rw [HE.out] <;> rfl,iQ.out⟩
    |true =>
     by_cases h2:H<=i+1
     ·have d2:decide ((H:Int)<=(i1:Int))=true:=ag (by omega);have d2':(H:Int)<=(i1:Int):=by omega
      have HE:=aa (HN2.out h1 h2);clear ks h1 h2;go_wp2;exact bodyPost_ret (v:=.tuple #[.int .i64 0,.int .i64 0,.bool false]) (by simp [results,Tryd.results78,go_sem]) rfl ⟨by rw [HE.out] <;> rfl,iQ.out⟩
     ·have d2:decide ((H:Int)<=(i1:Int))=false:=ah (by omega);have kP:i1<H:=by omega
      obtain ⟨lb',off',cv',e0,ky,_,l0,l1,k7⟩:=ik.out i1 (by rw [iL.out];exact kP)
      cases e0
      have hrw':=iT.out i1 kP;obtain ⟨g',jd⟩:=ab ((Ls.getD i1 zl).2);rw [<-jd] at l1;obtain ⟨co',cc',ecv⟩:=k7.len;rw [hrw'] at ecv;subst ecv;obtain ⟨g6,hcc',hca'⟩:=aX k7;clear g6;obtain ⟨cb',coff',tv1',rfl,hcb',_,x0,_,_⟩:=hca' 0 (by omega);obtain ⟨K',hK'⟩:=ab (aq Ls i1 0);rw [show ((Ls.getD i1 zl).1.getD 0 zc).1=K' from hK'.symm,Nat.zero_mul,Nat.add_zero] at x0;have l0:=(HB.out.cell (p:=⟨lb,off+i1 * 2,none⟩) ky).trans l0;have l1:=(HB.out.cell (p:=⟨lb,off+i1 * 2+1,none⟩) ky).trans l1;have x0:=(HB.out.cell (p:=⟨cb',coff',none⟩) hcb').trans x0;have hic1:i1<lc:=by omega
      have hi1I:(i1:Int)<(H:Int):=by omega
      have h0c:0<cc':=by omega
      have h0W:(0:Int)<(W:Int):=by omega
      have l4:=aa (show aP Ls (i+1)=g'/\aq Ls (i+1) 0=K' from by rw [<-ks,jd,hK'];exact ⟨rfl,rfl⟩);have jV:=aa (show ¬ (W=1/\g'=true/\K'=0)->ap Ls W H i j=(i1,0,K' != 0) from fun e=>by
       have h9:=HN4.out h1 HG.out h2 (by rw [l4.out.1,l4.out.2];exact e);rw [h9,l4.out.2,ks])
      have HN3':=aa (show (W=1/\g'=true/\K'=0)->ap Ls W H i j=(an Ls H H i1,0,decide (an Ls H H i1<H) && (aq Ls (an Ls H H i1) 0 != 0)) from fun e=>by
       have h9:=HN3.out h1 HG.out h2 (by rw [l4.out.1,l4.out.2];exact e);rw [h9,ks])
      have no:=aa (lR.out i1 (by omega) _ iQ.out);clear ks h1 h2 ky k7 hrw' jd hca' hcb' hK' kP
      by_cases hW1:W=1
      ·subst hW1
       cases g' with
       |false =>
        have HE:=aa (jV.out (fun e=>absurd e.2.1 (by decide)))
        go_upto_region 12 with (fail)
        go_quiet (fail)
        have HF:=aa (iQ.out.drewN nq);go_wp2;exact bodyPost_ret (v:=.tuple #[.int .i64 (i1:Int),.int .i64 0,.bool (K' != 0)]) (by simp [results,Tryd.results78,go_sem]) rfl ⟨by rw [HE.out] <;> rfl,HF.out⟩
       |true =>
        by_cases hk:K'=0
        ·subst hk;have HE:=aa (HN3'.out ⟨rfl,rfl,rfl⟩);clear jV HN3';obtain ⟨P,hP⟩:=ab (an Ls H H i1);rw [<-hP] at HE no;obtain ⟨bP,hbP⟩:=ab ((decide (P<H) && (aq Ls P 0 != 0)));rw [<-hbP] at HE no;clear hP hbP
         go_wp2_with fail
         refine no.out.mono ?_;rintro e w8 ⟨rfl,b8⟩;have HF:=aa (iQ.out.trans (b8.mono iQ.out.size));clear b8;go_wp2;exact bodyPost_ret (v:=.tuple #[.int .i64 (P:Int),.int .i64 0,.bool bP]) (by simp [results,Tryd.results78,go_sem]) rfl ⟨by rw [HE.out] <;> rfl,HF.out⟩
        ·have d3:(K' == 0)=false:=by rw [beq_eq_false_iff_ne];exact hk
         have HE:=aa (jV.out (fun e=>hk e.2.2));clear hk
         go_upto_region 12 with (fail)
         go_quiet (fail)
         have HF:=aa (iQ.out.drewN nq);go_wp2;exact bodyPost_ret (v:=.tuple #[.int .i64 (i1:Int),.int .i64 0,.bool (K' != 0)]) (by simp [results,Tryd.results78,go_sem]) rfl ⟨by rw [HE.out] <;> rfl,HF.out⟩
      ·have d3:((W:Int) == 1)=false:=by rw [beq_eq_false_iff_ne];omega
       have d4:(W == 1)=false:=by rw [beq_eq_false_iff_ne];exact hW1
       have HE:=aa (jV.out (fun e=>hW1 e.1));clear hW1
       go_upto_region 12 with (fail)
       go_quiet (fail)
       have HF:=aa (iQ.out.drewN nq);go_wp2;exact bodyPost_ret (v:=.tuple #[.int .i64 (i1:Int),.int .i64 0,.bool (K' != 0)]) (by simp [results,Tryd.results78,go_sem]) rfl ⟨by rw [HE.out] <;> rfl,HF.out⟩
   ·have d1:¬ (W:Int)<=(st:Int):=by omega
    have d1':decide ((W:Int)<=(st:Int))=false:=decide_eq_false d1;have hsw:st<W:=by omega
    have HE:=aa (HN5.out h1);have x0:=(HB.out.cell (p:=⟨cb,coff+st * 2,none⟩) k8.out).trans (mt.out st hsw);have l0:=HL0.out;have hsc:st<cc:=by omega
    have hswI:(st:Int)<(W:Int):=by omega
    obtain ⟨K',hK'⟩:=ab (aq Ls i st);rw [<-hK'] at x0 HE;clear hK' h1
    go_upto_region 12 with (fail)
    go_quiet (fail)
    have HF:=aa (iQ.out.drewN nq);go_wp2;exact bodyPost_ret (v:=.tuple #[.int .i64 (i:Int),.int .i64 (st:Int),.bool (K' != 0)]) (by simp [results,Tryd.results78,go_sem]) rfl ⟨by rw [HE.out] <;> rfl,HF.out⟩
end Go.Proofs.YthdphijabffpiaaDoor
