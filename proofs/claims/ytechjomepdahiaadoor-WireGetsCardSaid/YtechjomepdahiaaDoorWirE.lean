import Derived.Test.YtechjomepdahiaaDoorZ0
import Derived.Test.YtechjomepdahiaaDoorWirD
set_option maxRecDepth 100000
set_option linter.unusedVariables false
set_option linter.unusedSimpArgs false
set_option maxHeartbeats 4000000
namespace Go.Proofs.YtechjomepdahiaaDoor
open Go.RowKit Go.ChangeShapes Go.WideShapes
theorem gC(v:Vw)(lv:Value)(w:World)(hv:ViewAt w v lv)(hr:aI v=true):Calls Tryd.prog 23 #[bb v lv] w (gF w (bG v)):=by
 obtain ⟨W1,hW1⟩:=ab (w.alloc (.cells (bW v lv).toArray 44));have hb1:Below w.heap.size w W1:=by rw [hW1];exact j0 _ _
 have j2:Has W1 w.heap.size (bW v lv) 44:=by rw [hW1];exact Has.new w _ _
 have lZ:=aa (dx hr);have qO:=aa hv.1.lower;obtain ⟨lo,lc,elv⟩:=hv.1.len;subst elv;have hlc:=(be hv.1).2.1;have ld:=aa (show bG v=((((([76]++aA v.w.toNat)++aA v.h.toNat)++aA v.r.toNat)++aA v.c.toNat)++[cD v])++v.L.flatMap lnB from by unfold bG;simp);have mn:=aa (show cD v=(if v.pd=true then 1 else 0)+(if v.au=true then 2 else 0) from rfl);obtain ⟨vw,vh,Ls,r,c,pd,au⟩:=v;obtain ⟨FL,sH⟩:=ab (cD ⟨vw,vh,Ls,r,c,pd,au⟩);rw [<-sH] at ld mn;simp only at ld mn lZ qO hlc;obtain ⟨PV,r5⟩:=ab (bG ⟨vw,vh,Ls,r,c,pd,au⟩);rw [<-r5] at ld ⊢;have kQ:=aa (show w.alloc (.cells #[Value.int .i64 vw,.int .i64 vh,.slice lo Ls.length lc,.int .i64 r,.int .i64 c,.bool pd,.bool au] 44)=W1 from by rw [hW1];rfl);unfold bb;unfold bW at j2;simp only at j2 hlc ⊢;obtain ⟨nl,ky⟩:=ab (Ls.length);have pu:=aa ky;rw [<-ky] at j2 kQ qO hlc ⊢;obtain ⟨gp,ly⟩:=ab (w.heap.size);have nI:=aa ly;rw [<-ly] at j2;have nj:=aa j2;have lT:=aa hb1;have qN:=aa (eW Ls (fun i hi=>⟨(lZ.out.2.2.2.2.2.2.2.2.2 i hi).2,by have:=(lZ.out.2.2.2.2.2.2.2.2.2 i hi).1;have:=lZ.out.2.1;omega⟩));have hnl1:nl<=1024:=by have:=lZ.out;rw [pu.out];omega
 have o4:=aa (show vw=((vw.toNat:Nat):Int)/\vw.toNat<2097152 from by have:=lZ.out;omega);have pf:=aa (show vh=((vh.toNat:Nat):Int)/\vh.toNat<2097152 from by have:=lZ.out;omega);have tr:=aa (show r=((r.toNat:Nat):Int)/\r.toNat<2097152 from by have:=lZ.out;omega);have s9:=aa (show c=((c.toNat:Nat):Int)/\c.toNat<2097152 from by have:=lZ.out;omega);clear hW1 hb1 ly hv hr r5 sH ky j2;obtain ⟨nvw,hnvw⟩:=ab (vw.toNat);rw [<-hnvw] at o4 ld;obtain rfl:vw=(nvw:Int):=o4.out.1;have hlvw:=o4.out.2;clear hnvw o4;obtain ⟨nvh,hnvh⟩:=ab (vh.toNat);rw [<-hnvh] at pf ld;obtain rfl:vh=(nvh:Int):=pf.out.1;have hlvh:=pf.out.2;clear hnvh pf;obtain ⟨nr,pt⟩:=ab (r.toNat);rw [<-pt] at tr ld;obtain rfl:r=(nr:Int):=tr.out.1;have hlr:=tr.out.2;clear pt tr;obtain ⟨nc,si⟩:=ab (c.toNat);rw [<-si] at s9 ld;obtain rfl:c=(nc:Int):=s9.out.1;have hlc:=s9.out.2;clear si s9;obtain ⟨W3,hW3⟩:=ab (W1.alloc (.cells [Value.int .u8 76].toArray 5));have hb3:Below W1.heap.size W1 W3:=by rw [hW3];exact j0 _ _
 have mD:=BOwn.one W1 w.heap.size 76 lT.out.size;rw [<-hW3] at mD;have o2:=aa (show W1.alloc (.cells #[Value.int .u8 76] 5)=W3 from by rw [hW3]);obtain ⟨g3,hg3⟩:=ab (W1.heap.size);have uj:=aa hg3;rw [<-hg3] at mD;have oh:=aa mD;have nu:=aa (nj.out.below hb3 nj.out.lt);have me:=aa (lT.out.trans (hb3.mono lT.out.size));have HNV3:=aa ((eX g3 1 1 gp).2 (by have:=nj.out.lt;omega));obtain ⟨X0,tV⟩:=ab (([76]:List Int));have hx0:X0.length<=1:=by rw [tV];simp
 rw [<-tV] at oh ld;clear hW3 hb3 mD hg3 tV nj
 go_enter Tryd.func23,Tryd.ntmps23
 go_upto_region 1 with (fail)
 rw [kQ.out,<-nI.out]
 go_upto_region 2 with (fail)
 rw [o2.out,<-uj.out];have z0:=nu.out.cell 0 _ rfl;have ve:=aa (ch nvw hlvw W3);have hq0:=(aE hlvw).2;obtain ⟨Q0,hQ0⟩:=ab (aA nvw);rw [<-hQ0] at ve ld hq0;clear hQ0
 go_wp2_with fail
 refine ve.out.mono ?_;rintro e wa0 ⟨va0,rfl,hoa0,ba0⟩;have HA0:=aa (oh.out.below ba0);have mO:=aa (hoa0.held (Z:=fun x=>W3.heap.size<=x) (fun x h _=>h));have HZ0:=aa (Nat.le_trans me.out.size ba0.size);have pz:=aa (fun x (e:(show Value from (.slice (some ⟨g3,0,none⟩) 1 1)).ownBlock=some x)=>(oh.out.lt x e).2);have HS0:=aa (Stp.bel (B:=w.heap.size) (v:=(.slice (some ⟨g3,0,none⟩) 1 1)) ba0 me.out.size);clear hoa0 ba0 z0 ve
 go_wp2_with (at_builtin;refine ba (Z:=fun x=>W3.heap.size<=x) rfl (.tmp 8) (.tmp 11) 46 rfl Tryd.underlying46 rfl rfl HA0.out mO.out (fun x hx e=>by have:=pz.out x e;omega) (by omega) HZ0.out ?_)
 intro vb0 wb0 qG sb0;obtain ⟨X1,oc⟩:=ab (X0++Q0);have hx1:X1.length<=4:=by rw [oc,List.length_append];omega
 rw [<-oc] at qG ld;have qo:=aa (HS0.out.trans sb0);have pZ:=aa (qo.out.has nu.out HNV3.out);have qj:=aa qG;have o8:=aa (me.out.trans qo.out.1);have qv:=aa pZ.out.1;have HN0c:=aa pZ.out.2;clear oc qG sb0 HA0 mO HZ0 pz HS0 qo pZ oh nu me HNV3;have z1:=qv.out.cell 1 _ rfl;have p8:=aa (ch nvh hlvh wb0);have pE:=(aE hlvh).2;obtain ⟨Q1,hQ1⟩:=ab (aA nvh);rw [<-hQ1] at p8 ld pE;clear hQ1
 go_wp2_with fail
 refine p8.out.mono ?_;rintro e wa1 ⟨va1,rfl,hoa1,ba1⟩;have rq:=aa (qj.out.below ba1);have rT:=aa (hoa1.held (Z:=fun x=>wb0.heap.size<=x) (fun x h _=>h));have HZ1:=aa (Nat.le_trans o8.out.size ba1.size);have HL1:=aa (fun x (e:(show Value from vb0).ownBlock=some x)=>(qj.out.lt x e).2);have sP:=aa (Stp.bel (B:=w.heap.size) (v:=vb0) ba1 o8.out.size);clear hoa1 ba1 z1 p8
 go_wp2_with (at_builtin;refine ba (Z:=fun x=>wb0.heap.size<=x) rfl (.tmp 13) (.tmp 16) 46 rfl Tryd.underlying46 rfl rfl rq.out rT.out (fun x hx e=>by have:=HL1.out x e;omega) (by omega) HZ1.out ?_)
 intro vb1 wb1 pO sb1;obtain ⟨X2,vg⟩:=ab (X1++Q1);have hx2:X2.length<=7:=by rw [vg,List.length_append];omega
 rw [<-vg] at pO ld;have qr:=aa (sP.out.trans sb1);have qq:=aa (qr.out.has qv.out HN0c.out);have pU:=aa pO;have pg:=aa (o8.out.trans qr.out.1);have qw:=aa qq.out.1;have HN1c:=aa qq.out.2;clear vg pO sb1 rq rT HZ1 HL1 sP qr qq qj qv o8 HN0c;have z2:=qw.out.cell 3 _ rfl;have vd:=aa (ch nr hlr wb1);have pI:=(aE hlr).2;obtain ⟨Q2,hQ2⟩:=ab (aA nr);rw [<-hQ2] at vd ld pI;clear hQ2
 go_wp2_with fail
 refine vd.out.mono ?_;rintro e wa2 ⟨va2,rfl,hoa2,ba2⟩;have oa:=aa (pU.out.below ba2);have n8:=aa (hoa2.held (Z:=fun x=>wb1.heap.size<=x) (fun x h _=>h));have HZ2:=aa (Nat.le_trans pg.out.size ba2.size);have HL2:=aa (fun x (e:(show Value from vb1).ownBlock=some x)=>(pU.out.lt x e).2);have sQ:=aa (Stp.bel (B:=w.heap.size) (v:=vb1) ba2 pg.out.size);clear hoa2 ba2 z2 vd
 go_wp2_with (at_builtin;refine ba (Z:=fun x=>wb1.heap.size<=x) rfl (.tmp 18) (.tmp 22) 46 rfl Tryd.underlying46 rfl rfl oa.out n8.out (fun x hx e=>by have:=HL2.out x e;omega) (by omega) HZ2.out ?_)
 intro vb2 wb2 qQ sb2;obtain ⟨X3,tW⟩:=ab (X2++Q2);have hx3:X3.length<=10:=by rw [tW,List.length_append];omega
 rw [<-tW] at qQ ld;have qL:=aa (sQ.out.trans sb2);have qy:=aa (qL.out.has qw.out HN1c.out);have ql:=aa qQ;have ph:=aa (pg.out.trans qL.out.1);have qp:=aa qy.out.1;have HN2c:=aa qy.out.2;clear tW qQ sb2 oa n8 HZ2 HL2 sQ qL qy pU qw pg HN1c;have z3:=qp.out.cell 4 _ rfl;have ux:=aa (ch nc hlc wb2);have hq3:=(aE hlc).2;obtain ⟨Q3,hQ3⟩:=ab (aA nc);rw [<-hQ3] at ux ld hq3;clear hQ3
 go_wp2_with fail
 refine ux.out.mono ?_;rintro e wa3 ⟨va3,rfl,hoa3,ba3⟩;have rF:=aa (ql.out.below ba3);have lU:=aa (hoa3.held (Z:=fun x=>wb2.heap.size<=x) (fun x h _=>h));have tj:=aa (Nat.le_trans ph.out.size ba3.size);have HL3:=aa (fun x (e:(show Value from vb2).ownBlock=some x)=>(ql.out.lt x e).2);have HS3:=aa (Stp.bel (B:=w.heap.size) (v:=vb2) ba3 ph.out.size);clear hoa3 ba3 z3 ux
 go_wp2_with (at_builtin;refine ba (Z:=fun x=>wb2.heap.size<=x) rfl (.tmp 24) (.tmp 28) 46 rfl Tryd.underlying46 rfl rfl rF.out lU.out (fun x hx e=>by have:=HL3.out x e;omega) (by omega) tj.out ?_)
 intro vb3 wb3 qI sb3;obtain ⟨X4,ul⟩:=ab (X3++Q3);have hx4:X4.length<=13:=by rw [ul,List.length_append];omega
 rw [<-ul] at qI ld;have pK:=aa (HS3.out.trans sb3);have qE:=aa (pK.out.has qp.out HN2c.out);have HO3b:=aa qI;have qn:=aa (ph.out.trans pK.out.1);have oJ:=aa qE.out.1;have HN3c:=aa qE.out.2;clear ul qI sb3 rF lU tj HL3 HS3 pK qE ql qp ph HN2c;have p5:=oJ.out.cell 5 _ rfl;have p6:=oJ.out.cell 6 _ rfl;obtain ⟨P1,qU⟩ : ∃ P1:Int,P1=if pd=true then 1 else 0:=⟨_,rfl⟩;have mE:=aa qU;have nz:=aa (show FL=P1+(if au=true then 2 else 0) from by rw [mn.out,qU]);clear qU mn
 go_upto_if 32 with (fail)
 go_cut [4] from 32 to 34 (fun kv wx=>kv=.int .u8 P1/\wx=wb3)
 case first =>
  have e:=mE.out
  cases pd with
  |true =>
   rw [if_pos rfl] at e;subst e;clear mE nz;go_wp2;go_meet
   case rel=>exact ⟨by first | rfl | go_num,rfl⟩
  |false =>
   rw [if_neg (by decide)] at e;subst e;clear mE nz;go_wp2;go_meet
   case rel=>exact ⟨by first | rfl | go_num,rfl⟩
 case rest =>
  obtain ⟨rfl,rfl⟩:=hcut;obtain ⟨wq,lR⟩:=ab (wc);subst lR;clear p5;have nB:0<=P1/\P1<=1:=by rw [mE.out];split <;> omega
  go_upto_if 36 with (fail)
  go_cut [4] from 36 to 38 (fun kv wx=>kv=.int .u8 FL/\wx=wq)
  case first =>
   have e:=nz.out
   cases au with
   |true =>
    rw [if_pos rfl] at e;have hm:(P1+2) % 256=FL:=by omega
    clear e mE nz;go_wp2;go_meet
    case rel=>exact ⟨by first | rfl | go_num | (rw [hm]),rfl⟩
   |false =>
    rw [if_neg (by decide),Int.add_zero] at e;subst e;clear mE nz;go_wp2;go_meet
    case rel=>exact ⟨by first | rfl | go_num,rfl⟩
  case rest =>
   obtain ⟨rfl,rfl⟩:=hcut;obtain ⟨wk,ow⟩:=ab (wc);subst ow;clear p6 mE nz nB;have qx:=qn.out.size
   go_wp2_with (at_builtin;refine di rfl (.tmp 39) (.tmp 41) 46 rfl Tryd.underlying46 FL rfl rfl HO3b.out (by omega) qx ?_)
   intro v7 w7 tF s7;obtain ⟨HD,pN⟩:=ab (X4++[FL]);have hhd:HD.length<=14:=by rw [pN,List.length_append,List.length_singleton];omega
   rw [<-pN] at tF ld;have HO7:=aa tF;have vn:=aa (s7.has oJ.out HN3c.out);have re:=aa (qn.out.trans s7.1);clear tF s7 pN qx HO3b oJ qn HN3c;go_wp2
   go_loopw [3,5] (fun bv iv wr=>∃ i:Nat,i<=nl/\iv=.int .i64 (i:Int)/\Hid (BOwn wr w.heap.size bv (HD++(Ls.take i).flatMap lnB)/\Below w.heap.size w wr/\Has wr gp [.int .i64 (nvw:Int),.int .i64 (nvh:Int),.slice lo nl lc,.int .i64 (nr:Int),.int .i64 (nc:Int),.bool pd,.bool au] 44/\bv.ownBlock≠some gp)) (fun _ iv _=>nl - (intOf iv).toNat)
   case atStart=>exact ⟨0,Nat.zero_le _,rfl,aa ⟨by rw [List.take_zero,List.flatMap_nil,List.append_nil];exact HO7.out,re.out,vn.out.1,vn.out.2⟩⟩
   case round =>
    clear HO7 re vn;obtain ⟨i,hi,rfl,HI⟩:=hrel;obtain ⟨wi,rZ⟩:=ab (wr);subst rZ;have q2:=HI.out.2.2.1.cell 2 _ rfl
    by_cases kZ:i<nl
    ·have d1:(i:Int)<(nl:Int):=by omega
     have d1b:decide ((i:Int)<(nl:Int))=true:=ag (by omega);have mu:i<Ls.length:=by rw [<-pu.out];exact kZ
     obtain ⟨b,off,tv,e0,hb,_,c0,c1,hh⟩:=(be qO.out).2.2 i mu;subst e0;have nL:=lZ.out.2.2.2.2.2.2.2.2.2 i mu;have qF:=lZ.out.2.1;obtain ⟨⟨C,g⟩,qA⟩ : ∃ y,y=Ls.getD i zl:=⟨_,rfl⟩;rw [<-qA] at c1 hh nL;simp only at c1 hh nL;have sS:=aa HI.out.2.1;have c1:=(sS.out.cell (p:=⟨b,off+i * 2+1,none⟩) hb).trans c1;obtain ⟨G1,mZ⟩ : ∃ G1:Int,G1=if g=true then 1 else 0:=⟨_,rfl⟩;have mc:=aa mZ;obtain ⟨YI,oR⟩:=ab (HD++(Ls.take i).flatMap lnB);have HOI:=aa (show BOwn wi w.heap.size u3 YI from by rw [oR];exact HI.out.1);have hyi:YI.length<=80000000:=by
      rw [oR,List.length_append];have h1:=qN.out i (by omega);have h2:i * 71681<=1024 * 71681:=Nat.mul_le_mul_right _ (by omega);omega
     have sy:=aa (show (YI++[G1])++aD C=HD++(Ls.take (i+1)).flatMap lnB from by
      rw [oR,List.take_succ_eq_append_getElem mu,List.flatMap_append,List.flatMap_singleton,show Ls[i]=Ls.getD i zl from by simp [List.getD,List.getElem?_eq_getElem mu],<-qA,mZ];unfold lnB
      simp)
     have nY:=aa (dy nL.2);have lj:C.length<=1024:=by omega
     have HHC:=aa hh;have uy:=aa (And.intro HI.out.2.2.1 HI.out.2.2.2);have hic:i<lc:=by omega
     have pv:=aa (And.intro hb c0);clear qA hh oR mZ nL qF HI hb c0
     go_upto_if 55 with (fail)
     go_cut [6] from 55 to 55 (fun kv wx=>kv=.int .u8 G1/\wx=wi)
     case first =>
      have e:=mc.out
      cases g with
      |true =>
       rw [if_pos rfl] at e;subst e;clear mc;go_wp2;go_meet
       case rel=>exact ⟨rfl,rfl⟩
      |false =>
       rw [if_neg (by decide)] at e;subst e;clear mc;go_wp2;go_meet
       case rel=>exact ⟨rfl,rfl⟩
     case rest =>
      obtain ⟨rfl,rfl⟩:=hcut;obtain ⟨wl,hwl⟩:=ab (wc);subst hwl;clear c1 q2 mc;have hszl:=sS.out.size
      go_wp2_with (at_builtin;refine di rfl (.tmp 56) (.tmp 58) 46 rfl Tryd.underlying46 G1 rfl rfl HOI.out (by omega) hszl ?_)
      intro v4 w4 kL s4;have rz:=aa (s4.has uy.out.1 uy.out.2);have kD:=aa (sS.out.trans s4.1);have my:=aa kL;have q2:=rz.out.1.cell 2 _ rfl;have c0:=(kD.out.cell (p:=⟨b,off+i * 2,none⟩) pv.out.1).trans pv.out.2;have qu:=aa (iu (fun b=>b<w.heap.size) tv C w4 (by omega) nY.out (HHC.out.below kD.out));clear kL s4 HOI sS uy hszl
      go_wp2_with fail
      refine qu.out.mono ?_;rintro e w5 ⟨v5,rfl,kH,b5⟩;have qk:=cf C.length C (Nat.le_refl _) (by omega) nY.out;obtain ⟨RC,hRC⟩:=ab (aD C);rw [<-hRC] at kH qk sy;obtain ⟨ZI,vf⟩:=ab (YI++[G1]);have hzi:ZI.length<=80000001:=by rw [vf,List.length_append,List.length_singleton];omega
      rw [<-vf] at my sy;have ot:=aa (my.out.below b5);have rm:=aa (kH.held (Z:=fun x=>w4.heap.size<=x) (fun x h _=>h));have sE:=aa (fun x (e:v4.ownBlock=some x)=>(my.out.lt x e).2);have o6:=aa (Stp.bel (B:=w.heap.size) (v:=v4) b5 kD.out.size);have HZ5:=aa (Nat.le_trans kD.out.size b5.size);clear kH b5 q2 c0 hRC vf qu
      go_wp2_with (at_builtin;refine ba (Z:=fun x=>w4.heap.size<=x) rfl (.tmp 60) (.tmp 67) 46 rfl Tryd.underlying46 rfl rfl ot.out rm.out (fun x hx e=>by have:=sE.out x e;omega) (by omega) HZ5.out ?_)
      intro v6 w6 ni s6;have HS6:=aa (o6.out.trans s6);have rn:=aa (HS6.out.has rz.out.1 rz.out.2);have HF:=aa (show BOwn w6 w.heap.size v6 (HD++(Ls.take (i+1)).flatMap lnB)/\Below w.heap.size w w6/\Has w6 gp [.int .i64 (nvw:Int),.int .i64 (nvh:Int),.slice (some ⟨b,off,none⟩) nl lc,.int .i64 (nr:Int),.int .i64 (nc:Int),.bool pd,.bool au] 44/\v6.ownBlock≠some gp from ⟨by rw [<-sy.out];exact ni,kD.out.trans HS6.out.1,rn.out.1,rn.out.2⟩);clear ni s6;go_wp2
      go_roundw
      case rel=>exact ⟨i+1,by omega,by go_num,HF⟩
      case measure=>simp [intOf] <;> omega
    ·obtain rfl:i=nl:=by omega
     have d1:¬ (i:Int)<(i:Int):=by omega
     have d1b:decide ((i:Int)<(i:Int))=false:=ah (by omega);have HF:=aa (show BOwn wi w.heap.size u3 PV/\Below w.heap.size w wi from ⟨by
      have h:=HI.out.1;rw [pu.out,List.take_length,<-ld.out] at h;exact h,HI.out.2.1⟩)
     clear kZ HI;go_wp2;go_ret;exact ⟨_,rfl,HF.out.1,HF.out.2⟩
end Go.Proofs.YtechjomepdahiaaDoor
