import Derived.Test.YtechjomepdahiaaDoorZ0
import Derived.Test.YtechjomepdahiaaDoorWirD
set_option maxRecDepth 100000
set_option linter.unusedVariables false
set_option linter.unusedSimpArgs false
set_option maxHeartbeats 4000000
namespace Go.Proofs.YtechjomepdahiaaDoor
open Go.RowKit Go.ChangeShapes Go.WideShapes
theorem iZ(v:Vw)(lv:Value)(w:World)(hv:ViewAt w v lv)(hr:aH v=true):Calls Tryd.prog 23 #[aZ v lv] w (je w (aS v)):=by
 obtain ⟨W1,hW1⟩:=ab (w.alloc (.cells (cl v lv).toArray 44));have hb1:Below w.heap.size w W1:=by rw [hW1];exact l7 _ _
 have l8:Has W1 w.heap.size (cl v lv) 44:=by rw [hW1];exact Has.new w _ _
 have ot:=aa (dY hr);have sm:=aa hv.1.lower;obtain ⟨lo,lc,elv⟩:=hv.1.len;subst elv;have hlc:=(aP hv.1).2.1;have m9:=aa (show aS v=((((([76]++aA v.w.toNat)++aA v.h.toNat)++aA v.r.toNat)++aA v.c.toNat)++[bQ v])++v.L.flatMap lnB from by unfold aS;simp);have oR:=aa (show bQ v=(if v.pd=true then 1 else 0)+(if v.au=true then 2 else 0) from rfl);obtain ⟨vw,vh,Ls,r,c,pd,au⟩:=v;obtain ⟨FL,vy⟩:=ab (bQ ⟨vw,vh,Ls,r,c,pd,au⟩);rw [<-vy] at m9 oR;simp only at m9 oR ot sm hlc;obtain ⟨PV,uY⟩:=ab (aS ⟨vw,vh,Ls,r,c,pd,au⟩);rw [<-uY] at m9 ⊢;have mG:=aa (show w.alloc (.cells #[Value.int .i64 vw,.int .i64 vh,.slice lo Ls.length lc,.int .i64 r,.int .i64 c,.bool pd,.bool au] 44)=W1 from by rw [hW1];rfl);unfold aZ;unfold cl at l8;simp only at l8 hlc ⊢;obtain ⟨nl,mA⟩:=ab (Ls.length);have rS:=aa mA;rw [<-mA] at l8 mG sm hlc ⊢;obtain ⟨gp,n8⟩:=ab (w.heap.size);have pZ:=aa n8;rw [<-n8] at l8;have og:=aa l8;have nu:=aa hb1;have tA:=aa (fX Ls (fun i hi=>⟨(ot.out.2.2.2.2.2.2.2.2.2 i hi).2,by have:=(ot.out.2.2.2.2.2.2.2.2.2 i hi).1;have:=ot.out.2.1;omega⟩));have hnl1:nl<=1024:=by have:=ot.out;rw [rS.out];omega
 have rz:=aa (show vw=((vw.toNat:Nat):Int)/\vw.toNat<2097152 from by have:=ot.out;omega);have rE:=aa (show vh=((vh.toNat:Nat):Int)/\vh.toNat<2097152 from by have:=ot.out;omega);have vP:=aa (show r=((r.toNat:Nat):Int)/\r.toNat<2097152 from by have:=ot.out;omega);have vH:=aa (show c=((c.toNat:Nat):Int)/\c.toNat<2097152 from by have:=ot.out;omega);clear hW1 hb1 n8 hv hr uY vy mA l8;obtain ⟨nvw,hnvw⟩:=ab (vw.toNat);rw [<-hnvw] at rz m9;obtain rfl:vw=(nvw:Int):=rz.out.1;have hlvw:=rz.out.2;clear hnvw rz;obtain ⟨nvh,hnvh⟩:=ab (vh.toNat);rw [<-hnvh] at rE m9;obtain rfl:vh=(nvh:Int):=rE.out.1;have hlvh:=rE.out.2;clear hnvh rE;obtain ⟨nr,qV⟩:=ab (r.toNat);rw [<-qV] at vP m9;obtain rfl:r=(nr:Int):=vP.out.1;have hlr:=vP.out.2;clear qV vP;obtain ⟨nc,vc⟩:=ab (c.toNat);rw [<-vc] at vH m9;obtain rfl:c=(nc:Int):=vH.out.1;have hlc:=vH.out.2;clear vc vH;obtain ⟨W3,hW3⟩:=ab (W1.alloc (.cells [Value.int .u8 76].toArray 5));have hb3:Below W1.heap.size W1 W3:=by rw [hW3];exact l7 _ _
 have oy:=BOwn.one W1 w.heap.size 76 nu.out.size;rw [<-hW3] at oy;have vI:=aa (show W1.alloc (.cells #[Value.int .u8 76] 5)=W3 from by rw [hW3]);obtain ⟨g3,hg3⟩:=ab (W1.heap.size);have xg:=aa hg3;rw [<-hg3] at oy;have qm:=aa oy;have pT:=aa (og.out.below hb3 og.out.lt);have m5:=aa (nu.out.trans (hb3.mono nu.out.size));have HNV3:=aa ((fY g3 1 1 gp).2 (by have:=og.out.lt;omega));obtain ⟨X0,ym⟩:=ab (([76]:List Int));have hx0:X0.length<=1:=by rw [ym];simp
 rw [<-ym] at qm m9;clear hW3 hb3 oy hg3 ym og
 go_enter Tryd.func23,Tryd.ntmps23
 go_upto_region 1 with (fail)
 rw [mG.out,<-pZ.out]
 go_upto_region 2 with (fail)
 rw [vI.out,<-xg.out];have z0:=pT.out.cell 0 _ rfl;have xy:=aa (cx nvw hlvw W3);have hq0:=(aD hlvw).2;obtain ⟨Q0,hQ0⟩:=ab (aA nvw);rw [<-hQ0] at xy m9 hq0;clear hQ0
 go_wp2_with fail
 refine xy.out.mono ?_;rintro e wa0 ⟨va0,rfl,hoa0,ba0⟩;have HA0:=aa (qm.out.below ba0);have pa:=aa (hoa0.held (Z:=fun x=>W3.heap.size<=x) (fun x h _=>h));have HZ0:=aa (Nat.le_trans m5.out.size ba0.size);have r6:=aa (fun x (e:(show Value from (.slice (some ⟨g3,0,none⟩) 1 1)).ownBlock=some x)=>(qm.out.lt x e).2);have HS0:=aa (Stp.bel (B:=w.heap.size) (v:=(.slice (some ⟨g3,0,none⟩) 1 1)) ba0 m5.out.size);clear hoa0 ba0 z0 xy
 go_wp2_with (at_builtin;refine bq (Z:=fun x=>W3.heap.size<=x) rfl (.tmp 8) (.tmp 11) 46 rfl Tryd.underlying46 rfl rfl HA0.out pa.out (fun x hx e=>by have:=r6.out x e;omega) (by omega) HZ0.out ?_)
 intro vb0 wb0 se sb0;obtain ⟨X1,qk⟩:=ab (X0++Q0);have hx1:X1.length<=4:=by rw [qk,List.length_append];omega
 rw [<-qk] at se m9;have sv:=aa (HS0.out.trans sb0);have sZ:=aa (sv.out.has pT.out HNV3.out);have sz:=aa se;have q8:=aa (m5.out.trans sv.out.1);have sG:=aa sZ.out.1;have HN0c:=aa sZ.out.2;clear qk se sb0 HA0 pa HZ0 r6 HS0 sv sZ qm pT m5 HNV3;have z1:=sG.out.cell 1 _ rfl;have td:=aa (cx nvh hlvh wb0);have qF:=(aD hlvh).2;obtain ⟨Q1,hQ1⟩:=ab (aA nvh);rw [<-hQ1] at td m9 qF;clear hQ1
 go_wp2_with fail
 refine td.out.mono ?_;rintro e wa1 ⟨va1,rfl,hoa1,ba1⟩;have tU:=aa (sz.out.below ba1);have uR:=aa (hoa1.held (Z:=fun x=>wb0.heap.size<=x) (fun x h _=>h));have HZ1:=aa (Nat.le_trans q8.out.size ba1.size);have HL1:=aa (fun x (e:(show Value from vb0).ownBlock=some x)=>(sz.out.lt x e).2);have wE:=aa (Stp.bel (B:=w.heap.size) (v:=vb0) ba1 q8.out.size);clear hoa1 ba1 z1 td
 go_wp2_with (at_builtin;refine bq (Z:=fun x=>wb0.heap.size<=x) rfl (.tmp 13) (.tmp 16) 46 rfl Tryd.underlying46 rfl rfl tU.out uR.out (fun x hx e=>by have:=HL1.out x e;omega) (by omega) HZ1.out ?_)
 intro vb1 wb1 sN sb1;obtain ⟨X2,xG⟩:=ab (X1++Q1);have hx2:X2.length<=7:=by rw [xG,List.length_append];omega
 rw [<-xG] at sN m9;have sy:=aa (wE.out.trans sb1);have tl:=aa (sy.out.has sG.out HN0c.out);have s8:=aa sN;have rI:=aa (q8.out.trans sy.out.1);have sc:=aa tl.out.1;have HN1c:=aa tl.out.2;clear xG sN sb1 tU uR HZ1 HL1 wE sy tl sz sG q8 HN0c;have z2:=sc.out.cell 3 _ rfl;have xn:=aa (cx nr hlr wb1);have rX:=(aD hlr).2;obtain ⟨Q2,hQ2⟩:=ab (aA nr);rw [<-hQ2] at xn m9 rX;clear hQ2
 go_wp2_with fail
 refine xn.out.mono ?_;rintro e wa2 ⟨va2,rfl,hoa2,ba2⟩;have qi:=aa (s8.out.below ba2);have qB:=aa (hoa2.held (Z:=fun x=>wb1.heap.size<=x) (fun x h _=>h));have HZ2:=aa (Nat.le_trans rI.out.size ba2.size);have HL2:=aa (fun x (e:(show Value from vb1).ownBlock=some x)=>(s8.out.lt x e).2);have HS2:=aa (Stp.bel (B:=w.heap.size) (v:=vb1) ba2 rI.out.size);clear hoa2 ba2 z2 xn
 go_wp2_with (at_builtin;refine bq (Z:=fun x=>wb1.heap.size<=x) rfl (.tmp 18) (.tmp 22) 46 rfl Tryd.underlying46 rfl rfl qi.out qB.out (fun x hx e=>by have:=HL2.out x e;omega) (by omega) HZ2.out ?_)
 intro vb2 wb2 sC sb2;obtain ⟨X3,xt⟩:=ab (X2++Q2);have hx3:X3.length<=10:=by rw [xt,List.length_append];omega
 rw [<-xt] at sC m9;have tF:=aa (HS2.out.trans sb2);have tf:=aa (tF.out.has sc.out HN1c.out);have sL:=aa sC;have qX:=aa (rI.out.trans tF.out.1);have tn:=aa tf.out.1;have HN2c:=aa tf.out.2;clear xt sC sb2 qi qB HZ2 HL2 HS2 tF tf s8 sc rI HN1c;have z3:=tn.out.cell 4 _ rfl;have xI:=aa (cx nc hlc wb2);have hq3:=(aD hlc).2;obtain ⟨Q3,hQ3⟩:=ab (aA nc);rw [<-hQ3] at xI m9 hq3;clear hQ3
 go_wp2_with fail
 refine xI.out.mono ?_;rintro e wa3 ⟨va3,rfl,hoa3,ba3⟩;have tV:=aa (sL.out.below ba3);have nn:=aa (hoa3.held (Z:=fun x=>wb2.heap.size<=x) (fun x h _=>h));have wC:=aa (Nat.le_trans qX.out.size ba3.size);have HL3:=aa (fun x (e:(show Value from vb2).ownBlock=some x)=>(sL.out.lt x e).2);have HS3:=aa (Stp.bel (B:=w.heap.size) (v:=vb2) ba3 qX.out.size);clear hoa3 ba3 z3 xI
 go_wp2_with (at_builtin;refine bq (Z:=fun x=>wb2.heap.size<=x) rfl (.tmp 24) (.tmp 28) 46 rfl Tryd.underlying46 rfl rfl tV.out nn.out (fun x hx e=>by have:=HL3.out x e;omega) (by omega) wC.out ?_)
 intro vb3 wb3 sb sb3;obtain ⟨X4,xX⟩:=ab (X3++Q3);have hx4:X4.length<=13:=by rw [xX,List.length_append];omega
 rw [<-xX] at sb m9;have tH:=aa (HS3.out.trans sb3);have tj:=aa (tH.out.has tn.out HN2c.out);have HO3b:=aa sb;have sH:=aa (qX.out.trans tH.out.1);have ru:=aa tj.out.1;have HN3c:=aa tj.out.2;clear xX sb sb3 tV nn wC HL3 HS3 tH tj sL tn qX HN2c;have p5:=ru.out.cell 5 _ rfl;have p6:=ru.out.cell 6 _ rfl;obtain ⟨P1,sA⟩ : ∃ P1:Int,P1=if pd=true then 1 else 0:=⟨_,rfl⟩;have o8:=aa sA;have pQ:=aa (show FL=P1+(if au=true then 2 else 0) from by rw [oR.out,sA]);clear sA oR
 go_upto_if 32 with (fail)
 go_cut [4] from 32 to 34 (fun kv wx=>kv=.int .u8 P1/\wx=wb3)
 case first =>
  have e:=o8.out
  cases pd with
  |true =>
   rw [if_pos rfl] at e;subst e;clear o8 pQ;go_wp2;go_meet
   case rel=>exact ⟨by first | rfl | go_num,rfl⟩
  |false =>
   rw [if_neg (by decide)] at e;subst e;clear o8 pQ;go_wp2;go_meet
   case rel=>exact ⟨by first | rfl | go_num,rfl⟩
 case rest =>
  obtain ⟨rfl,rfl⟩:=hcut;obtain ⟨wq,oe⟩:=ab (wc);subst oe;clear p5;have oS:0<=P1/\P1<=1:=by rw [o8.out];split <;> omega
  go_upto_if 36 with (fail)
  go_cut [4] from 36 to 38 (fun kv wx=>kv=.int .u8 FL/\wx=wq)
  case first =>
   have e:=pQ.out
   cases au with
   |true =>
    rw [if_pos rfl] at e;have hm:(P1+2) % 256=FL:=by omega
    clear e o8 pQ;go_wp2;go_meet
    case rel=>exact ⟨by first | rfl | go_num | (rw [hm]),rfl⟩
   |false =>
    rw [if_neg (by decide),Int.add_zero] at e;subst e;clear o8 pQ;go_wp2;go_meet
    case rel=>exact ⟨by first | rfl | go_num,rfl⟩
  case rest =>
   obtain ⟨rfl,rfl⟩:=hcut;obtain ⟨wk,pn⟩:=ab (wc);subst pn;clear p6 o8 pQ oS;have ta:=sH.out.size
   go_wp2_with (at_builtin;refine dJ rfl (.tmp 39) (.tmp 41) 46 rfl Tryd.underlying46 FL rfl rfl HO3b.out (by omega) ta ?_)
   intro v7 w7 ur s7;obtain ⟨HD,tC⟩:=ab (X4++[FL]);have hhd:HD.length<=14:=by rw [tC,List.length_append,List.length_singleton];omega
   rw [<-tC] at ur m9;have HO7:=aa ur;have wK:=aa (s7.has ru.out HN3c.out);have qC:=aa (sH.out.trans s7.1);clear ur s7 tC ta HO3b ru sH HN3c;go_wp2
   go_loopw [3,5] (fun bv iv wr=>∃ i:Nat,i<=nl/\iv=.int .i64 (i:Int)/\Hid (BOwn wr w.heap.size bv (HD++(Ls.take i).flatMap lnB)/\Below w.heap.size w wr/\Has wr gp [.int .i64 (nvw:Int),.int .i64 (nvh:Int),.slice lo nl lc,.int .i64 (nr:Int),.int .i64 (nc:Int),.bool pd,.bool au] 44/\bv.ownBlock≠some gp)) (fun _ iv _=>nl - (intOf iv).toNat)
   case atStart=>exact ⟨0,Nat.zero_le _,rfl,aa ⟨by rw [List.take_zero,List.flatMap_nil,List.append_nil];exact HO7.out,qC.out,wK.out.1,wK.out.2⟩⟩
   case round =>
    clear HO7 qC wK;obtain ⟨i,hi,rfl,HI⟩:=hrel;obtain ⟨wi,vA⟩:=ab (wr);subst vA;have q2:=HI.out.2.2.1.cell 2 _ rfl
    by_cases mS:i<nl
    ·have d1:(i:Int)<(nl:Int):=by omega
     have d1b:decide ((i:Int)<(nl:Int))=true:=ag (by omega);have oV:i<Ls.length:=by rw [<-rS.out];exact mS
     obtain ⟨b,off,tv,e0,hb,_,c0,c1,hh⟩:=(aP sm.out).2.2 i oV;subst e0;have px:=ot.out.2.2.2.2.2.2.2.2.2 i oV;have sx:=ot.out.2.1;obtain ⟨⟨C,g⟩,sU⟩ : ∃ y,y=Ls.getD i zl:=⟨_,rfl⟩;rw [<-sU] at c1 hh px;simp only at c1 hh px;have vK:=aa HI.out.2.1;have c1:=(vK.out.cell (p:=⟨b,off+i * 2+1,none⟩) hb).trans c1;obtain ⟨G1,pe⟩ : ∃ G1:Int,G1=if g=true then 1 else 0:=⟨_,rfl⟩;have oL:=aa pe;obtain ⟨YI,rm⟩:=ab (HD++(Ls.take i).flatMap lnB);have HOI:=aa (show BOwn wi w.heap.size u3 YI from by rw [rm];exact HI.out.1);have hyi:YI.length<=80000000:=by
      rw [rm,List.length_append];have h1:=tA.out i (by omega);have h2:i * 71681<=1024 * 71681:=Nat.mul_le_mul_right _ (by omega);omega
     have uT:=aa (show (YI++[G1])++aF C=HD++(Ls.take (i+1)).flatMap lnB from by
      rw [rm,List.take_succ_eq_append_getElem oV,List.flatMap_append,List.flatMap_singleton,show Ls[i]=Ls.getD i zl from by simp [List.getD,List.getElem?_eq_getElem oV],<-sU,pe];unfold lnB
      simp)
     have qz:=aa (dh px.2);have nw:C.length<=1024:=by omega
     have HHC:=aa hh;have xb:=aa (And.intro HI.out.2.2.1 HI.out.2.2.2);have hic:i<lc:=by omega
     have r7:=aa (And.intro hb c0);clear sU hh rm pe px sx HI hb c0
     go_upto_if 55 with (fail)
     go_cut [6] from 55 to 55 (fun kv wx=>kv=.int .u8 G1/\wx=wi)
     case first =>
      have e:=oL.out
      cases g with
      |true =>
       rw [if_pos rfl] at e;subst e;clear oL;go_wp2;go_meet
       case rel=>exact ⟨rfl,rfl⟩
      |false =>
       rw [if_neg (by decide)] at e;subst e;clear oL;go_wp2;go_meet
       case rel=>exact ⟨rfl,rfl⟩
     case rest =>
      obtain ⟨rfl,rfl⟩:=hcut;obtain ⟨wl,hwl⟩:=ab (wc);subst hwl;clear c1 q2 oL;have hszl:=vK.out.size
      go_wp2_with (at_builtin;refine dJ rfl (.tmp 56) (.tmp 58) 46 rfl Tryd.underlying46 G1 rfl rfl HOI.out (by omega) hszl ?_)
      intro v4 w4 mY s4;have us:=aa (s4.has xb.out.1 xb.out.2);have mu:=aa (vK.out.trans s4.1);have oY:=aa mY;have q2:=us.out.1.cell 2 _ rfl;have c0:=(mu.out.cell (p:=⟨b,off+i * 2,none⟩) r7.out.1).trans r7.out.2;have sO:=aa (j1 (fun b=>b<w.heap.size) tv C w4 (by omega) qz.out (HHC.out.below mu.out));clear mY s4 HOI vK xb hszl
      go_wp2_with fail
      refine sO.out.mono ?_;rintro e w5 ⟨v5,rfl,nj,b5⟩;have th:=bV C.length C (Nat.le_refl _) (by omega) qz.out;obtain ⟨RC,hRC⟩:=ab (aF C);rw [<-hRC] at nj th uT;obtain ⟨ZI,yf⟩:=ab (YI++[G1]);have hzi:ZI.length<=80000001:=by rw [yf,List.length_append,List.length_singleton];omega
      rw [<-yf] at oY uT;have qO:=aa (oY.out.below b5);have uj:=aa (nj.held (Z:=fun x=>w4.heap.size<=x) (fun x h _=>h));have vB:=aa (fun x (e:v4.ownBlock=some x)=>(oY.out.lt x e).2);have rc:=aa (Stp.bel (B:=w.heap.size) (v:=v4) b5 mu.out.size);have HZ5:=aa (Nat.le_trans mu.out.size b5.size);clear nj b5 q2 c0 hRC yf sO
      go_wp2_with (at_builtin;refine bq (Z:=fun x=>w4.heap.size<=x) rfl (.tmp 60) (.tmp 67) 46 rfl Tryd.underlying46 rfl rfl qO.out uj.out (fun x hx e=>by have:=vB.out x e;omega) (by omega) HZ5.out ?_)
      intro v6 w6 pD s6;have HS6:=aa (rc.out.trans s6);have tM:=aa (HS6.out.has us.out.1 us.out.2);have HF:=aa (show BOwn w6 w.heap.size v6 (HD++(Ls.take (i+1)).flatMap lnB)/\Below w.heap.size w w6/\Has w6 gp [.int .i64 (nvw:Int),.int .i64 (nvh:Int),.slice (some ⟨b,off,none⟩) nl lc,.int .i64 (nr:Int),.int .i64 (nc:Int),.bool pd,.bool au] 44/\v6.ownBlock≠some gp from ⟨by rw [<-uT.out];exact pD,mu.out.trans HS6.out.1,tM.out.1,tM.out.2⟩);clear pD s6;go_wp2
      go_roundw
      case rel=>exact ⟨i+1,by omega,by go_num,HF⟩
      case measure=>simp [intOf] <;> omega
    ·obtain rfl:i=nl:=by omega
     have d1:¬ (i:Int)<(i:Int):=by omega
     have d1b:decide ((i:Int)<(i:Int))=false:=ah (by omega);have HF:=aa (show BOwn wi w.heap.size u3 PV/\Below w.heap.size w wi from ⟨by
      have h:=HI.out.1;rw [rS.out,List.take_length,<-m9.out] at h;exact h,HI.out.2.1⟩)
     clear mS HI;go_wp2;go_ret;exact ⟨_,rfl,HF.out.1,HF.out.2⟩
end Go.Proofs.YtechjomepdahiaaDoor
