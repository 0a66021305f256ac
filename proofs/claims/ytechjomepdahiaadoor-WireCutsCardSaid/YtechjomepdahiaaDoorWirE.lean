import Derived.Test.YtechjomepdahiaaDoorZ0
import Derived.Test.YtechjomepdahiaaDoorWirD
set_option maxRecDepth 100000
set_option linter.unusedVariables false
set_option linter.unusedSimpArgs false
set_option maxHeartbeats 4000000
namespace Go.Proofs.YtechjomepdahiaaDoor
open Go.RowKit Go.ChangeShapes Go.WideShapes
theorem iD(v:Vw)(lv:Value)(w:World)(hv:ViewAt w v lv)(hr:ax v=true):Calls Tryd.prog 23 #[bo v lv] w (iH w (aL v)):=by
 obtain ⟨W1,hW1⟩:=ab (w.alloc (.cells (ch v lv).toArray 44));have hb1:Below w.heap.size w W1:=by rw [hW1];exact lD _ _
 have lF:Has W1 w.heap.size (ch v lv) 44:=by rw [hW1];exact Has.new w _ _
 have nD:=aa (dP hr);have sI:=aa hv.1.lower;obtain ⟨lo,lc,elv⟩:=hv.1.len;subst elv;have hlc:=(aU hv.1).2.1;have my:=aa (show aL v=((((([76]++az v.w.toNat)++az v.h.toNat)++az v.r.toNat)++az v.c.toNat)++[bN v])++v.L.flatMap lnB from by unfold aL;simp);have od:=aa (show bN v=(if v.pd=true then 1 else 0)+(if v.au=true then 2 else 0) from rfl);obtain ⟨vw,vh,Ls,r,c,pd,au⟩:=v;obtain ⟨FL,ux⟩:=ab (bN ⟨vw,vh,Ls,r,c,pd,au⟩);rw [<-ux] at my od;simp only at my od nD sI hlc;obtain ⟨PV,tK⟩:=ab (aL ⟨vw,vh,Ls,r,c,pd,au⟩);rw [<-tK] at my ⊢;have l5:=aa (show w.alloc (.cells #[Value.int .i64 vw,.int .i64 vh,.slice lo Ls.length lc,.int .i64 r,.int .i64 c,.bool pd,.bool au] 44)=W1 from by rw [hW1];rfl);unfold bo;unfold ch at lF;simp only at lF hlc ⊢;obtain ⟨nl,l9⟩:=ab (Ls.length);have rc:=aa l9;rw [<-l9] at lF l5 sI hlc ⊢;obtain ⟨gp,m3⟩:=ab (w.heap.size);have pl:=aa m3;rw [<-m3] at lF;have mG:=aa lF;have mq:=aa hb1;have rM:=aa (fJ Ls (fun i hi=>⟨(nD.out.2.2.2.2.2.2.2.2.2 i hi).2,by have:=(nD.out.2.2.2.2.2.2.2.2.2 i hi).1;have:=nD.out.2.1;omega⟩));have hnl1:nl<=1024:=by have:=nD.out;rw [rc.out];omega
 have qI:=aa (show vw=((vw.toNat:Nat):Int)/\vw.toNat<2097152 from by have:=nD.out;omega);have qH:=aa (show vh=((vh.toNat:Nat):Int)/\vh.toNat<2097152 from by have:=nD.out;omega);have vB:=aa (show r=((r.toNat:Nat):Int)/\r.toNat<2097152 from by have:=nD.out;omega);have vb:=aa (show c=((c.toNat:Nat):Int)/\c.toNat<2097152 from by have:=nD.out;omega);clear hW1 hb1 m3 hv hr tK ux l9 lF;obtain ⟨nvw,hnvw⟩:=ab (vw.toNat);rw [<-hnvw] at qI my;obtain rfl:vw=(nvw:Int):=qI.out.1;have hlvw:=qI.out.2;clear hnvw qI;obtain ⟨nvh,hnvh⟩:=ab (vh.toNat);rw [<-hnvh] at qH my;obtain rfl:vh=(nvh:Int):=qH.out.1;have hlvh:=qH.out.2;clear hnvh qH;obtain ⟨nr,p7⟩:=ab (r.toNat);rw [<-p7] at vB my;obtain rfl:r=(nr:Int):=vB.out.1;have hlr:=vB.out.2;clear p7 vB;obtain ⟨nc,tS⟩:=ab (c.toNat);rw [<-tS] at vb my;obtain rfl:c=(nc:Int):=vb.out.1;have hlc:=vb.out.2;clear tS vb;obtain ⟨W3,hW3⟩:=ab (W1.alloc (.cells [Value.int .u8 76].toArray 5));have hb3:Below W1.heap.size W1 W3:=by rw [hW3];exact lD _ _
 have ot:=BOwn.one W1 w.heap.size 76 mq.out.size;rw [<-hW3] at ot;have vo:=aa (show W1.alloc (.cells #[Value.int .u8 76] 5)=W3 from by rw [hW3]);obtain ⟨g3,hg3⟩:=ab (W1.heap.size);have xB:=aa hg3;rw [<-hg3] at ot;have py:=aa ot;have o8:=aa (mG.out.below hb3 mG.out.lt);have mv:=aa (mq.out.trans (hb3.mono mq.out.size));have HNV3:=aa ((fK g3 1 1 gp).2 (by have:=mG.out.lt;omega));obtain ⟨X0,wm⟩:=ab (([76]:List Int));have hx0:X0.length<=1:=by rw [wm];simp
 rw [<-wm] at py my;clear hW3 hb3 ot hg3 wm mG
 go_enter Tryd.func23,Tryd.ntmps23
 go_upto_region 1 with (fail)
 rw [l5.out,<-pl.out]
 go_upto_region 2 with (fail)
 rw [vo.out,<-xB.out];have z0:=o8.out.cell 0 _ rfl;have wQ:=aa (ct nvw hlvw W3);have hq0:=(aC hlvw).2;obtain ⟨Q0,hQ0⟩:=ab (az nvw);rw [<-hQ0] at wQ my hq0;clear hQ0
 go_wp2_with fail
 refine wQ.out.mono ?_;rintro e wa0 ⟨va0,rfl,hoa0,ba0⟩;have HA0:=aa (py.out.below ba0);have oE:=aa (hoa0.held (Z:=fun x=>W3.heap.size<=x) (fun x h _=>h));have HZ0:=aa (Nat.le_trans mv.out.size ba0.size);have ra:=aa (fun x (e:(show Value from (.slice (some ⟨g3,0,none⟩) 1 1)).ownBlock=some x)=>(py.out.lt x e).2);have HS0:=aa (Stp.bel (B:=w.heap.size) (v:=(.slice (some ⟨g3,0,none⟩) 1 1)) ba0 mv.out.size);clear hoa0 ba0 z0 wQ
 go_wp2_with (at_builtin;refine a8 (Z:=fun x=>W3.heap.size<=x) rfl (.tmp 8) (.tmp 11) 46 rfl Tryd.underlying46 rfl rfl HA0.out oE.out (fun x hx e=>by have:=ra.out x e;omega) (by omega) HZ0.out ?_)
 intro vb0 wb0 sA sb0;obtain ⟨X1,pu⟩:=ab (X0++Q0);have hx1:X1.length<=4:=by rw [pu,List.length_append];omega
 rw [<-pu] at sA my;have sz:=aa (HS0.out.trans sb0);have rV:=aa (sz.out.has o8.out HNV3.out);have r9:=aa sA;have ql:=aa (mv.out.trans sz.out.1);have rA:=aa rV.out.1;have HN0c:=aa rV.out.2;clear pu sA sb0 HA0 oE HZ0 ra HS0 sz rV py o8 mv HNV3;have z1:=rA.out.cell 1 _ rfl;have rR:=aa (ct nvh hlvh wb0);have p9:=(aC hlvh).2;obtain ⟨Q1,hQ1⟩:=ab (az nvh);rw [<-hQ1] at rR my p9;clear hQ1
 go_wp2_with fail
 refine rR.out.mono ?_;rintro e wa1 ⟨va1,rfl,hoa1,ba1⟩;have s8:=aa (r9.out.below ba1);have uD:=aa (hoa1.held (Z:=fun x=>wb0.heap.size<=x) (fun x h _=>h));have HZ1:=aa (Nat.le_trans ql.out.size ba1.size);have HL1:=aa (fun x (e:(show Value from vb0).ownBlock=some x)=>(r9.out.lt x e).2);have vx:=aa (Stp.bel (B:=w.heap.size) (v:=vb0) ba1 ql.out.size);clear hoa1 ba1 z1 rR
 go_wp2_with (at_builtin;refine a8 (Z:=fun x=>wb0.heap.size<=x) rfl (.tmp 13) (.tmp 16) 46 rfl Tryd.underlying46 rfl rfl s8.out uD.out (fun x hx e=>by have:=HL1.out x e;omega) (by omega) HZ1.out ?_)
 intro vb1 wb1 rx sb1;obtain ⟨X2,vW⟩:=ab (X1++Q1);have hx2:X2.length<=7:=by rw [vW,List.length_append];omega
 rw [<-vW] at rx my;have sJ:=aa (vx.out.trans sb1);have ss:=aa (sJ.out.has rA.out HN0c.out);have rE:=aa rx;have qk:=aa (ql.out.trans sJ.out.1);have sn:=aa ss.out.1;have HN1c:=aa ss.out.2;clear vW rx sb1 s8 uD HZ1 HL1 vx sJ ss r9 rA ql HN0c;have z2:=sn.out.cell 3 _ rfl;have xn:=aa (ct nr hlr wb1);have qY:=(aC hlr).2;obtain ⟨Q2,hQ2⟩:=ab (az nr);rw [<-hQ2] at xn my qY;clear hQ2
 go_wp2_with fail
 refine xn.out.mono ?_;rintro e wa2 ⟨va2,rfl,hoa2,ba2⟩;have pD:=aa (rE.out.below ba2);have pF:=aa (hoa2.held (Z:=fun x=>wb1.heap.size<=x) (fun x h _=>h));have HZ2:=aa (Nat.le_trans qk.out.size ba2.size);have HL2:=aa (fun x (e:(show Value from vb1).ownBlock=some x)=>(rE.out.lt x e).2);have HS2:=aa (Stp.bel (B:=w.heap.size) (v:=vb1) ba2 qk.out.size);clear hoa2 ba2 z2 xn
 go_wp2_with (at_builtin;refine a8 (Z:=fun x=>wb1.heap.size<=x) rfl (.tmp 18) (.tmp 22) 46 rfl Tryd.underlying46 rfl rfl pD.out pF.out (fun x hx e=>by have:=HL2.out x e;omega) (by omega) HZ2.out ?_)
 intro vb2 wb2 rB sb2;obtain ⟨X3,wa⟩:=ab (X2++Q2);have hx3:X3.length<=10:=by rw [wa,List.length_append];omega
 rw [<-wa] at rB my;have rz:=aa (HS2.out.trans sb2);have sj:=aa (rz.out.has sn.out HN1c.out);have sg:=aa rB;have qj:=aa (qk.out.trans rz.out.1);have sB:=aa sj.out.1;have HN2c:=aa sj.out.2;clear wa rB sb2 pD pF HZ2 HL2 HS2 rz sj rE sn qk HN1c;have z3:=sB.out.cell 4 _ rfl;have wD:=aa (ct nc hlc wb2);have hq3:=(aC hlc).2;obtain ⟨Q3,hQ3⟩:=ab (az nc);rw [<-hQ3] at wD my hq3;clear hQ3
 go_wp2_with fail
 refine wD.out.mono ?_;rintro e wa3 ⟨va3,rfl,hoa3,ba3⟩;have s9:=aa (sg.out.below ba3);have nz:=aa (hoa3.held (Z:=fun x=>wb2.heap.size<=x) (fun x h _=>h));have uX:=aa (Nat.le_trans qj.out.size ba3.size);have HL3:=aa (fun x (e:(show Value from vb2).ownBlock=some x)=>(sg.out.lt x e).2);have HS3:=aa (Stp.bel (B:=w.heap.size) (v:=vb2) ba3 qj.out.size);clear hoa3 ba3 z3 wD
 go_wp2_with (at_builtin;refine a8 (Z:=fun x=>wb2.heap.size<=x) rfl (.tmp 24) (.tmp 28) 46 rfl Tryd.underlying46 rfl rfl s9.out nz.out (fun x hx e=>by have:=HL3.out x e;omega) (by omega) uX.out ?_)
 intro vb3 wb3 rW sb3;obtain ⟨X4,wS⟩:=ab (X3++Q3);have hx4:X4.length<=13:=by rw [wS,List.length_append];omega
 rw [<-wS] at rW my;have sC:=aa (HS3.out.trans sb3);have sw:=aa (sC.out.has sB.out HN2c.out);have HO3b:=aa rW;have rC:=aa (qj.out.trans sC.out.1);have qw:=aa sw.out.1;have HN3c:=aa sw.out.2;clear wS rW sb3 s9 nz uX HL3 HS3 sC sw sg sB qj HN2c;have p5:=qw.out.cell 5 _ rfl;have p6:=qw.out.cell 6 _ rfl;obtain ⟨P1,sq⟩ : ∃ P1:Int,P1=if pd=true then 1 else 0:=⟨_,rfl⟩;have oW:=aa sq;have pb:=aa (show FL=P1+(if au=true then 2 else 0) from by rw [od.out,sq]);clear sq od
 go_upto_if 32 with (fail)
 go_cut [4] from 32 to 34 (fun kv wx=>kv=.int .u8 P1/\wx=wb3)
 case first =>
  have e:=oW.out
  cases pd with
  |true =>
   rw [if_pos rfl] at e;subst e;clear oW pb;go_wp2;go_meet
   case rel=>exact ⟨by first | rfl | go_num,rfl⟩
  |false =>
   rw [if_neg (by decide)] at e;subst e;clear oW pb;go_wp2;go_meet
   case rel=>exact ⟨by first | rfl | go_num,rfl⟩
 case rest =>
  obtain ⟨rfl,rfl⟩:=hcut;obtain ⟨wq,ns⟩:=ab (wc);subst ns;clear p5;have nJ:0<=P1/\P1<=1:=by rw [oW.out];split <;> omega
  go_upto_if 36 with (fail)
  go_cut [4] from 36 to 38 (fun kv wx=>kv=.int .u8 FL/\wx=wq)
  case first =>
   have e:=pb.out
   cases au with
   |true =>
    rw [if_pos rfl] at e;have hm:(P1+2) % 256=FL:=by omega
    clear e oW pb;go_wp2;go_meet
    case rel=>exact ⟨by first | rfl | go_num | (rw [hm]),rfl⟩
   |false =>
    rw [if_neg (by decide),Int.add_zero] at e;subst e;clear oW pb;go_wp2;go_meet
    case rel=>exact ⟨by first | rfl | go_num,rfl⟩
  case rest =>
   obtain ⟨rfl,rfl⟩:=hcut;obtain ⟨wk,pL⟩:=ab (wc);subst pL;clear p6 oW pb nJ;have rY:=rC.out.size
   go_wp2_with (at_builtin;refine dc rfl (.tmp 39) (.tmp 41) 46 rfl Tryd.underlying46 FL rfl rfl HO3b.out (by omega) rY ?_)
   intro v7 w7 sP s7;obtain ⟨HD,rI⟩:=ab (X4++[FL]);have hhd:HD.length<=14:=by rw [rI,List.length_append,List.length_singleton];omega
   rw [<-rI] at sP my;have tm:=aa sP;have xu:=aa (s7.has qw.out HN3c.out);have qN:=aa (rC.out.trans s7.1);clear sP s7 rI rY HO3b qw rC HN3c;go_wp2
   go_loopw [3,5] (fun bv iv wr=>∃ i:Nat,i<=nl/\iv=.int .i64 (i:Int)/\Hid (BOwn wr w.heap.size bv (HD++(Ls.take i).flatMap lnB)/\Below w.heap.size w wr/\Has wr gp [.int .i64 (nvw:Int),.int .i64 (nvh:Int),.slice lo nl lc,.int .i64 (nr:Int),.int .i64 (nc:Int),.bool pd,.bool au] 44/\bv.ownBlock≠some gp)) (fun _ iv _=>nl - (intOf iv).toNat)
   case atStart=>exact ⟨0,Nat.zero_le _,rfl,aa ⟨by rw [List.take_zero,List.flatMap_nil,List.append_nil];exact tm.out,qN.out,xu.out.1,xu.out.2⟩⟩
   case round =>
    clear tm qN xu;obtain ⟨i,hi,rfl,HI⟩:=hrel;obtain ⟨wi,ul⟩:=ab (wr);subst ul;have q2:=HI.out.2.2.1.cell 2 _ rfl
    by_cases mo:i<nl
    ·have d1:(i:Int)<(nl:Int):=by omega
     have d1b:decide ((i:Int)<(nl:Int))=true:=ag (by omega);have om:i<Ls.length:=by rw [<-rc.out];exact mo
     obtain ⟨b,off,tv,e0,hb,_,c0,c1,hh⟩:=(aU sI.out).2.2 i om;subst e0;have oQ:=nD.out.2.2.2.2.2.2.2.2.2 i om;have rt:=nD.out.2.1;obtain ⟨⟨C,g⟩,r6⟩ : ∃ y,y=Ls.getD i zl:=⟨_,rfl⟩;rw [<-r6] at c1 hh oQ;simp only at c1 hh oQ;have uV:=aa HI.out.2.1;have c1:=(uV.out.cell (p:=⟨b,off+i * 2+1,none⟩) hb).trans c1;obtain ⟨G1,oR⟩ : ∃ G1:Int,G1=if g=true then 1 else 0:=⟨_,rfl⟩;have nK:=aa oR;obtain ⟨YI,qf⟩:=ab (HD++(Ls.take i).flatMap lnB);have HOI:=aa (show BOwn wi w.heap.size u3 YI from by rw [qf];exact HI.out.1);have hyi:YI.length<=80000000:=by
      rw [qf,List.length_append];have h1:=rM.out i (by omega);have h2:i * 71681<=1024 * 71681:=Nat.mul_le_mul_right _ (by omega);omega
     have ud:=aa (show (YI++[G1])++aE C=HD++(Ls.take (i+1)).flatMap lnB from by
      rw [qf,List.take_succ_eq_append_getElem om,List.flatMap_append,List.flatMap_singleton,show Ls[i]=Ls.getD i zl from by simp [List.getD,List.getElem?_eq_getElem om],<-r6,oR];unfold lnB
      simp)
     have pp:=aa (db oQ.2);have mL:C.length<=1024:=by omega
     have HHC:=aa hh;have wK:=aa (And.intro HI.out.2.2.1 HI.out.2.2.2);have hic:i<lc:=by omega
     have re:=aa (And.intro hb c0);clear r6 hh qf oR oQ rt HI hb c0
     go_upto_if 55 with (fail)
     go_cut [6] from 55 to 55 (fun kv wx=>kv=.int .u8 G1/\wx=wi)
     case first =>
      have e:=nK.out
      cases g with
      |true =>
       rw [if_pos rfl] at e;subst e;clear nK;go_wp2;go_meet
       case rel=>exact ⟨rfl,rfl⟩
      |false =>
       rw [if_neg (by decide)] at e;subst e;clear nK;go_wp2;go_meet
       case rel=>exact ⟨rfl,rfl⟩
     case rest =>
      obtain ⟨rfl,rfl⟩:=hcut;obtain ⟨wl,hwl⟩:=ab (wc);subst hwl;clear c1 q2 nK;have hszl:=uV.out.size
      go_wp2_with (at_builtin;refine dc rfl (.tmp 56) (.tmp 58) 46 rfl Tryd.underlying46 G1 rfl rfl HOI.out (by omega) hszl ?_)
      intro v4 w4 me s4;have tD:=aa (s4.has wK.out.1 wK.out.2);have lW:=aa (uV.out.trans s4.1);have oo:=aa me;have q2:=tD.out.1.cell 2 _ rfl;have c0:=(lW.out.cell (p:=⟨b,off+i * 2,none⟩) re.out.1).trans re.out.2;have su:=aa (jB (fun b=>b<w.heap.size) tv C w4 (by omega) pp.out (HHC.out.below lW.out));clear me s4 HOI uV wK hszl
      go_wp2_with fail
      refine su.out.mono ?_;rintro e w5 ⟨v5,rfl,mE,b5⟩;have rZ:=bT C.length C (Nat.le_refl _) (by omega) pp.out;obtain ⟨RC,hRC⟩:=ab (aE C);rw [<-hRC] at mE rZ ud;obtain ⟨ZI,wT⟩:=ab (YI++[G1]);have hzi:ZI.length<=80000001:=by rw [wT,List.length_append,List.length_singleton];omega
      rw [<-wT] at oo ud;have pV:=aa (oo.out.below b5);have tA:=aa (mE.held (Z:=fun x=>w4.heap.size<=x) (fun x h _=>h));have uB:=aa (fun x (e:v4.ownBlock=some x)=>(oo.out.lt x e).2);have qy:=aa (Stp.bel (B:=w.heap.size) (v:=v4) b5 lW.out.size);have HZ5:=aa (Nat.le_trans lW.out.size b5.size);clear mE b5 q2 c0 hRC wT su
      go_wp2_with (at_builtin;refine a8 (Z:=fun x=>w4.heap.size<=x) rfl (.tmp 60) (.tmp 67) 46 rfl Tryd.underlying46 rfl rfl pV.out tA.out (fun x hx e=>by have:=uB.out x e;omega) (by omega) HZ5.out ?_)
      intro v6 w6 o5 s6;have HS6:=aa (qy.out.trans s6);have sN:=aa (HS6.out.has tD.out.1 tD.out.2);have HF:=aa (show BOwn w6 w.heap.size v6 (HD++(Ls.take (i+1)).flatMap lnB)/\Below w.heap.size w w6/\Has w6 gp [.int .i64 (nvw:Int),.int .i64 (nvh:Int),.slice (some ⟨b,off,none⟩) nl lc,.int .i64 (nr:Int),.int .i64 (nc:Int),.bool pd,.bool au] 44/\v6.ownBlock≠some gp from ⟨by rw [<-ud.out];exact o5,lW.out.trans HS6.out.1,sN.out.1,sN.out.2⟩);clear o5 s6;go_wp2
      go_roundw
      case rel=>exact ⟨i+1,by omega,by go_num,HF⟩
      case measure=>simp [intOf] <;> omega
    ·obtain rfl:i=nl:=by omega
     have d1:¬ (i:Int)<(i:Int):=by omega
     have d1b:decide ((i:Int)<(i:Int))=false:=ah (by omega);have HF:=aa (show BOwn wi w.heap.size u3 PV/\Below w.heap.size w wi from ⟨by
      have h:=HI.out.1;rw [rc.out,List.take_length,<-my.out] at h;exact h,HI.out.2.1⟩)
     clear mo HI;go_wp2;go_ret;exact ⟨_,rfl,HF.out.1,HF.out.2⟩
end Go.Proofs.YtechjomepdahiaaDoor
