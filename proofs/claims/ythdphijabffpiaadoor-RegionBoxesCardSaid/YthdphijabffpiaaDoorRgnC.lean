import Derived.Test.YthdphijabffpiaaDoorZ0
import Derived.Test.YthdphijabffpiaaDoorMg6
import Derived.Test.YthdphijabffpiaaDoorMg3
import Derived.Lib.MinMax
import Derived.Deep.Cut
set_option maxRecDepth 100000
set_option linter.unusedVariables false
set_option linter.unusedSimpArgs false
set_option maxHeartbeats 3000000
namespace Go.Proofs.YthdphijabffpiaaDoor
open Go.RowKit Go.ChangeShapes Go.WideShapes
theorem dm(sa:Nat->Addr)(v:Vw)(lv:Value)(a0 a1 b0 b1:Int)(w:World)(hs:Five w sa)(hv:ViewAt w v lv):Calls Tryd.prog 35 #[aK v lv,.agg #[.int .i64 a0,.int .i64 a1],.agg #[.int .i64 b0,.int .i64 b1]] w (dU (aA .i32) (fun _=>True) 21 w (cw v a0 a1 b0 b1)):=by
 have hl0:=hv.1.max;have ja:=aa (fun (w':World) (b:Below w.heap.size w w')=>cd sa v lv w' (hs.below b) (hv.below b));have jl:=aa hv;have mq:=aa (fun (h:aB v=true)=>cE h);have iX:=aa (fun (h0:1<=v.w) (h1:v.w<=1024) (h2:1<=v.h) (h3:v.h<=1024) (w':World)=>bU v lv a0 a1 w' h0 h1 h2 h3);have jO:=aa (fun (h0:1<=v.w) (h1:v.w<=1024) (h2:1<=v.h) (h3:v.h<=1024) (w':World)=>bU v lv b0 b1 w' h0 h1 h2 h3);obtain ⟨vv,ir⟩:=ab (v);have lL:=aa (show aB vv=aB v from by rw [ir]);rw [<-ir] at mq jl ⊢;obtain ⟨vw,vh,Ls,r,c,pd,au⟩:=v;simp only at iX jO hl0;have ml:aK vv lv=.agg #[.int .i64 vw,.int .i64 vh,lv,.int .i64 r,.int .i64 c,.bool pd,.bool au]:=by rw [ir];rfl
 have ln:vv.L=Ls:=by rw [ir]
 have l5:vv.w=vw:=by rw [ir]
 have lZ:vv.h=vh:=by rw [ir]
 have lC:=aa ln;rw [ml];rw [show ∀ x,aK ⟨vw,vh,Ls,r,c,pd,au⟩ x=.agg #[.int .i64 vw,.int .i64 vh,x,.int .i64 r,.int .i64 c,.bool pd,.bool au] from fun _=>rfl] at ja iX jO;obtain ⟨Wa,gM⟩:=ab (w.alloc (.cells ([.int .i64 vw,.int .i64 vh,lv,.int .i64 r,.int .i64 c,.bool pd,.bool au]:List Value).toArray 26));obtain ⟨Wb,gN⟩:=ab (Wa.alloc (.cells [Value.int .i64 a0,.int .i64 a1].toArray 64));obtain ⟨Wc,ix⟩:=ab (Wb.alloc (.cells [Value.int .i64 b0,.int .i64 b1].toArray 64));have ba:Below w.heap.size w Wa:=by rw [gM];exact af _ _
 have bb:Below Wa.heap.size Wa Wb:=by rw [gN];exact af _ _
 have bc:Below Wb.heap.size Wb Wc:=by rw [ix];exact af _ _
 have sa':Wa.heap.size=w.heap.size+1:=by rw [gM];exact Array.size_push _
 have sb:Wb.heap.size=w.heap.size+2:=by rw [gN,<-Nat.add_assoc w.heap.size 1 1,<-sa'];exact Array.size_push _
 have gva:Has Wa w.heap.size [.int .i64 vw,.int .i64 vh,lv,.int .i64 r,.int .i64 c,.bool pd,.bool au] 26:=by rw [gM];exact Has.new w _ _
 have gaa:Has Wb Wa.heap.size [.int .i64 a0,.int .i64 a1] 64:=by rw [gN];exact Has.new Wa _ _
 have gba:Has Wc Wb.heap.size [.int .i64 b0,.int .i64 b1] 64:=by rw [ix];exact Has.new Wb _ _
 have gva:=Has.below (Has.below gva bb gva.lt) bc (Has.below gva bb gva.lt).lt;have gaa:=Has.below gaa bc gaa.lt;have HB:=aa (ba.trans ((bb.mono ba.size).trans (bc.mono (Nat.le_trans ba.size bb.size))));rw [sa'] at gaa;rw [sb] at gba;obtain ⟨ga,jY⟩:=ab (w.heap.size+1);obtain ⟨gb,hgb⟩:=ab (w.heap.size+2);rw [<-jY] at gaa;rw [<-hgb] at gba;have iu:=aa jY;have iq:=aa hgb;have HV:=aa gva;have HA:=aa gaa;have HD:=aa gba;have q0:=gva.cell 0 _ rfl;have q1:=gva.cell 1 _ rfl;have q2:=gva.cell 2 _ rfl;have q3:=gva.cell 3 _ rfl;have q4:=gva.cell 4 _ rfl;have q5:=gva.cell 5 _ rfl;have q6:=gva.cell 6 _ rfl;have iP:=aa (show ((w.alloc (.cells #[.int .i64 vw,.int .i64 vh,lv,.int .i64 r,.int .i64 c,.bool pd,.bool au] 26)).alloc (.cells #[Value.int .i64 a0,.int .i64 a1] 64)).alloc (.cells #[Value.int .i64 b0,.int .i64 b1] 64)=Wc from by rw [ix,gN,gM]);clear gM gN ix gva gaa gba ba bb bc sa' sb jY hgb hs hv
 cases hR:aB vv with
 |false =>
  have HT:=aa (show cw vv a0 a1 b0 b1=[] from by unfold cw;rw [if_neg (by rw [hR];decide)]);rw [<-lL.out,hR] at ja;clear ir ml ln l5 lZ hR
  go_enter Tryd.func35,Tryd.ntmps35
  go_upto_region 1 with (fail)
  rw [iP.out];rw [show w.heap.size+1+1=gb from by have:=iq.out;omega,<-iu.out]
  go_wp2_with fail
  refine (ja.out _ HB.out).mono ?_;rintro e w1 ⟨rfl,b1⟩;have HF:=aa (HB.out.trans (b1.mono HB.out.size));clear b1;go_wp2;go_ret;exact ⟨_,rfl,by rw [HT.out];exact OwnE.nil _ _ _ _ _,HF.out⟩
 |true =>
  obtain ⟨W,H,hn⟩:=mq.out hR;have ls:=hn.w1;have hw2:=hn.w2;have j7:=hn.h1;have hh2:=hn.h2;obtain ⟨ra,kt,lg⟩:=aI a0 j7;obtain ⟨ca,iL,kF⟩:=aI a1 ls;obtain ⟨rb,kq,lf⟩:=aI b0 j7;obtain ⟨cb,hcb,kD⟩:=aI b1 ls;have ew:vw=(W:Int):=by rw [<-l5];exact hn.wide
  have eh:vh=(H:Int):=by rw [<-lZ];exact hn.high
  have iX:=aa (iX.out (by omega) (by omega) (by omega) (by omega));have jO:=aa (jO.out (by omega) (by omega) (by omega) (by omega));subst ew;subst eh;rw [kt,iL] at iX;rw [kq,hcb] at jO;have hord:∃ r0 c0 r1 c1:Nat,((ltP (rb:Int) cb ra ca=true/\r0=rb/\c0=cb/\r1=ra/\c1=ca)\/(ltP (rb:Int) cb ra ca=false/\r0=ra/\c0=ca/\r1=rb/\c1=cb))/\r0<=r1/\(r0=r1->c0<=c1)/\r1<H/\c0<W/\c1<W/\cw vv a0 a1 b0 b1=bR Ls W r0 c0 r1 c1:=by
   have ht:cw vv a0 a1 b0 b1=if ltP (rb:Int) cb ra ca=true then bR Ls W rb cb ra ca else bR Ls W ra ca rb cb:=by
    unfold cw;rw [if_pos hR,ln,hn.wide,hn.high,kt,iL,kq,hcb]
    simp
   cases hl:ltP (rb:Int) cb ra ca with
   |true =>
    refine ⟨rb,cb,ra,ca,.inl ⟨rfl,rfl,rfl,rfl,rfl⟩,?_,?_,lg,kD,kF,by rw [ht,hl,if_pos rfl]⟩
    all_goals
     unfold ltP at hl;simp only [Bool.or_eq_true,Bool.and_eq_true,decide_eq_true_eq,beq_iff_eq] at hl;omega
   |false =>
    refine ⟨ra,ca,rb,cb,.inr ⟨rfl,rfl,rfl,rfl,rfl⟩,?_,?_,lf,kF,kD,by rw [ht,hl];exact if_neg (by decide)⟩
    all_goals
     unfold ltP at hl;simp only [Bool.or_eq_false_iff,Bool.and_eq_false_iff,decide_eq_false_iff_not,beq_eq_false_iff_ne] at hl;omega
  obtain ⟨r0,c0,r1,c1,nF,hle,hcc,hr1,hc0,hc1,hT⟩:=hord;have HOR:=aa nF;have nw:=aa hcc;have oO:=aa hT;have HN:=aa hn;rw [<-lL.out,hR] at ja;rw [hT];clear ir ml ln l5 lZ hR nF hcc hT hn mq lL kt iL kq hcb
  go_enter Tryd.func35,Tryd.ntmps35
  go_upto_region 1 with (fail)
  rw [iP.out];rw [show w.heap.size+1+1=gb from by have:=iq.out;omega,<-iu.out]
  go_wp2_with fail
  refine (ja.out _ HB.out).mono ?_;rintro e w1 ⟨rfl,b1⟩;have gR:=aa (HV.out.below b1 HV.out.lt);have kc:=aa (HA.out.below b1 HA.out.lt);have kd:=aa (HD.out.below b1 HD.out.lt);have gU:=aa (HB.out.trans (b1.mono HB.out.size));clear b1 q0 q1 q2 q3 q4 q5 q6 HV HA HD HB iP ja
  go_upto_region 3 with (fail)
  obtain ⟨gA,gL⟩ : ∃ CC:Array Bool->World->Prop,CC=fun L8 w'=>Has w' w.heap.size [.int .i64 (W:Int),.int .i64 (H:Int),lv,.int .i64 r,.int .i64 c,.bool pd,.bool au] 26/\(Mix.one L8 6=0->Has w' ga [.int .i64 a0,.int .i64 a1] 64)/\(Mix.one L8 6=1->Has w' ga [.int .i64 ra,.int .i64 ca] 64)/\(Mix.one L8 7=0->Has w' gb [.int .i64 b0,.int .i64 b1] 64)/\(Mix.one L8 7=1->Has w' gb [.int .i64 rb,.int .i64 cb] 64)/\Below w.heap.size w w':=⟨_,rfl⟩
  obtain ⟨iM,hS,ig,gO⟩:=Reg.xT;obtain ⟨iO,gT,gH,gG,gK,gI,gD,gF,gZ,gY⟩:=Reg.e8 iM
   (fun xx _=>xx=.agg #[.int .i64 (W:Int),.int .i64 (H:Int),lv,.int .i64 r,.int .i64 c,.bool pd,.bool au])
   (fun xx _=>xx=.agg #[.int .i64 a0,.int .i64 a1])
   (fun xx _=>xx=.agg #[.int .i64 ra,.int .i64 ca])
   (fun xx _=>xx=.agg #[.int .i64 (W:Int),.int .i64 (H:Int),lv,.int .i64 r,.int .i64 c,.bool pd,.bool au])
   (fun xx _=>xx=.agg #[.int .i64 b0,.int .i64 b1])
   (fun xx _=>xx=.agg #[.int .i64 rb,.int .i64 cb])
   (fun xx _=>xx=undef)
   (fun xx _=>xx=undef)
  have gS:Hid (∀ i L w,(i == 6 || i == 7)=false ->  gA L w->gA (L.setIfInBounds i true) w):=aa (by
   intro i L w q h;simp only [Bool.or_eq_false_iff,beq_eq_false_iff_ne] at q;rw [gL] at h ⊢;simp only [Mix.one_ne q.1,Mix.one_ne q.2];exact h)
  have ip:Hid (∀ L w w1,gA L w->Below w.heap.size w w1->gA L w1):=aa (by
   intro L w w1 h hb;rw [gL] at h ⊢
   (obtain ⟨q1,q2,q3,q4,q5,q6⟩:=h;exact ⟨q1.below hb q1.lt,fun e=>(q2 e).below hb (q2 e).lt,fun e=>(q3 e).below hb (q3 e).lt,fun e=>(q4 e).below hb (q4 e).lt,fun e=>(q5 e).below hb (q5 e).lt,q6.trans (hb.mono q6.size)⟩))
  have iz:=aa (show gA (Array.replicate 8 false) w1.drew from by rw [gL];(have hb:=(Below.refl w1.heap.size w1).drew;exact ⟨gR.out.below hb gR.out.lt,fun _=>kc.out.below hb kc.out.lt,fun e=>absurd e (by decide),fun _=>kd.out.below hb kd.out.lt,fun e=>absurd e (by decide),gU.out.trans (hb.mono gU.out.size)⟩));have gB:=aa (fun (i:Nat) L w v q (h:gA L w) (e:iO i v w)=>Reg.hk (gS.out i L w q h) e (ig.out w));have gy:=aa gL;have gJ:=aa hS;clear gL hS
  go_wp2_with fail
  refine Reg.regionF iO gA iM gT.out (by kernel_rfl) (by kernel_rfl) (by kernel_rfl) iz.out (fun nA gz=>?_);simp only [Reg.frame,Reg.dsts,List.map_cons,List.map_nil,Mix.put_lit,Reg.put_none,List.set_cons_succ,List.set_cons_zero,Nat.zero_add,Nat.reduceAdd] at gz;refine ⟨⟨?_,?_,?_,?_,?_,?_,?_,?_,trivial⟩,?_⟩
  ·intro Lq wq xq hh;simp only [gz];refine Reg.go rfl ?_;have hc:gA Lq wq:=hh.cls;rw [gy.out] at hc;have z0:=hc.1;have y0:=z0.cell 0 _ rfl;have y1:=z0.cell 1 _ rfl;have y2:=z0.cell 2 _ rfl;have y3:=z0.cell 3 _ rfl;have y4:=z0.cell 4 _ rfl;have y5:=z0.cell 5 _ rfl;have y6:=z0.cell 6 _ rfl;clear z0;clear hc;have HK:=gB.out 0 _ _ _ rfl hh.cls ((gH.out _ _).mpr rfl);go_simp;exact HK.out
  ·intro Lq wq xq hh;simp only [gz];refine Reg.go rfl ?_;have hc:gA Lq wq:=hh.cls;rw [gy.out] at hc;have z0:=hc.2.1 (Mix.one_un (hh.notYet 6 (by kernel_rfl)));have y0:=z0.cell 0 _ rfl;have y1:=z0.cell 1 _ rfl;clear z0;clear hc;have HK:=gB.out 1 _ _ _ rfl hh.cls ((gG.out _ _).mpr rfl);go_simp;exact HK.out
  ·intro Lq wq xq hh;simp only [gz,(gH.out _ _).mp (hh.v 0),(gG.out _ _).mp (hh.v 1)];refine Reg.go rfl ?_;unfold Reg.upon;have hc:gA Lq wq:=hh.cls;rw [gy.out] at hc;go_simp;refine (iX.out wq).mono ?_;rintro e w2 ⟨rfl,hb⟩;exact ⟨_,rfl,gS.out 2 Lq w2 rfl  (ip.out Lq wq w2 hh.cls hb),(by rw [gK.out];try rfl),gO.out wq w2 hb⟩
  ·intro Lq wq xq hh;simp only [gz];refine Reg.go rfl ?_;have hc:gA Lq wq:=hh.cls;rw [gy.out] at hc;have z0:=hc.1;have y0:=z0.cell 0 _ rfl;have y1:=z0.cell 1 _ rfl;have y2:=z0.cell 2 _ rfl;have y3:=z0.cell 3 _ rfl;have y4:=z0.cell 4 _ rfl;have y5:=z0.cell 5 _ rfl;have y6:=z0.cell 6 _ rfl;clear z0;clear hc;have HK:=gB.out 3 _ _ _ rfl hh.cls ((gI.out _ _).mpr rfl);go_simp;exact HK.out
  ·intro Lq wq xq hh;simp only [gz];refine Reg.go rfl ?_;have hc:gA Lq wq:=hh.cls;rw [gy.out] at hc;have z0:=hc.2.2.2.1 (Mix.one_un (hh.notYet 7 (by kernel_rfl)));have y0:=z0.cell 0 _ rfl;have y1:=z0.cell 1 _ rfl;clear z0;clear hc;have HK:=gB.out 4 _ _ _ rfl hh.cls ((gD.out _ _).mpr rfl);go_simp;exact HK.out
  ·intro Lq wq xq hh;simp only [gz,(gI.out _ _).mp (hh.v 3),(gD.out _ _).mp (hh.v 4)];refine Reg.go rfl ?_;unfold Reg.upon;have hc:gA Lq wq:=hh.cls;rw [gy.out] at hc;go_simp;refine (jO.out wq).mono ?_;rintro e w2 ⟨rfl,hb⟩;exact ⟨_,rfl,gS.out 5 Lq w2 rfl  (ip.out Lq wq w2 hh.cls hb),(by rw [gF.out];try rfl),gO.out wq w2 hb⟩
  ·intro Lq wq xq hh;simp only [gz,(gK.out _ _).mp (hh.v 2)];refine Reg.go rfl ?_;unfold Reg.upon;have hc:gA Lq wq:=hh.cls;rw [gy.out] at hc;obtain ⟨q1,q2,q3,q4,q5,q6⟩:=hc;have hz:=q2 hh.un;have y0:=hz.cell 0 _ rfl;have y1:=hz.cell 1 _ rfl;have s0:=hz.free 0;have s1:=hz.free 1;have hu:=((Upd.refl (fun x=>x=ga) wq).setCell (p:=⟨ga,0,none⟩) (.inl rfl) (.int .i64 ra)).setCell (p:=⟨ga,1,none⟩) (.inl rfl) (.int .i64 ca);have hF:gA (Lq.setIfInBounds 6 true) ((wq.setCell ⟨ga,0,none⟩ (.int .i64 ra)).setCell ⟨ga,1,none⟩ (.int .i64 ca))/\iO 6 undef ((wq.setCell ⟨ga,0,none⟩ (.int .i64 ra)).setCell ⟨ga,1,none⟩ (.int .i64 ca))/\iM wq ((wq.setCell ⟨ga,0,none⟩ (.int .i64 ra)).setCell ⟨ga,1,none⟩ (.int .i64 ca)):=by
    refine ⟨?_,by rw [gZ.out],by rw [gJ.out];trivial⟩;rw [gy.out];refine ⟨hu.keep.has q1 (fun e=>by have:=iu.out;have:=iq.out;omega),fun e=>?_,fun _=>(hz.set 0 _).set 1 _,fun e=>hu.keep.has (q4 (by rw [Mix.one_ne (by decide)] at e;exact e)) (fun e=>by have:=iu.out;have:=iq.out;omega),fun e=>hu.keep.has (q5 (by rw [Mix.one_ne (by decide)] at e;exact e)) (fun e=>by have:=iu.out;have:=iq.out;omega),q6.trans (hu.below q6.size fun x e=>by have:=iu.out;have:=iq.out;omega)⟩;rw [Mix.one_set (by rw [hh.size];decide)] at e;exact absurd e (by decide)
   clear q1 q2 q3 q4 q5 q6 hz hu;go_simp
   try exact hF
  ·intro Lq wq xq hh;simp only [gz,(gF.out _ _).mp (hh.v 5)];refine Reg.go rfl ?_;unfold Reg.upon;have hc:gA Lq wq:=hh.cls;rw [gy.out] at hc;obtain ⟨q1,q2,q3,q4,q5,q6⟩:=hc;have hz:=q4 hh.un;have y0:=hz.cell 0 _ rfl;have y1:=hz.cell 1 _ rfl;have s0:=hz.free 0;have s1:=hz.free 1;have hu:=((Upd.refl (fun x=>x=gb) wq).setCell (p:=⟨gb,0,none⟩) (.inl rfl) (.int .i64 rb)).setCell (p:=⟨gb,1,none⟩) (.inl rfl) (.int .i64 cb);have hF:gA (Lq.setIfInBounds 7 true) ((wq.setCell ⟨gb,0,none⟩ (.int .i64 rb)).setCell ⟨gb,1,none⟩ (.int .i64 cb))/\iO 7 undef ((wq.setCell ⟨gb,0,none⟩ (.int .i64 rb)).setCell ⟨gb,1,none⟩ (.int .i64 cb))/\iM wq ((wq.setCell ⟨gb,0,none⟩ (.int .i64 rb)).setCell ⟨gb,1,none⟩ (.int .i64 cb)):=by
    refine ⟨?_,by rw [gY.out],by rw [gJ.out];trivial⟩;rw [gy.out];refine ⟨hu.keep.has q1 (fun e=>by have:=iu.out;have:=iq.out;omega),fun e=>hu.keep.has (q2 (by rw [Mix.one_ne (by decide)] at e;exact e)) (fun e=>by have:=iu.out;have:=iq.out;omega),fun e=>hu.keep.has (q3 (by rw [Mix.one_ne (by decide)] at e;exact e)) (fun e=>by have:=iu.out;have:=iq.out;omega),fun e=>?_,fun _=>(hz.set 0 _).set 1 _,q6.trans (hu.below q6.size fun x e=>by have:=iu.out;have:=iq.out;omega)⟩;rw [Mix.one_set (by rw [hh.size];decide)] at e;exact absurd e (by decide)
   clear q1 q2 q3 q4 q5 q6 hz hu;go_simp
   try exact hF
  intro xq ks ic iH;rw [gy.out] at ic;simp only [gz];clear iH gz gB gS ig gT iz gy gJ ip gO gH gG gK gI gD gF gZ gY;obtain ⟨g1,n1,g2,n2,g3,g4⟩:=ic;have io:=aa g1;have js:=aa (g2 (by kernel_rfl));have jj:=aa (g3 (by kernel_rfl));have ii:=aa g4;clear g1 g2 g3 g4 n1 n2 gR kc kd gU iX jO
  go_upto_region 4 with (fail)
  obtain ⟨q,hq⟩:=ab (ltP (rb:Int) cb ra ca);have lx:=aa (show (q=true/\r0=rb/\c0=cb/\r1=ra/\c1=ca)\/(q=false/\r0=ra/\c0=ca/\r1=rb/\c1=cb) from by rw [hq];exact HOR.out);have HQ:=aa hq;clear hq HOR
  go_cut [40] from 22 to 40 (fun cv wx=>cv=.bool q/\wx=ks)
  case first =>
   have k0:=js.out.cell 0 _ rfl;have k1:=js.out.cell 1 _ rfl;have k2:=jj.out.cell 0 _ rfl;have k3:=jj.out.cell 1 _ rfl;have hq:=HQ.out;clear lx oO nw HQ;unfold ltP at hq;generalize (rb:Int)=RB at k2 hq ⊢;generalize (ra:Int)=RA at k0 hq ⊢;generalize (cb:Int)=CB at k3 hq ⊢;generalize (ca:Int)=CA at k1 hq ⊢
   by_cases h1:RB<RA
   ·have d1:decide (RB<RA)=true:=decide_eq_true h1;rw [d1,Bool.true_or] at hq;go_wp2;go_meet
    case rel=>exact ⟨by rw [hq],rfl⟩
   ·have d1:decide (RB<RA)=false:=decide_eq_false h1;rw [d1,Bool.false_or] at hq
    by_cases h2:RB=RA
    ·have d2:(RB == RA)=true:=by rw [beq_iff_eq];exact h2
     rw [d2,Bool.true_and] at hq;have jj:=aa d2;clear h1 h2;go_wp2;go_meet
     case rel=>exact ⟨by rw [hq],rfl⟩
    ·have d2:(RB == RA)=false:=by rw [beq_eq_false_iff_ne];exact h2
     rw [d2,Bool.false_and] at hq;go_wp2;go_meet
     case rel=>exact ⟨by rw [hq],rfl⟩
  case rest =>
   obtain ⟨rfl,rfl⟩:=hcut;obtain ⟨w2,hw2q⟩:=ab (wc);subst hw2q
   go_upto_if 40 with (fail)
   go_cut [] from 41 to 42 (fun wx=>Has wx w.heap.size [.int .i64 (W:Int),.int .i64 (H:Int),lv,.int .i64 r,.int .i64 c,.bool pd,.bool au] 26/\Has wx ga [.int .i64 r0,.int .i64 c0] 64/\Has wx gb [.int .i64 r1,.int .i64 c1] 64/\Below w.heap.size w wx)
   case first =>
    have nF:=lx.out;clear lx oO nw HQ
    rcases nF with ⟨rfl,rfl,rfl,rfl,rfl⟩ | ⟨rfl,rfl,rfl,rfl,rfl⟩
    ·have k0:=js.out.cell 0 _ rfl;have k1:=js.out.cell 1 _ rfl;have k2:=jj.out.cell 0 _ rfl;have k3:=jj.out.cell 1 _ rfl;have hne:ga≠gb:=by have:=iu.out;have:=iq.out;omega
     have lV:=aa hne;clear hne
     go_wp2_with (first
      |(refine aG rfl 64 (.tmp 4) (.tmp 41) rfl ga rfl 64 [.int .i64 r1,.int .i64 c1] [.int .i64 r0,.int .i64 c0] 2 rfl js.out (by kernel_rfl) rfl rfl (by intro v hv;simp at hv;rcases hv with rfl | rfl <;> rfl) ?_;intro w5 h5 b5;have z2:=(KeepZ.but b5).has jj.out (fun e=>lV.out e.symm);have z3:=(KeepZ.but b5).has io.out (fun e=>by have:=iu.out;omega);have gE:=ii.out.trans (b5.below ii.out.size (by have:=iu.out;omega));have HZ2:=aa z2;have HF:=aa (And.intro h5 (And.intro z3 gE));clear z2 z3 h5 b5 gE k0 k1 k2 k3)
      |(refine aG rfl 64 (.tmp 5) (.tmp 42) rfl gb rfl 64 [.int .i64 r0,.int .i64 c0] [.int .i64 r1,.int .i64 c1] 2 rfl HZ2.out (by kernel_rfl) rfl rfl (by intro v hv;simp at hv;rcases hv with rfl | rfl <;> rfl) ?_;intro w6 h6 b6;have lY:=aa (And.intro ((KeepZ.but b6).has HF.out.2.1 (fun e=>by have:=iq.out;omega)) (And.intro ((KeepZ.but b6).has HF.out.1 lV.out) (And.intro h6 (HF.out.2.2.trans (b6.below HF.out.2.2.size (by have:=iq.out;omega))))));clear h6 b6 HF HZ2))
     go_meet
     case rel=>exact lY.out
    ·go_wp2;go_meet
     case rel=>exact ⟨io.out,js.out,jj.out,ii.out⟩
   case rest =>
    obtain ⟨lG,n6,or,hB3⟩:=hcut;obtain ⟨w3,hw3⟩:=ab (wc);subst hw3;obtain ⟨lo,lc,elv⟩:=jl.out.1.len;rw [HN.out.len] at elv;subst elv;have kf:=aM jl.out.1;rw [lC.out] at kf;have hlc:=kf.2.1;have jW:=aa kf.2.2;have kV:=aa (fun i (hi:i<H)=>HN.out.row i hi);have lR:=aa (fun k (hk:r0+k<=H)=>cF HN.out r0 c0 r1 c1 k hk);have j8:=aa (show Ls.length=H from by rw [<-lC.out];exact HN.out.len);rw [lC.out] at kV lR;obtain ⟨B,hB⟩:=ab (w3.heap.size);have hY:=aa (show w.heap.size<B/\ga<B/\gb<B from by rw [hB];exact ⟨lG.lt,n6.lt,or.lt⟩);have k0:=n6.cell 0 _ rfl;have lB:=aa (And.intro lG (And.intro n6 (And.intro or (And.intro hB3 (show B<=w3.heap.size from by omega)))));clear lG n6 or hB3 kf hB io js jj ii lx HQ;go_wp2
    go_loopw [7,8] (fun t i wr=>∃ n:Nat,r0<=n/\n<=r1/\i=.int .i64 n/\OwnE (aA .i32) (fun _=>True) wr B 21 t (bn Ls W r0 c0 r1 c1 (n - r0))/\Has wr w.heap.size [.int .i64 (W:Int),.int .i64 (H:Int),.slice lo H lc,.int .i64 r,.int .i64 c,.bool pd,.bool au] 26/\Has wr ga [.int .i64 r0,.int .i64 c0] 64/\Has wr gb [.int .i64 r1,.int .i64 c1] 64/\Below w.heap.size w wr/\B<=wr.heap.size) (fun _ i _=>r1+1 - (intOf i).toNat)
    case atStart=>exact ⟨r0,Nat.le_refl _,hle,rfl,by rw [Nat.sub_self];exact OwnE.nil _ _ _ _ _,lB.out⟩
    case round =>
     clear k0 lB;obtain ⟨n,lk,ke,rfl,hown,jt,mu,lT,hb,hsz⟩:=hrel;obtain ⟨wo,lw⟩:=ab (wr);subst lw;obtain ⟨lb,off,cv,rfl,jn,_,l0,l1,hcv⟩:=jW.out n (by have:=j8.out;omega);have q0:=jt.cell 0 _ rfl;have k2:=lT.cell 0 _ rfl;have hln:(n:Int)<=(r1:Int):=by omega
     have ly:IntKind.i64.wrap ((W:Int) - 1)=(W:Int) - 1:=by rw [IntKind.wrap_i64];omega
     have HO:=aa hown;have iB:=aa (And.intro jt (And.intro mu (And.intro lT (And.intro hb hsz))));have HL:=aa (And.intro jn (And.intro l0 (And.intro l1 hcv)));clear hown jt mu lT hb hsz jn l0 l1 hcv
     go_upto_region 10 with (fail)
     go_quiet (fail)
     have lH:Below wo.heap.size wo (wo.drewN nq):=(Below.refl _ _).drewN nq;obtain ⟨wq,iS⟩:=ab (wo.drewN nq);rw [<-iS] at lH ⊢;have hU:=aa (And.intro (iB.out.1.below lH iB.out.1.lt) (And.intro (iB.out.2.1.below lH iB.out.2.1.lt) (And.intro (iB.out.2.2.1.below lH iB.out.2.2.1.lt) (And.intro (iB.out.2.2.2.1.trans (lH.mono iB.out.2.2.2.1.size)) (Nat.le_trans iB.out.2.2.2.2 lH.size)))));have HO1:=aa (HO.out.below lH);clear q0 k2 iS lH iB HO;have k0:=hU.out.2.1.cell 0 _ rfl;have k1:=hU.out.2.1.cell 1 _ rfl;have k2:=hU.out.2.2.1.cell 0 _ rfl;have k3:=hU.out.2.2.1.cell 1 _ rfl
     go_upto_if 57 with (fail)
     go_cut [9] from 58 to 59 (fun fv wx=>fv=.int .i64 (aZ r0 c0 n:Nat)/\wx=wq)
     case first =>
      by_cases h0:n=r0
      ·have d1:((n:Int) == (r0:Int))=true:=by rw [beq_iff_eq];omega
       have d2:(n == r0)=true:=by rw [beq_iff_eq];exact h0
       have d3:decide (n=r0)=true:=decide_eq_true h0;have HE:=aa (show aZ r0 c0 n=c0 from if_pos h0);clear h0;go_wp2;go_meet
       case rel=>exact ⟨by rw [HE.out],rfl⟩
      ·have d1:((n:Int) == (r0:Int))=false:=by rw [beq_eq_false_iff_ne];omega
       have d2:(n == r0)=false:=by rw [beq_eq_false_iff_ne];exact h0
       have d3:decide (n=r0)=false:=decide_eq_false h0;have HE:=aa (show aZ r0 c0 n=0 from if_neg h0);clear h0;go_wp2;go_meet
       case rel=>exact ⟨by rw [HE.out];rfl,rfl⟩
     case rest =>
      obtain ⟨rfl,iK⟩:=hcut;subst iK;obtain ⟨wp,lQ⟩:=ab (wc);subst lQ;have k2:=hU.out.2.2.1.cell 0 _ rfl;have k3:=hU.out.2.2.1.cell 1 _ rfl;obtain ⟨f,hf⟩:=ab (aZ r0 c0 n);have oM:=aa hf;rw [<-hf];clear hf
      go_upto_if 63 with (fail)
      go_cut [10] from 64 to 65 (fun tv wx=>tv=.int .i64 (toN W r1 c1 n:Nat)/\wx=wp)
      case first =>
       by_cases h0:n=r1
       · have d1:((n:Int) == (r1:Int))=true:=by rw [beq_iff_eq];omega
         have d2:(n == r1)=true:=by rw [beq_iff_eq];exact h0
         have d3:decide (n=r1)=true:=decide_eq_true h0;have HE:=aa (show toN W r1 c1 n=c1 from if_pos h0);clear h0;go_wp2;go_meet
         case rel=>exact ⟨by rw [HE.out],rfl⟩
       · have d1:((n:Int) == (r1:Int))=false:=by rw [beq_eq_false_iff_ne];omega
         have d2:(n == r1)=false:=by rw [beq_eq_false_iff_ne];exact h0
         have d3:decide (n=r1)=false:=decide_eq_false h0;have HE:=aa (show ((toN W r1 c1 n:Nat):Int)=(W:Int) - 1 from by rw [show toN W r1 c1 n=W - 1 from if_neg h0];omega);clear h0;go_wp2;go_meet
         case rel=>exact ⟨by rw [HE.out],rfl⟩
      case rest =>
       obtain ⟨rfl,iK⟩:=hcut;subst iK;obtain ⟨wq,iS⟩:=ab (wc);subst iS;have il:=kV.out n (by omega);obtain ⟨L,hL⟩:=ab ((Ls.getD n zl).1);obtain ⟨g,hg⟩:=ab ((Ls.getD n zl).2);have gV:=il.2;rw [<-hL] at il gV HL;rw [<-hg] at HL;obtain ⟨co,cc,ecv⟩:=HL.out.2.2.2.len;rw [il.1] at ecv;subst ecv;rw [<-il.1] at gV;obtain ⟨t,mZ⟩:=ab (toN W r1 c1 n);rw [<-mZ];have iQ:f<=t/\t<L.length:=by
         have hcc:=nw.out;have hfe:=oM.out;unfold aZ at hfe;unfold toN at mZ;rw [il.1]
         split at hfe <;> split at mZ <;> omega
       have kA:=bd L gV;have HM:=aa (fun (w':World) (h:HeldE cellE (fun _=>True) w' (.slice co W cc) L)=>c4 (fun _=>True) (.slice co W cc) L f t w' h iQ.1 iQ.2 (fun e=>(kA.2 f (by omega) e).1) (fun e=>(kA.1 t iQ.2 e).1));have i8:=aa (bS gV f t (aJ L f t).length);rw [List.take_length,il.1] at i8;have oy:=aa (dn gV f t g);rw [il.1] at oy;have HMP:=aa (fz iQ.1 iQ.2);have mD:=aa (lR.out (n - r0) (by omega));have oI:=aa (show dQ Ls W r0 c0 r1 c1 n=aJ L f t from by unfold dQ;rw [<-hL,<-oM.out,<-mZ]);have nI:=aa hg;have hZ:Below w.heap.size w wq:=hU.out.2.2.2.1;have l0:=(hZ.cell (p:=⟨lb,off+n * 2,none⟩) HL.out.1).trans HL.out.2.1;have l1:=(hZ.cell (p:=⟨lb,off+n * 2+1,none⟩) HL.out.1).trans HL.out.2.2.1;have q2:=hU.out.1.cell 2 _ rfl;have k2:=hU.out.2.2.1.cell 0 _ rfl;have hnh:(n:Int)<(H:Int):=by omega
       have oh:n<lc:=by have:=j8.out;omega
       obtain ⟨M,hM⟩:=ab (aJ L f t);rw [<-hM] at HM i8 HMP oI oy;clear hL hg il gV mZ iQ kA hM hZ oM kV lR
       go_upto_region 16 with (fail)
       obtain ⟨W1,hW1⟩:=ab (wq.alloc (.cells [Value.slice co W cc,Value.bool g].toArray 30));have hb1:Below wq.heap.size wq W1:=by rw [hW1];exact af _ _
       have j7:Has W1 wq.heap.size [.slice co W cc,.bool g] 30:=by rw [hW1];exact Has.new wq _ _
       have HW1E:=aa (show wq.alloc (.cells #[Value.slice co W cc,Value.bool g] 30)=W1 from by rw [hW1]);obtain ⟨gl,kk⟩:=ab (wq.heap.size);have HGL:=aa kk;have nN:=aa (show W1.heap.size=wq.heap.size+1 from by rw [hW1];exact Array.size_push _);rw [<-kk] at j7;rw [HW1E.out,<-kk];have p0:=j7.cell 0 _ rfl;have HH1:=aa j7;have gU:=aa hb1;have kY:=aa (HL.out.2.2.2.below (hU.out.2.2.2.1.trans (hb1.mono hU.out.2.2.2.1.size)));have ij:=HO1.out.lt;have lu:=aa (HO1.out.below hb1);have iT:=aa ij;clear hW1 HW1E kk j7 hb1 l0 l1 q2 ij k2
       go_wp2_with fail
       refine (HM.out _ kY.out).mono ?_;rintro e w5 ⟨mv,rfl,mM,rfl⟩;have nu:=aa mM;obtain ⟨wa,hwa⟩:=ab (W1);subst hwa;have k2:=(hU.out.2.2.1.below gU.out hU.out.2.2.1.lt).cell 0 _ rfl;have p1:=HH1.out.cell 1 _ rfl;clear mM p0
       by_cases h0:n=r1
       · have d1:((n:Int) == (r1:Int))=true:=by rw [beq_iff_eq];omega
         have d2:(n == r1)=true:=by rw [beq_iff_eq];exact h0
         have d3:decide (n=r1)=true:=decide_eq_true h0;have HK:=aa (be (fun _=>True) mv M wa nu.out (by have:=i8.out;omega));have HE:=aa (show bR Ls W r0 c0 r1 c1=bn Ls W r0 c0 r1 c1 (n - r0)++aS M from by unfold bR;rw [<-h0,<-oI.out,h0]);have ku:=aa (show (bn Ls W r0 c0 r1 c1 (n - r0)).length+(aS M).length<=30000000 from by have:=i8.out.1;have:=mD.out;omega);clear h0
         go_wp2_with fail
         refine HK.out.mono ?_;rintro e w6 ⟨v1,rfl,ho,hb⟩;have HU:=aa (ho.held (Z:=fun b=>True/\u7.ownBlock≠some b) (fun b hb _=>⟨trivial,fun e=>by have:=(iT.out b e).2;have:=nN.out;omega⟩));have kg:=aa (lu.out.below hb);have kn:=aa ((gU.out.trans (hb.mono gU.out.size)));clear ho hb
         go_wp2_with (at_builtin;refine ai (E:=aA .i32) (Z:=fun _=>True) rfl (.tmp 80) (.tmp 82) 57 rfl (.int .i32 0) 4 Tryd.underlying57 aF rfl (Nat.lt_succ_self 0) rfl rfl kg.out HU.out (by have:=ku.out;omega) (by have:=ku.out;omega) (Nat.le_trans hU.out.2.2.2.2 kn.out.size) ?_)
         intro v2 w7 hO hb2 _ _;have HF:=aa (And.intro (hO.base (Nat.le_of_lt hY.out.1)) ((hU.out.2.2.2.1.trans (kn.out.mono hU.out.2.2.2.1.size)).trans (hb2.mono (Nat.le_trans (Nat.le_of_lt hY.out.1) (Nat.le_refl _)))));clear hO hb2;go_wp2;go_ret;exact ⟨_,rfl,by rw [HE.out];exact HF.out.1,HF.out.2⟩
       · have d1:((n:Int) == (r1:Int))=false:=by rw [beq_eq_false_iff_ne];omega
         have d2:(n == r1)=false:=by rw [beq_eq_false_iff_ne];exact h0
         have d3:decide (n=r1)=false:=decide_eq_false h0;have HK:=aa (eY (fun _=>True) mv M g wa nu.out (fun _=>HMP.out) (by have:=i8.out.1;omega));have ng:=aa (show n+1<=r1 from by omega);have HE:=aa (show bn Ls W r0 c0 r1 c1 (n+1 - r0)=bn Ls W r0 c0 r1 c1 (n - r0)++bi M g from by
          rw [show n+1 - r0=(n - r0)+1 by omega];show _++bi (dQ Ls W r0 c0 r1 c1 (r0+(n - r0))) (Ls.getD (r0+(n - r0)) zl).2=_;rw [show r0+(n - r0)=n by omega,oI.out,<-nI.out])
         have ku:=aa (show (bn Ls W r0 c0 r1 c1 (n - r0)).length+(bi M g).length<=30000000 from by have:=oy.out;have:=mD.out;omega);clear h0
         go_wp2_with fail
         refine HK.out.mono ?_;rintro e w6 ⟨v1,rfl,ho,hb⟩;have HU:=aa (ho.held (Z:=fun b=>True/\u7.ownBlock≠some b) (fun b hb _=>⟨trivial,fun e=>by have:=(iT.out b e).2;have:=nN.out;omega⟩));have kg:=aa (lu.out.below hb);have kn:=aa ((gU.out.trans (hb.mono gU.out.size)));clear ho hb p1
         go_wp2_with (at_builtin;refine ai (E:=aA .i32) (Z:=fun _=>True) rfl (.tmp 84) (.tmp 88) 57 rfl (.int .i32 0) 4 Tryd.underlying57 aF rfl (Nat.lt_succ_self 0) rfl rfl kg.out HU.out (by have:=ku.out;omega) (by have:=ku.out;omega) (Nat.le_trans hU.out.2.2.2.2 kn.out.size) ?_)
         intro v2 w7 hO hb2 ik _;rw [<-HE.out] at hO;have hno:∀ b,b<B->u7.ownBlock≠some b:=fun b hlt e=>by have:=(iT.out b e).1;omega
         have nE:∀ {b:Nat} {C:List Value} {ty:TypeId},Has wq b C ty->b<B->Has w7 b C ty:=fun h hlt=>ik.has (h.below kn.out h.lt) (hno _ hlt)
         have HF:=aa (And.intro hO (And.intro (nE hU.out.1 hY.out.1) (And.intro (nE hU.out.2.1 hY.out.2.1) (And.intro (nE hU.out.2.2.1 hY.out.2.2) (And.intro ((hU.out.2.2.2.1.trans (kn.out.mono hU.out.2.2.2.1.size)).trans (hb2.mono (Nat.le_of_lt hY.out.1))) (Nat.le_trans hU.out.2.2.2.2 (Nat.le_trans kn.out.size hb2.size)))))));clear hO hb2 ik hno nE;go_wp2
         go_roundw
         case rel=>exact ⟨n+1,by omega,ng.out,by go_num,HF.out⟩
         case measure=>simp [intOf] <;> omega
end Go.Proofs.YthdphijabffpiaaDoor
