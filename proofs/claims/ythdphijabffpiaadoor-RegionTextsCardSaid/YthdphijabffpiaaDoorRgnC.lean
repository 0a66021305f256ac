import Derived.Test.YthdphijabffpiaaDoorZ0
import Derived.Test.YthdphijabffpiaaDoorMg6
import Derived.Test.YthdphijabffpiaaDoorMg3
import Derived.Lib.MinMax
import Derived.Deep.Cut
set_option maxRecDepth 100000
set_option linter.unusedVariables false
set_option linter.unusedSimpArgs false
set_option maxHeartbeats 3000000
namespace Go.Proofs.YthdphijabffpiaaDoor
open Go.RowKit Go.ChangeShapes Go.WideShapes
theorem dh(sa:Nat->Addr)(v:Vw)(lv:Value)(a0 a1 b0 b1:Int)(w:World)(hs:Five w sa)(hv:ViewAt w v lv):Calls Tryd.prog 35 #[aE v lv,.agg #[.int .i64 a0,.int .i64 a1],.agg #[.int .i64 b0,.int .i64 b1]] w (dO (aB .i32) (fun _=>True) 21 w (a6 v a0 a1 b0 b1)):=by
 have hl0:=hv.1.max;have iK:=aa (fun (w':World) (b:Below w.heap.size w w')=>bZ sa v lv w' (hs.below b) (hv.below b));have iW:=aa hv;have k7:=aa (fun (h:az v=true)=>cA h);have iC:=aa (fun (h0:1<=v.w) (h1:v.w<=1024) (h2:1<=v.h) (h3:v.h<=1024) (w':World)=>bT v lv a0 a1 w' h0 h1 h2 h3);have i4:=aa (fun (h0:1<=v.w) (h1:v.w<=1024) (h2:1<=v.h) (h3:v.h<=1024) (w':World)=>bT v lv b0 b1 w' h0 h1 h2 h3);obtain ⟨vv,gY⟩:=ab (v);have lm:=aa (show az vv=az v from by rw [gY]);rw [<-gY] at k7 iW ⊢;obtain ⟨vw,vh,Ls,r,c,pd,au⟩:=v;simp only at iC i4 hl0;have kN:aE vv lv=.agg #[.int .i64 vw,.int .i64 vh,lv,.int .i64 r,.int .i64 c,.bool pd,.bool au]:=by rw [gY];rfl
 have ki:vv.L=Ls:=by rw [gY]
 have lf:vv.w=vw:=by rw [gY]
 have kM:vv.h=vh:=by rw [gY]
 have ky:=aa ki;rw [kN];rw [show ∀ x,aE ⟨vw,vh,Ls,r,c,pd,au⟩ x=.agg #[.int .i64 vw,.int .i64 vh,x,.int .i64 r,.int .i64 c,.bool pd,.bool au] from fun _=>rfl] at iK iC i4;obtain ⟨Wa,gD⟩:=ab (w.alloc (.cells ([.int .i64 vw,.int .i64 vh,lv,.int .i64 r,.int .i64 c,.bool pd,.bool au]:List Value).toArray 26));obtain ⟨Wb,gE⟩:=ab (Wa.alloc (.cells [Value.int .i64 a0,.int .i64 a1].toArray 64));obtain ⟨Wc,ia⟩:=ab (Wb.alloc (.cells [Value.int .i64 b0,.int .i64 b1].toArray 64));have ba:Below w.heap.size w Wa:=by rw [gD];exact af _ _
 have bb:Below Wa.heap.size Wa Wb:=by rw [gE];exact af _ _
 have bc:Below Wb.heap.size Wb Wc:=by rw [ia];exact af _ _
 have sa':Wa.heap.size=w.heap.size+1:=by rw [gD];exact Array.size_push _
 have sb:Wb.heap.size=w.heap.size+2:=by rw [gE,<-Nat.add_assoc w.heap.size 1 1,<-sa'];exact Array.size_push _
 have gva:Has Wa w.heap.size [.int .i64 vw,.int .i64 vh,lv,.int .i64 r,.int .i64 c,.bool pd,.bool au] 26:=by rw [gD];exact Has.new w _ _
 have gaa:Has Wb Wa.heap.size [.int .i64 a0,.int .i64 a1] 64:=by rw [gE];exact Has.new Wa _ _
 have gba:Has Wc Wb.heap.size [.int .i64 b0,.int .i64 b1] 64:=by rw [ia];exact Has.new Wb _ _
 have gva:=Has.below (Has.below gva bb gva.lt) bc (Has.below gva bb gva.lt).lt;have gaa:=Has.below gaa bc gaa.lt;have HB:=aa (ba.trans ((bb.mono ba.size).trans (bc.mono (Nat.le_trans ba.size bb.size))));rw [sa'] at gaa;rw [sb] at gba;obtain ⟨ga,je⟩:=ab (w.heap.size+1);obtain ⟨gb,hgb⟩:=ab (w.heap.size+2);rw [<-je] at gaa;rw [<-hgb] at gba;have g6:=aa je;have hO:=aa hgb;have HV:=aa gva;have HA:=aa gaa;have HD:=aa gba;have q0:=gva.cell 0 _ rfl;have q1:=gva.cell 1 _ rfl;have q2:=gva.cell 2 _ rfl;have q3:=gva.cell 3 _ rfl;have q4:=gva.cell 4 _ rfl;have q5:=gva.cell 5 _ rfl;have q6:=gva.cell 6 _ rfl;have iw:=aa (show ((w.alloc (.cells #[.int .i64 vw,.int .i64 vh,lv,.int .i64 r,.int .i64 c,.bool pd,.bool au] 26)).alloc (.cells #[Value.int .i64 a0,.int .i64 a1] 64)).alloc (.cells #[Value.int .i64 b0,.int .i64 b1] 64)=Wc from by rw [ia,gE,gD]);clear gD gE ia gva gaa gba ba bb bc sa' sb je hgb hs hv
 cases hR:az vv with
 |false =>
  have HT:=aa (show a6 vv a0 a1 b0 b1=[] from by unfold a6;rw [if_neg (by rw [hR];decide)]);rw [<-lm.out,hR] at iK;clear gY kN ki lf kM hR
  go_enter Tryd.func35,Tryd.ntmps35
  go_upto_region 1 with (fail)
  rw [iw.out];rw [show w.heap.size+1+1=gb from by have:=hO.out;omega,<-g6.out]
  go_wp2_with fail
  refine (iK.out _ HB.out).mono ?_;rintro e w1 ⟨rfl,b1⟩;have HF:=aa (HB.out.trans (b1.mono HB.out.size));clear b1;go_wp2;go_ret;exact ⟨_,rfl,by rw [HT.out];exact OwnE.nil _ _ _ _ _,HF.out⟩
 |true =>
  obtain ⟨W,H,hn⟩:=k7.out hR;have kP:=hn.w1;have hw2:=hn.w2;have iY:=hn.h1;have hh2:=hn.h2;obtain ⟨ra,ji,jM⟩:=aD a0 iY;obtain ⟨ca,it,jq⟩:=aD a1 kP;obtain ⟨rb,jk,jG⟩:=aD b0 iY;obtain ⟨cb,hcb,jr⟩:=aD b1 kP;have ew:vw=(W:Int):=by rw [<-lf];exact hn.wide
  have eh:vh=(H:Int):=by rw [<-kM];exact hn.high
  have iC:=aa (iC.out (by omega) (by omega) (by omega) (by omega));have i4:=aa (i4.out (by omega) (by omega) (by omega) (by omega));subst ew;subst eh;rw [ji,it] at iC;rw [jk,hcb] at i4;have hord:∃ r0 c0 r1 c1:Nat,((ltP (rb:Int) cb ra ca=true/\r0=rb/\c0=cb/\r1=ra/\c1=ca)\/(ltP (rb:Int) cb ra ca=false/\r0=ra/\c0=ca/\r1=rb/\c1=cb))/\r0<=r1/\(r0=r1->c0<=c1)/\r1<H/\c0<W/\c1<W/\a6 vv a0 a1 b0 b1=bs Ls W r0 c0 r1 c1:=by
   have ht:a6 vv a0 a1 b0 b1=if ltP (rb:Int) cb ra ca=true then bs Ls W rb cb ra ca else bs Ls W ra ca rb cb:=by
    unfold a6;rw [if_pos hR,ki,hn.wide,hn.high,ji,it,jk,hcb]
    simp
   cases hl:ltP (rb:Int) cb ra ca with
   |true =>
    refine ⟨rb,cb,ra,ca,.inl ⟨rfl,rfl,rfl,rfl,rfl⟩,?_,?_,jM,jr,jq,by rw [ht,hl,if_pos rfl]⟩
    all_goals
     unfold ltP at hl;simp only [Bool.or_eq_true,Bool.and_eq_true,decide_eq_true_eq,beq_iff_eq] at hl;omega
   |false =>
    refine ⟨ra,ca,rb,cb,.inr ⟨rfl,rfl,rfl,rfl,rfl⟩,?_,?_,jG,jq,jr,by rw [ht,hl];exact if_neg (by decide)⟩
    all_goals
     unfold ltP at hl;simp only [Bool.or_eq_false_iff,Bool.and_eq_false_iff,decide_eq_false_iff_not,beq_eq_false_iff_ne] at hl;omega
  obtain ⟨r0,c0,r1,c1,j6,hle,hcc,hr1,hc0,hc1,hT⟩:=hord;have lJ:=aa j6;have lL:=aa hcc;have m4:=aa hT;have HN:=aa hn;rw [<-lm.out,hR] at iK;rw [hT];clear gY kN ki lf kM hR j6 hcc hT hn k7 lm ji it jk hcb
  go_enter Tryd.func35,Tryd.ntmps35
  go_upto_region 1 with (fail)
  rw [iw.out];rw [show w.heap.size+1+1=gb from by have:=hO.out;omega,<-g6.out]
  go_wp2_with fail
  refine (iK.out _ HB.out).mono ?_;rintro e w1 ⟨rfl,b1⟩;have gH:=aa (HV.out.below b1 HV.out.lt);have jj:=aa (HA.out.below b1 HA.out.lt);have jh:=aa (HD.out.below b1 HD.out.lt);have gJ:=aa (HB.out.trans (b1.mono HB.out.size));clear b1 q0 q1 q2 q3 q4 q5 q6 HV HA HD HB iw iK
  go_upto_region 3 with (fail)
  obtain ⟨gm,gz⟩ : ∃ CC:Array Bool->World->Prop,CC=fun L8 w'=>Has w' w.heap.size [.int .i64 (W:Int),.int .i64 (H:Int),lv,.int .i64 r,.int .i64 c,.bool pd,.bool au] 26/\(Mix.one L8 6=0->Has w' ga [.int .i64 a0,.int .i64 a1] 64)/\(Mix.one L8 6=1->Has w' ga [.int .i64 ra,.int .i64 ca] 64)/\(Mix.one L8 7=0->Has w' gb [.int .i64 b0,.int .i64 b1] 64)/\(Mix.one L8 7=1->Has w' gb [.int .i64 rb,.int .i64 cb] 64)/\Below w.heap.size w w':=⟨_,rfl⟩
  obtain ⟨iq,gO,gT,gG⟩:=Reg.xT;obtain ⟨ip,gK,gB,gw,gC,gx,gu,gA,gN,gM⟩:=Reg.e8 iq
   (fun xx _=>xx=.agg #[.int .i64 (W:Int),.int .i64 (H:Int),lv,.int .i64 r,.int .i64 c,.bool pd,.bool au])
   (fun xx _=>xx=.agg #[.int .i64 a0,.int .i64 a1])
   (fun xx _=>xx=.agg #[.int .i64 ra,.int .i64 ca])
   (fun xx _=>xx=.agg #[.int .i64 (W:Int),.int .i64 (H:Int),lv,.int .i64 r,.int .i64 c,.bool pd,.bool au])
   (fun xx _=>xx=.agg #[.int .i64 b0,.int .i64 b1])
   (fun xx _=>xx=.agg #[.int .i64 rb,.int .i64 cb])
   (fun xx _=>xx=undef)
   (fun xx _=>xx=undef)
  have gI:Hid (∀ i L w,(i == 6 || i == 7)=false ->  gm L w->gm (L.setIfInBounds i true) w):=aa (by
   intro i L w q h;simp only [Bool.or_eq_false_iff,beq_eq_false_iff_ne] at q;rw [gz] at h ⊢;simp only [Mix.one_ne q.1,Mix.one_ne q.2];exact h)
  have gW:Hid (∀ L w w1,gm L w->Below w.heap.size w w1->gm L w1):=aa (by
   intro L w w1 h hb;rw [gz] at h ⊢
   (obtain ⟨q1,q2,q3,q4,q5,q6⟩:=h;exact ⟨q1.below hb q1.lt,fun e=>(q2 e).below hb (q2 e).lt,fun e=>(q3 e).below hb (q3 e).lt,fun e=>(q4 e).below hb (q4 e).lt,fun e=>(q5 e).below hb (q5 e).lt,q6.trans (hb.mono q6.size)⟩))
  have ib:=aa (show gm (Array.replicate 8 false) w1.drew from by rw [gz];(have hb:=(Below.refl w1.heap.size w1).drew;exact ⟨gH.out.below hb gH.out.lt,fun _=>jj.out.below hb jj.out.lt,fun e=>absurd e (by decide),fun _=>jh.out.below hb jh.out.lt,fun e=>absurd e (by decide),gJ.out.trans (hb.mono gJ.out.size)⟩));have gn:=aa (fun (i:Nat) L w v q (h:gm L w) (e:ip i v w)=>Reg.hk (gI.out i L w q h) e (gT.out w));have gj:=aa gz;have gy:=aa gO;clear gz gO
  go_wp2_with fail
  refine Reg.regionF ip gm iq gK.out (by kernel_rfl) (by kernel_rfl) (by kernel_rfl) ib.out (fun mO gk=>?_);simp only [Reg.frame,Reg.dsts,List.map_cons,List.map_nil,Mix.put_lit,Reg.put_none,List.set_cons_succ,List.set_cons_zero,Nat.zero_add,Nat.reduceAdd] at gk;refine ⟨⟨?_,?_,?_,?_,?_,?_,?_,?_,trivial⟩,?_⟩
  ·intro Lq wq xq hh;simp only [gk];refine Reg.go rfl ?_;have hc:gm Lq wq:=hh.cls;rw [gj.out] at hc;have z0:=hc.1;have y0:=z0.cell 0 _ rfl;have y1:=z0.cell 1 _ rfl;have y2:=z0.cell 2 _ rfl;have y3:=z0.cell 3 _ rfl;have y4:=z0.cell 4 _ rfl;have y5:=z0.cell 5 _ rfl;have y6:=z0.cell 6 _ rfl;clear z0;clear hc;have HK:=gn.out 0 _ _ _ rfl hh.cls ((gB.out _ _).mpr rfl);go_simp;exact HK.out
  ·intro Lq wq xq hh;simp only [gk];refine Reg.go rfl ?_;have hc:gm Lq wq:=hh.cls;rw [gj.out] at hc;have z0:=hc.2.1 (Mix.one_un (hh.notYet 6 (by kernel_rfl)));have y0:=z0.cell 0 _ rfl;have y1:=z0.cell 1 _ rfl;clear z0;clear hc;have HK:=gn.out 1 _ _ _ rfl hh.cls ((gw.out _ _).mpr rfl);go_simp;exact HK.out
  ·intro Lq wq xq hh;simp only [gk,(gB.out _ _).mp (hh.v 0),(gw.out _ _).mp (hh.v 1)];refine Reg.go rfl ?_;unfold Reg.upon;have hc:gm Lq wq:=hh.cls;rw [gj.out] at hc;go_simp;refine (iC.out wq).mono ?_;rintro e w2 ⟨rfl,hb⟩;exact ⟨_,rfl,gI.out 2 Lq w2 rfl  (gW.out Lq wq w2 hh.cls hb),(by rw [gC.out];try rfl),gG.out wq w2 hb⟩
  ·intro Lq wq xq hh;simp only [gk];refine Reg.go rfl ?_;have hc:gm Lq wq:=hh.cls;rw [gj.out] at hc;have z0:=hc.1;have y0:=z0.cell 0 _ rfl;have y1:=z0.cell 1 _ rfl;have y2:=z0.cell 2 _ rfl;have y3:=z0.cell 3 _ rfl;have y4:=z0.cell 4 _ rfl;have y5:=z0.cell 5 _ rfl;have y6:=z0.cell 6 _ rfl;clear z0;clear hc;have HK:=gn.out 3 _ _ _ rfl hh.cls ((gx.out _ _).mpr rfl);go_simp;exact HK.out
  ·intro Lq wq xq hh;simp only [gk];refine Reg.go rfl ?_;have hc:gm Lq wq:=hh.cls;rw [gj.out] at hc;have z0:=hc.2.2.2.1 (Mix.one_un (hh.notYet 7 (by kernel_rfl)));have y0:=z0.cell 0 _ rfl;have y1:=z0.cell 1 _ rfl;clear z0;clear hc;have HK:=gn.out 4 _ _ _ rfl hh.cls ((gu.out _ _).mpr rfl);go_simp;exact HK.out
  ·intro Lq wq xq hh;simp only [gk,(gx.out _ _).mp (hh.v 3),(gu.out _ _).mp (hh.v 4)];refine Reg.go rfl ?_;unfold Reg.upon;have hc:gm Lq wq:=hh.cls;rw [gj.out] at hc;go_simp;refine (i4.out wq).mono ?_;rintro e w2 ⟨rfl,hb⟩;exact ⟨_,rfl,gI.out 5 Lq w2 rfl  (gW.out Lq wq w2 hh.cls hb),(by rw [gA.out];try rfl),gG.out wq w2 hb⟩
  ·intro Lq wq xq hh;simp only [gk,(gC.out _ _).mp (hh.v 2)];refine Reg.go rfl ?_;unfold Reg.upon;have hc:gm Lq wq:=hh.cls;rw [gj.out] at hc;obtain ⟨q1,q2,q3,q4,q5,q6⟩:=hc;have hz:=q2 hh.un;have y0:=hz.cell 0 _ rfl;have y1:=hz.cell 1 _ rfl;have s0:=hz.free 0;have s1:=hz.free 1;have hu:=((Upd.refl (fun x=>x=ga) wq).setCell (p:=⟨ga,0,none⟩) (.inl rfl) (.int .i64 ra)).setCell (p:=⟨ga,1,none⟩) (.inl rfl) (.int .i64 ca);have hF:gm (Lq.setIfInBounds 6 true) ((wq.setCell ⟨ga,0,none⟩ (.int .i64 ra)).setCell ⟨ga,1,none⟩ (.int .i64 ca))/\ip 6 undef ((wq.setCell ⟨ga,0,none⟩ (.int .i64 ra)).setCell ⟨ga,1,none⟩ (.int .i64 ca))/\iq wq ((wq.setCell ⟨ga,0,none⟩ (.int .i64 ra)).setCell ⟨ga,1,none⟩ (.int .i64 ca)):=by
    refine ⟨?_,by rw [gN.out],by rw [gy.out];trivial⟩;rw [gj.out];refine ⟨hu.keep.has q1 (fun e=>by have:=g6.out;have:=hO.out;omega),fun e=>?_,fun _=>(hz.set 0 _).set 1 _,fun e=>hu.keep.has (q4 (by rw [Mix.one_ne (by decide)] at e;exact e)) (fun e=>by have:=g6.out;have:=hO.out;omega),fun e=>hu.keep.has (q5 (by rw [Mix.one_ne (by decide)] at e;exact e)) (fun e=>by have:=g6.out;have:=hO.out;omega),q6.trans (hu.below q6.size fun x e=>by have:=g6.out;have:=hO.out;omega)⟩;rw [Mix.one_set (by rw [hh.size];decide)] at e;exact absurd e (by decide)
   clear q1 q2 q3 q4 q5 q6 hz hu;go_simp
   try exact hF
  ·intro Lq wq xq hh;simp only [gk,(gA.out _ _).mp (hh.v 5)];refine Reg.go rfl ?_;unfold Reg.upon;have hc:gm Lq wq:=hh.cls;rw [gj.out] at hc;obtain ⟨q1,q2,q3,q4,q5,q6⟩:=hc;have hz:=q4 hh.un;have y0:=hz.cell 0 _ rfl;have y1:=hz.cell 1 _ rfl;have s0:=hz.free 0;have s1:=hz.free 1;have hu:=((Upd.refl (fun x=>x=gb) wq).setCell (p:=⟨gb,0,none⟩) (.inl rfl) (.int .i64 rb)).setCell (p:=⟨gb,1,none⟩) (.inl rfl) (.int .i64 cb);have hF:gm (Lq.setIfInBounds 7 true) ((wq.setCell ⟨gb,0,none⟩ (.int .i64 rb)).setCell ⟨gb,1,none⟩ (.int .i64 cb))/\ip 7 undef ((wq.setCell ⟨gb,0,none⟩ (.int .i64 rb)).setCell ⟨gb,1,none⟩ (.int .i64 cb))/\iq wq ((wq.setCell ⟨gb,0,none⟩ (.int .i64 rb)).setCell ⟨gb,1,none⟩ (.int .i64 cb)):=by
    refine ⟨?_,by rw [gM.out],by rw [gy.out];trivial⟩;rw [gj.out];refine ⟨hu.keep.has q1 (fun e=>by have:=g6.out;have:=hO.out;omega),fun e=>hu.keep.has (q2 (by rw [Mix.one_ne (by decide)] at e;exact e)) (fun e=>by have:=g6.out;have:=hO.out;omega),fun e=>hu.keep.has (q3 (by rw [Mix.one_ne (by decide)] at e;exact e)) (fun e=>by have:=g6.out;have:=hO.out;omega),fun e=>?_,fun _=>(hz.set 0 _).set 1 _,q6.trans (hu.below q6.size fun x e=>by have:=g6.out;have:=hO.out;omega)⟩;rw [Mix.one_set (by rw [hh.size];decide)] at e;exact absurd e (by decide)
   clear q1 q2 q3 q4 q5 q6 hz hu;go_simp
   try exact hF
  intro xq jB gR ik;rw [gj.out] at gR;simp only [gk];clear ik gk gn gI gT gK ib gj gy gW gG gB gw gC gx gu gA gN gM;obtain ⟨g1,n1,g2,n2,g3,g4⟩:=gR;have gV:=aa g1;have iO:=aa (g2 (by kernel_rfl));have iH:=aa (g3 (by kernel_rfl));have gX:=aa g4;clear g1 g2 g3 g4 n1 n2 gH jj jh gJ iC i4
  go_upto_region 4 with (fail)
  obtain ⟨q,hq⟩:=ab (ltP (rb:Int) cb ra ca);have iF:=aa (show (q=true/\r0=rb/\c0=cb/\r1=ra/\c1=ca)\/(q=false/\r0=ra/\c0=ca/\r1=rb/\c1=cb) from by rw [hq];exact lJ.out);have HQ:=aa hq;clear hq lJ
  go_cut [40] from 22 to 40 (fun cv wx=>cv=.bool q/\wx=jB)
  case first =>
   have k0:=iO.out.cell 0 _ rfl;have k1:=iO.out.cell 1 _ rfl;have k2:=iH.out.cell 0 _ rfl;have k3:=iH.out.cell 1 _ rfl;have hq:=HQ.out;clear iF m4 lL HQ;unfold ltP at hq;generalize (rb:Int)=RB at k2 hq ⊢;generalize (ra:Int)=RA at k0 hq ⊢;generalize (cb:Int)=CB at k3 hq ⊢;generalize (ca:Int)=CA at k1 hq ⊢
   by_cases h1:RB<RA
   ·have d1:decide (RB<RA)=true:=decide_eq_true h1;rw [d1,Bool.true_or] at hq;go_wp2;go_meet
    case rel=>exact ⟨by rw [hq],rfl⟩
   ·have d1:decide (RB<RA)=false:=decide_eq_false h1;rw [d1,Bool.false_or] at hq
    by_cases h2:RB=RA
    ·have d2:(RB == RA)=true:=by rw [beq_iff_eq];exact h2
     rw [d2,Bool.true_and] at hq;have iH:=aa d2;clear h1 h2;go_wp2;go_meet
     case rel=>exact ⟨by rw [hq],rfl⟩
    ·have d2:(RB == RA)=false:=by rw [beq_eq_false_iff_ne];exact h2
     rw [d2,Bool.false_and] at hq;go_wp2;go_meet
     case rel=>exact ⟨by rw [hq],rfl⟩
  case rest =>
   obtain ⟨rfl,rfl⟩:=hcut;obtain ⟨w2,kC⟩:=ab (wc);subst kC
   go_upto_if 40 with (fail)
   go_cut [] from 41 to 42 (fun wx=>Has wx w.heap.size [.int .i64 (W:Int),.int .i64 (H:Int),lv,.int .i64 r,.int .i64 c,.bool pd,.bool au] 26/\Has wx ga [.int .i64 r0,.int .i64 c0] 64/\Has wx gb [.int .i64 r1,.int .i64 c1] 64/\Below w.heap.size w wx)
   case first =>
    have j6:=iF.out;clear iF m4 lL HQ
    rcases j6 with ⟨rfl,rfl,rfl,rfl,rfl⟩ | ⟨rfl,rfl,rfl,rfl,rfl⟩
    ·have k0:=iO.out.cell 0 _ rfl;have k1:=iO.out.cell 1 _ rfl;have k2:=iH.out.cell 0 _ rfl;have k3:=iH.out.cell 1 _ rfl;have hne:ga≠gb:=by have:=g6.out;have:=hO.out;omega
     have kT:=aa hne;clear hne
     go_wp2_with (first
      |(refine av rfl 64 (.tmp 4) (.tmp 41) rfl ga rfl 64 [.int .i64 r1,.int .i64 c1] [.int .i64 r0,.int .i64 c0] 2 rfl iO.out (by kernel_rfl) rfl rfl (by intro v hv;simp at hv;rcases hv with rfl | rfl <;> rfl) ?_;intro w5 h5 b5;have z2:=(KeepZ.but b5).has iH.out (fun e=>kT.out e.symm);have z3:=(KeepZ.but b5).has gV.out (fun e=>by have:=g6.out;omega);have gF:=gX.out.trans (b5.below gX.out.size (by have:=g6.out;omega));have mu:=aa z2;have HF:=aa (And.intro h5 (And.intro z3 gF));clear z2 z3 h5 b5 gF k0 k1 k2 k3)
      |(refine av rfl 64 (.tmp 5) (.tmp 42) rfl gb rfl 64 [.int .i64 r0,.int .i64 c0] [.int .i64 r1,.int .i64 c1] 2 rfl mu.out (by kernel_rfl) rfl rfl (by intro v hv;simp at hv;rcases hv with rfl | rfl <;> rfl) ?_;intro w6 h6 b6;have j1:=aa (And.intro ((KeepZ.but b6).has HF.out.2.1 (fun e=>by have:=hO.out;omega)) (And.intro ((KeepZ.but b6).has HF.out.1 kT.out) (And.intro h6 (HF.out.2.2.trans (b6.below HF.out.2.2.size (by have:=hO.out;omega))))));clear h6 b6 HF mu))
     go_meet
     case rel=>exact j1.out
    ·go_wp2;go_meet
     case rel=>exact ⟨gV.out,iO.out,iH.out,gX.out⟩
   case rest =>
    obtain ⟨kl,mM,ng,hB3⟩:=hcut;obtain ⟨w3,hw3⟩:=ab (wc);subst hw3;obtain ⟨lo,lc,elv⟩:=iW.out.1.len;rw [HN.out.len] at elv;subst elv;have jm:=aJ iW.out.1;rw [ky.out] at jm;have hlc:=jm.2.1;have i9:=aa jm.2.2;have jW:=aa (fun i (hi:i<H)=>HN.out.row i hi);have kS:=aa (fun k (hk:r0+k<=H)=>cB HN.out r0 c0 r1 c1 k hk);have ju:=aa (show Ls.length=H from by rw [<-ky.out];exact HN.out.len);rw [ky.out] at jW kS;obtain ⟨B,hB⟩:=ab (w3.heap.size);have gP:=aa (show w.heap.size<B/\ga<B/\gb<B from by rw [hB];exact ⟨kl.lt,mM.lt,ng.lt⟩);have k0:=mM.cell 0 _ rfl;have kp:=aa (And.intro kl (And.intro mM (And.intro ng (And.intro hB3 (show B<=w3.heap.size from by omega)))));clear kl mM ng hB3 jm hB gV iO iH gX iF HQ;go_wp2
    go_loopw [7,8] (fun t i wr=>∃ n:Nat,r0<=n/\n<=r1/\i=.int .i64 n/\OwnE (aB .i32) (fun _=>True) wr B 21 t (bm Ls W r0 c0 r1 c1 (n - r0))/\Has wr w.heap.size [.int .i64 (W:Int),.int .i64 (H:Int),.slice lo H lc,.int .i64 r,.int .i64 c,.bool pd,.bool au] 26/\Has wr ga [.int .i64 r0,.int .i64 c0] 64/\Has wr gb [.int .i64 r1,.int .i64 c1] 64/\Below w.heap.size w wr/\B<=wr.heap.size) (fun _ i _=>r1+1 - (intOf i).toNat)
    case atStart=>exact ⟨r0,Nat.le_refl _,hle,rfl,by rw [Nat.sub_self];exact OwnE.nil _ _ _ _ _,kp.out⟩
    case round =>
     clear k0 kp;obtain ⟨n,ke,jl,rfl,hown,iQ,lp,lj,hb,hsz⟩:=hrel;obtain ⟨wo,kA⟩:=ab (wr);subst kA;obtain ⟨lb,off,cv,rfl,jo,_,l0,l1,hcv⟩:=i9.out n (by have:=ju.out;omega);have q0:=iQ.cell 0 _ rfl;have k2:=lj.cell 0 _ rfl;have hln:(n:Int)<=(r1:Int):=by omega
     have lF:IntKind.i64.wrap ((W:Int) - 1)=(W:Int) - 1:=by rw [IntKind.wrap_i64];omega
     have HO:=aa hown;have ic:=aa (And.intro iQ (And.intro lp (And.intro lj (And.intro hb hsz))));have HL:=aa (And.intro jo (And.intro l0 (And.intro l1 hcv)));clear hown iQ lp lj hb hsz jo l0 l1 hcv
     go_upto_region 10 with (fail)
     go_quiet (fail)
     have kx:Below wo.heap.size wo (wo.drewN nq):=(Below.refl _ _).drewN nq;obtain ⟨wq,iD⟩:=ab (wo.drewN nq);rw [<-iD] at kx ⊢;have hU:=aa (And.intro (ic.out.1.below kx ic.out.1.lt) (And.intro (ic.out.2.1.below kx ic.out.2.1.lt) (And.intro (ic.out.2.2.1.below kx ic.out.2.2.1.lt) (And.intro (ic.out.2.2.2.1.trans (kx.mono ic.out.2.2.2.1.size)) (Nat.le_trans ic.out.2.2.2.2 kx.size)))));have HO1:=aa (HO.out.below kx);clear q0 k2 iD kx ic HO;have k0:=hU.out.2.1.cell 0 _ rfl;have k1:=hU.out.2.1.cell 1 _ rfl;have k2:=hU.out.2.2.1.cell 0 _ rfl;have k3:=hU.out.2.2.1.cell 1 _ rfl
     go_upto_if 57 with (fail)
     go_cut [9] from 58 to 59 (fun fv wx=>fv=.int .i64 (aW r0 c0 n:Nat)/\wx=wq)
     case first =>
      by_cases h0:n=r0
      ·have d1:((n:Int) == (r0:Int))=true:=by rw [beq_iff_eq];omega
       have d2:(n == r0)=true:=by rw [beq_iff_eq];exact h0
       have d3:decide (n=r0)=true:=decide_eq_true h0;have HE:=aa (show aW r0 c0 n=c0 from if_pos h0);clear h0;go_wp2;go_meet
       case rel=>exact ⟨by rw [HE.out],rfl⟩
      ·have d1:((n:Int) == (r0:Int))=false:=by rw [beq_eq_false_iff_ne];omega
       have d2:(n == r0)=false:=by rw [beq_eq_false_iff_ne];exact h0
       have d3:decide (n=r0)=false:=decide_eq_false h0;have HE:=aa (show aW r0 c0 n=0 from if_neg h0);clear h0;go_wp2;go_meet
       case rel=>exact ⟨by rw [HE.out];rfl,rfl⟩
     case rest =>
      obtain ⟨rfl,iu⟩:=hcut;subst iu;obtain ⟨wp,lI⟩:=ab (wc);subst lI;have k2:=hU.out.2.2.1.cell 0 _ rfl;have k3:=hU.out.2.2.1.cell 1 _ rfl;obtain ⟨f,hf⟩:=ab (aW r0 c0 n);have nK:=aa hf;rw [<-hf];clear hf
      go_upto_if 63 with (fail)
      go_cut [10] from 64 to 65 (fun tv wx=>tv=.int .i64 (toN W r1 c1 n:Nat)/\wx=wp)
      case first =>
       by_cases h0:n=r1
       · have d1:((n:Int) == (r1:Int))=true:=by rw [beq_iff_eq];omega
         have d2:(n == r1)=true:=by rw [beq_iff_eq];exact h0
         have d3:decide (n=r1)=true:=decide_eq_true h0;have HE:=aa (show toN W r1 c1 n=c1 from if_pos h0);clear h0;go_wp2;go_meet
         case rel=>exact ⟨by rw [HE.out],rfl⟩
       · have d1:((n:Int) == (r1:Int))=false:=by rw [beq_eq_false_iff_ne];omega
         have d2:(n == r1)=false:=by rw [beq_eq_false_iff_ne];exact h0
         have d3:decide (n=r1)=false:=decide_eq_false h0;have HE:=aa (show ((toN W r1 c1 n:Nat):Int)=(W:Int) - 1 from by rw [show toN W r1 c1 n=W - 1 from if_neg h0];omega);clear h0;go_wp2;go_meet
         case rel=>exact ⟨by rw [HE.out],rfl⟩
      case rest =>
       obtain ⟨rfl,iu⟩:=hcut;subst iu;obtain ⟨wq,iD⟩:=ab (wc);subst iD;have il:=jW.out n (by omega);obtain ⟨L,hL⟩:=ab ((Ls.getD n zl).1);obtain ⟨g,hg⟩:=ab ((Ls.getD n zl).2);have gS:=il.2;rw [<-hL] at il gS HL;rw [<-hg] at HL;obtain ⟨co,cc,ecv⟩:=HL.out.2.2.2.len;rw [il.1] at ecv;subst ecv;rw [<-il.1] at gS;obtain ⟨t,mb⟩:=ab (toN W r1 c1 n);rw [<-mb];have iB:f<=t/\t<L.length:=by
         have hcc:=lL.out;have hfe:=nK.out;unfold aW at hfe;unfold toN at mb;rw [il.1]
         split at hfe <;> split at mb <;> omega
       have kZ:=bR L gS;have HM:=aa (fun (w':World) (h:HeldE cellE (fun _=>True) w' (.slice co W cc) L)=>cV (fun _=>True) (.slice co W cc) L f t w' h iB.1 iB.2 (fun e=>(kZ.2 f (by omega) e).1) (fun e=>(kZ.1 t iB.2 e).1));have jw:=aa (bQ gS f t (aG L f t).length);rw [List.take_length,il.1] at jw;have nr:=aa (di gS f t g);rw [il.1] at nr;have HMP:=aa (fp iB.1 iB.2);have lE:=aa (kS.out (n - r0) (by omega));have m9:=aa (show dJ Ls W r0 c0 r1 c1 n=aG L f t from by unfold dJ;rw [<-hL,<-nK.out,<-mb]);have mK:=aa hg;have ig:Below w.heap.size w wq:=hU.out.2.2.2.1;have l0:=(ig.cell (p:=⟨lb,off+n * 2,none⟩) HL.out.1).trans HL.out.2.1;have l1:=(ig.cell (p:=⟨lb,off+n * 2+1,none⟩) HL.out.1).trans HL.out.2.2.1;have q2:=hU.out.1.cell 2 _ rfl;have k2:=hU.out.2.2.1.cell 0 _ rfl;have hnh:(n:Int)<(H:Int):=by omega
       have nd:n<lc:=by have:=ju.out;omega
       obtain ⟨M,hM⟩:=ab (aG L f t);rw [<-hM] at HM jw HMP m9 nr;clear hL hg il gS mb iB kZ hM ig nK jW kS
       go_upto_region 16 with (fail)
       obtain ⟨W1,hW1⟩:=ab (wq.alloc (.cells [Value.slice co W cc,Value.bool g].toArray 30));have hb1:Below wq.heap.size wq W1:=by rw [hW1];exact af _ _
       have iY:Has W1 wq.heap.size [.slice co W cc,.bool g] 30:=by rw [hW1];exact Has.new wq _ _
       have HW1E:=aa (show wq.alloc (.cells #[Value.slice co W cc,Value.bool g] 30)=W1 from by rw [hW1]);obtain ⟨gl,js⟩:=ab (wq.heap.size);have HGL:=aa js;have HSZ:=aa (show W1.heap.size=wq.heap.size+1 from by rw [hW1];exact Array.size_push _);rw [<-js] at iY;rw [HW1E.out,<-js];have p0:=iY.cell 0 _ rfl;have HH1:=aa iY;have gJ:=aa hb1;have j8:=aa (HL.out.2.2.2.below (hU.out.2.2.2.1.trans (hb1.mono hU.out.2.2.2.1.size)));have ij:=HO1.out.lt;have kc:=aa (HO1.out.below hb1);have iE:=aa ij;clear hW1 HW1E js iY hb1 l0 l1 q2 ij k2
       go_wp2_with fail
       refine (HM.out _ j8.out).mono ?_;rintro e w5 ⟨mv,rfl,lW,rfl⟩;have lS:=aa lW;obtain ⟨wa,hwa⟩:=ab (W1);subst hwa;have k2:=(hU.out.2.2.1.below gJ.out hU.out.2.2.1.lt).cell 0 _ rfl;have p1:=HH1.out.cell 1 _ rfl;clear lW p0
       by_cases h0:n=r1
       · have d1:((n:Int) == (r1:Int))=true:=by rw [beq_iff_eq];omega
         have d2:(n == r1)=true:=by rw [beq_iff_eq];exact h0
         have d3:decide (n=r1)=true:=decide_eq_true h0;have HK:=aa (a7 (fun _=>True) mv M wa lS.out (by have:=jw.out;omega));have HE:=aa (show bs Ls W r0 c0 r1 c1=bm Ls W r0 c0 r1 c1 (n - r0)++aN M from by unfold bs;rw [<-h0,<-m9.out,h0]);have jA:=aa (show (bm Ls W r0 c0 r1 c1 (n - r0)).length+(aN M).length<=30000000 from by have:=jw.out.1;have:=lE.out;omega);clear h0
         go_wp2_with fail
         refine HK.out.mono ?_;rintro e w6 ⟨v1,rfl,ho,hb⟩;have HU:=aa (ho.held (Z:=fun b=>True/\u7.ownBlock≠some b) (fun b hb _=>⟨trivial,fun e=>by have:=(iE.out b e).2;have:=HSZ.out;omega⟩));have jX:=aa (kc.out.below hb);have jv:=aa ((gJ.out.trans (hb.mono gJ.out.size)));clear ho hb
         go_wp2_with (at_builtin;refine al (E:=aB .i32) (Z:=fun _=>True) rfl (.tmp 80) (.tmp 82) 57 rfl (.int .i32 0) 4 Tryd.underlying57 aK rfl (Nat.lt_succ_self 0) rfl rfl jX.out HU.out (by have:=jA.out;omega) (by have:=jA.out;omega) (Nat.le_trans hU.out.2.2.2.2 jv.out.size) ?_)
         intro v2 w7 gU hb2 _ _;have HF:=aa (And.intro (gU.base (Nat.le_of_lt gP.out.1)) ((hU.out.2.2.2.1.trans (jv.out.mono hU.out.2.2.2.1.size)).trans (hb2.mono (Nat.le_trans (Nat.le_of_lt gP.out.1) (Nat.le_refl _)))));clear gU hb2;go_wp2;go_ret;exact ⟨_,rfl,by rw [HE.out];exact HF.out.1,HF.out.2⟩
       · have d1:((n:Int) == (r1:Int))=false:=by rw [beq_eq_false_iff_ne];omega
         have d2:(n == r1)=false:=by rw [beq_eq_false_iff_ne];exact h0
         have d3:decide (n=r1)=false:=decide_eq_false h0;have HK:=aa (eS (fun _=>True) mv M g wa lS.out (fun _=>HMP.out) (by have:=jw.out.1;omega));have nC:=aa (show n+1<=r1 from by omega);have HE:=aa (show bm Ls W r0 c0 r1 c1 (n+1 - r0)=bm Ls W r0 c0 r1 c1 (n - r0)++bf M g from by
          rw [show n+1 - r0=(n - r0)+1 by omega];show _++bf (dJ Ls W r0 c0 r1 c1 (r0+(n - r0))) (Ls.getD (r0+(n - r0)) zl).2=_;rw [show r0+(n - r0)=n by omega,m9.out,<-mK.out])
         have jA:=aa (show (bm Ls W r0 c0 r1 c1 (n - r0)).length+(bf M g).length<=30000000 from by have:=nr.out;have:=lE.out;omega);clear h0
         go_wp2_with fail
         refine HK.out.mono ?_;rintro e w6 ⟨v1,rfl,ho,hb⟩;have HU:=aa (ho.held (Z:=fun b=>True/\u7.ownBlock≠some b) (fun b hb _=>⟨trivial,fun e=>by have:=(iE.out b e).2;have:=HSZ.out;omega⟩));have jX:=aa (kc.out.below hb);have jv:=aa ((gJ.out.trans (hb.mono gJ.out.size)));clear ho hb p1
         go_wp2_with (at_builtin;refine al (E:=aB .i32) (Z:=fun _=>True) rfl (.tmp 84) (.tmp 88) 57 rfl (.int .i32 0) 4 Tryd.underlying57 aK rfl (Nat.lt_succ_self 0) rfl rfl jX.out HU.out (by have:=jA.out;omega) (by have:=jA.out;omega) (Nat.le_trans hU.out.2.2.2.2 jv.out.size) ?_)
         intro v2 w7 gU hb2 gZ _;rw [<-HE.out] at gU;have hno:∀ b,b<B->u7.ownBlock≠some b:=fun b hlt e=>by have:=(iE.out b e).1;omega
         have mC:∀ {b:Nat} {C:List Value} {ty:TypeId},Has wq b C ty->b<B->Has w7 b C ty:=fun h hlt=>gZ.has (h.below jv.out h.lt) (hno _ hlt)
         have HF:=aa (And.intro gU (And.intro (mC hU.out.1 gP.out.1) (And.intro (mC hU.out.2.1 gP.out.2.1) (And.intro (mC hU.out.2.2.1 gP.out.2.2) (And.intro ((hU.out.2.2.2.1.trans (jv.out.mono hU.out.2.2.2.1.size)).trans (hb2.mono (Nat.le_of_lt gP.out.1))) (Nat.le_trans hU.out.2.2.2.2 (Nat.le_trans jv.out.size hb2.size)))))));clear gU hb2 gZ hno mC;go_wp2
         go_roundw
         case rel=>exact ⟨n+1,by omega,nC.out,by go_num,HF.out⟩
         case measure=>simp [intOf] <;> omega
end Go.Proofs.YthdphijabffpiaaDoor
