import Derived.Test.YthdphijabffpiaaDoorZ0
import Derived.Test.YthdphijabffpiaaDoorMg6
import Derived.Test.YthdphijabffpiaaDoorMg3
import Derived.Lib.MinMax
import Derived.Deep.Cut
set_option maxRecDepth 100000
set_option linter.unusedVariables false
set_option linter.unusedSimpArgs false
set_option maxHeartbeats 3000000
namespace Go.Proofs.YthdphijabffpiaaDoor
open Go.RowKit Go.ChangeShapes Go.WideShapes
def txtE:Elem (List Int):=slE (aB .i32)
theorem fK:(Tryd.prog.info? 57).map (fun i=>(i.zero,i.size,i.bytes))=some (some (.slice none 0 0),txtE.size,24):=by kernel_rfl
def f6(L:List Cl)(f t:Nat):List Int:=aN ((aG L f t).take (aQ (aG L f t)))
def cy(Ls:List Ln)(f t tp n:Nat):List (List Int):=(List.range n).map fun k=>f6 (Ls.getD (tp+k) zl).1 f t
theorem fg(Ls:List Ln)(f t tp n:Nat):cy Ls f t tp (n+1)=cy Ls f t tp n++[f6 (Ls.getD (tp+n) zl).1 f t]:=by
 unfold cy;rw [List.range_succ,List.map_append]
 rfl
theorem fL(Ls:List Ln)(f t tp n:Nat):(cy Ls f t tp n).length=n:=by simp [cy]
def eg(v:Vw)(a0 a1 b0 b1:Int):List (List Int) :=
 if az v=true then cy v.L (min (ai v.w a1).toNat (ai v.w b1).toNat) (max (ai v.w a1).toNat (ai v.w b1).toNat) (min (ai v.h a0).toNat (ai v.h b0).toNat) (max (ai v.h a0).toNat (ai v.h b0).toNat - min (ai v.h a0).toNat (ai v.h b0).toNat+1) else []
theorem ei(sa:Nat->Addr)(v:Vw)(lv:Value)(a0 a1 b0 b1:Int)(w:World)(hs:Five w sa)(hv:ViewAt w v lv):Calls Tryd.prog 39 #[aE v lv,.agg #[.int .i64 a0,.int .i64 a1],.agg #[.int .i64 b0,.int .i64 b1]] w (dO txtE (fun _=>True) 57 w (eg v a0 a1 b0 b1)):=by
 have hl0:=hv.1.max;have iK:=aa (fun (w':World) (b:Below w.heap.size w w')=>bZ sa v lv w' (hs.below b) (hv.below b));have iW:=aa hv;have k7:=aa (fun (h:az v=true)=>cA h);have iC:=aa (fun (h0:1<=v.w) (h1:v.w<=1024) (h2:1<=v.h) (h3:v.h<=1024) (w':World)=>bT v lv a0 a1 w' h0 h1 h2 h3);have i4:=aa (fun (h0:1<=v.w) (h1:v.w<=1024) (h2:1<=v.h) (h3:v.h<=1024) (w':World)=>bT v lv b0 b1 w' h0 h1 h2 h3);obtain ⟨vv,gY⟩:=ab (v);have lm:=aa (show az vv=az v from by rw [gY]);rw [<-gY] at k7 iW ⊢;obtain ⟨vw,vh,Ls,r,c,pd,au⟩:=v;simp only at iC i4 hl0;have kN:aE vv lv=.agg #[.int .i64 vw,.int .i64 vh,lv,.int .i64 r,.int .i64 c,.bool pd,.bool au]:=by rw [gY];rfl
 have ki:vv.L=Ls:=by rw [gY]
 have lf:vv.w=vw:=by rw [gY]
 have kM:vv.h=vh:=by rw [gY]
 have ky:=aa ki;rw [kN];rw [show ∀ x,aE ⟨vw,vh,Ls,r,c,pd,au⟩ x=.agg #[.int .i64 vw,.int .i64 vh,x,.int .i64 r,.int .i64 c,.bool pd,.bool au] from fun _=>rfl] at iK iC i4;obtain ⟨Wa,gD⟩:=ab (w.alloc (.cells ([.int .i64 vw,.int .i64 vh,lv,.int .i64 r,.int .i64 c,.bool pd,.bool au]:List Value).toArray 26));obtain ⟨Wb,gE⟩:=ab (Wa.alloc (.cells [Value.int .i64 a0,.int .i64 a1].toArray 64));obtain ⟨Wc,ia⟩:=ab (Wb.alloc (.cells [Value.int .i64 b0,.int .i64 b1].toArray 64));have ba:Below w.heap.size w Wa:=by rw [gD];exact af _ _
 have bb:Below Wa.heap.size Wa Wb:=by rw [gE];exact af _ _
 have bc:Below Wb.heap.size Wb Wc:=by rw [ia];exact af _ _
 have sa':Wa.heap.size=w.heap.size+1:=by rw [gD];exact Array.size_push _
 have sb:Wb.heap.size=w.heap.size+2:=by rw [gE,<-Nat.add_assoc w.heap.size 1 1,<-sa'];exact Array.size_push _
 have gva:Has Wa w.heap.size [.int .i64 vw,.int .i64 vh,lv,.int .i64 r,.int .i64 c,.bool pd,.bool au] 26:=by rw [gD];exact Has.new w _ _
 have gaa:Has Wb Wa.heap.size [.int .i64 a0,.int .i64 a1] 64:=by rw [gE];exact Has.new Wa _ _
 have gba:Has Wc Wb.heap.size [.int .i64 b0,.int .i64 b1] 64:=by rw [ia];exact Has.new Wb _ _
 have gva:=Has.below (Has.below gva bb gva.lt) bc (Has.below gva bb gva.lt).lt;have gaa:=Has.below gaa bc gaa.lt;have HB:=aa (ba.trans ((bb.mono ba.size).trans (bc.mono (Nat.le_trans ba.size bb.size))));rw [sa'] at gaa;rw [sb] at gba;obtain ⟨ga,je⟩:=ab (w.heap.size+1);obtain ⟨gb,hgb⟩:=ab (w.heap.size+2);rw [<-je] at gaa;rw [<-hgb] at gba;have g6:=aa je;have hO:=aa hgb;have HV:=aa gva;have HA:=aa gaa;have HD:=aa gba;have q0:=gva.cell 0 _ rfl;have q1:=gva.cell 1 _ rfl;have q2:=gva.cell 2 _ rfl;have q3:=gva.cell 3 _ rfl;have q4:=gva.cell 4 _ rfl;have q5:=gva.cell 5 _ rfl;have q6:=gva.cell 6 _ rfl;have iw:=aa (show ((w.alloc (.cells #[.int .i64 vw,.int .i64 vh,lv,.int .i64 r,.int .i64 c,.bool pd,.bool au] 26)).alloc (.cells #[Value.int .i64 a0,.int .i64 a1] 64)).alloc (.cells #[Value.int .i64 b0,.int .i64 b1] 64)=Wc from by rw [ia,gE,gD]);clear gD gE ia gva gaa gba ba bb bc sa' sb je hgb hs hv
 cases hR:az vv with
 |false =>
  have HT:=aa (show eg vv a0 a1 b0 b1=[] from by unfold eg;rw [if_neg (by rw [hR];decide)]);rw [<-lm.out,hR] at iK;clear gY kN ki lf kM hR
  go_enter Tryd.func39,Tryd.ntmps39
  go_upto_region 1 with (fail)
  rw [iw.out];rw [show w.heap.size+1+1=gb from by have:=hO.out;omega,<-g6.out]
  go_wp2_with fail
  refine (iK.out _ HB.out).mono ?_;rintro e w1 ⟨rfl,b1⟩;have HF:=aa (HB.out.trans (b1.mono HB.out.size));clear b1;go_wp2;go_ret;exact ⟨_,rfl,by rw [HT.out];exact OwnE.nil _ _ _ _ _,HF.out⟩
 |true =>
  obtain ⟨W,H,hn⟩:=k7.out hR;have kP:=hn.w1;have hw2:=hn.w2;have iY:=hn.h1;have hh2:=hn.h2;obtain ⟨ra,ji,jM⟩:=aD a0 iY;obtain ⟨ca,it,jq⟩:=aD a1 kP;obtain ⟨rb,jk,jG⟩:=aD b0 iY;obtain ⟨cb,hcb,jr⟩:=aD b1 kP;have ew:vw=(W:Int):=by rw [<-lf];exact hn.wide
  have eh:vh=(H:Int):=by rw [<-kM];exact hn.high
  have iC:=aa (iC.out (by omega) (by omega) (by omega) (by omega));have i4:=aa (i4.out (by omega) (by omega) (by omega) (by omega));subst ew;subst eh;rw [ji,it] at iC;rw [jk,hcb] at i4;obtain ⟨tp,htp⟩:=ab (min ra rb);obtain ⟨en,hen⟩:=ab (max ra rb);obtain ⟨f,hf⟩:=ab (min ca cb);obtain ⟨t,ht⟩:=ab (max ca cb);have hT:eg vv a0 a1 b0 b1=cy Ls f t tp (en - tp+1):=by
   unfold eg;rw [if_pos hR,ki,hn.wide,hn.high,ji,it,jk,hcb,htp,hen,hf,ht];simp only [Int.toNat_natCast]
  have m4:=aa hT;have HN:=aa hn;rw [<-lm.out,hR] at iK;rw [hT];clear gY kN ki lf kM hR hT hn k7 lm ji it jk hcb
  go_enter Tryd.func39,Tryd.ntmps39
  go_upto_region 1 with (fail)
  rw [iw.out];rw [show w.heap.size+1+1=gb from by have:=hO.out;omega,<-g6.out]
  go_wp2_with fail
  refine (iK.out _ HB.out).mono ?_;rintro e w1 ⟨rfl,b1⟩;have gH:=aa (HV.out.below b1 HV.out.lt);have jj:=aa (HA.out.below b1 HA.out.lt);have jh:=aa (HD.out.below b1 HD.out.lt);have gJ:=aa (HB.out.trans (b1.mono HB.out.size));clear b1 q0 q1 q2 q3 q4 q5 q6 HV HA HD HB iw iK
  go_upto_region 3 with (fail)
  obtain ⟨gm,gz⟩ : ∃ CC:Array Bool->World->Prop,CC=fun L8 w'=>Has w' w.heap.size [.int .i64 (W:Int),.int .i64 (H:Int),lv,.int .i64 r,.int .i64 c,.bool pd,.bool au] 26/\(Mix.one L8 6=0->Has w' ga [.int .i64 a0,.int .i64 a1] 64)/\(Mix.one L8 6=1->Has w' ga [.int .i64 ra,.int .i64 ca] 64)/\(Mix.one L8 7=0->Has w' gb [.int .i64 b0,.int .i64 b1] 64)/\(Mix.one L8 7=1->Has w' gb [.int .i64 rb,.int .i64 cb] 64)/\Below w.heap.size w w':=⟨_,rfl⟩
  obtain ⟨iq,gO,gT,gG⟩:=Reg.xT;obtain ⟨ip,gK,gB,gw,gC,gx,gu,gA,gN,gM⟩:=Reg.e8 iq
   (fun xx _=>xx=.agg #[.int .i64 (W:Int),.int .i64 (H:Int),lv,.int .i64 r,.int .i64 c,.bool pd,.bool au])
   (fun xx _=>xx=.agg #[.int .i64 a0,.int .i64 a1])
   (fun xx _=>xx=.agg #[.int .i64 ra,.int .i64 ca])
   (fun xx _=>xx=.agg #[.int .i64 (W:Int),.int .i64 (H:Int),lv,.int .i64 r,.int .i64 c,.bool pd,.bool au])
   (fun xx _=>xx=.agg #[.int .i64 b0,.int .i64 b1])
   (fun xx _=>xx=.agg #[.int .i64 rb,.int .i64 cb])
   (fun xx _=>xx=undef)
   (fun xx _=>xx=undef)
  have gI:Hid (∀ i L w,(i == 6 || i == 7)=false ->  gm L w->gm (L.setIfInBounds i true) w):=aa (by
   intro i L w q h;simp only [Bool.or_eq_false_iff,beq_eq_false_iff_ne] at q;rw [gz] at h ⊢;simp only [Mix.one_ne q.1,Mix.one_ne q.2];exact h)
  have gW:Hid (∀ L w w1,gm L w->Below w.heap.size w w1->gm L w1):=aa (by
   intro L w w1 h hb;rw [gz] at h ⊢
   (obtain ⟨q1,q2,q3,q4,q5,q6⟩:=h;exact ⟨q1.below hb q1.lt,fun e=>(q2 e).below hb (q2 e).lt,fun e=>(q3 e).below hb (q3 e).lt,fun e=>(q4 e).below hb (q4 e).lt,fun e=>(q5 e).below hb (q5 e).lt,q6.trans (hb.mono q6.size)⟩))
  have ib:=aa (show gm (Array.replicate 8 false) w1.drew from by rw [gz];(have hb:=(Below.refl w1.heap.size w1).drew;exact ⟨gH.out.below hb gH.out.lt,fun _=>jj.out.below hb jj.out.lt,fun e=>absurd e (by decide),fun _=>jh.out.below hb jh.out.lt,fun e=>absurd e (by decide),gJ.out.trans (hb.mono gJ.out.size)⟩));have gn:=aa (fun (i:Nat) L w v q (h:gm L w) (e:ip i v w)=>Reg.hk (gI.out i L w q h) e (gT.out w));have gj:=aa gz;have gy:=aa gO;clear gz gO
  go_wp2_with fail
  refine Reg.regionF ip gm iq gK.out (by kernel_rfl) (by kernel_rfl) (by kernel_rfl) ib.out (fun mO gk=>?_);simp only [Reg.frame,Reg.dsts,List.map_cons,List.map_nil,Mix.put_lit,Reg.put_none,List.set_cons_succ,List.set_cons_zero,Nat.zero_add,Nat.reduceAdd] at gk;refine ⟨⟨?_,?_,?_,?_,?_,?_,?_,?_,trivial⟩,?_⟩
  ·intro Lq wq xq hh;simp only [gk];refine Reg.go rfl ?_;have hc:gm Lq wq:=hh.cls;rw [gj.out] at hc;have z0:=hc.1;have y0:=z0.cell 0 _ rfl;have y1:=z0.cell 1 _ rfl;have y2:=z0.cell 2 _ rfl;have y3:=z0.cell 3 _ rfl;have y4:=z0.cell 4 _ rfl;have y5:=z0.cell 5 _ rfl;have y6:=z0.cell 6 _ rfl;clear z0;clear hc;have HK:=gn.out 0 _ _ _ rfl hh.cls ((gB.out _ _).mpr rfl);go_simp;exact HK.out
  ·intro Lq wq xq hh;simp only [gk];refine Reg.go rfl ?_;have hc:gm Lq wq:=hh.cls;rw [gj.out] at hc;have z0:=hc.2.1 (Mix.one_un (hh.notYet 6 (by kernel_rfl)));have y0:=z0.cell 0 _ rfl;have y1:=z0.cell 1 _ rfl;clear z0;clear hc;have HK:=gn.out 1 _ _ _ rfl hh.cls ((gw.out _ _).mpr rfl);go_simp;exact HK.out
  ·intro Lq wq xq hh;simp only [gk,(gB.out _ _).mp (hh.v 0),(gw.out _ _).mp (hh.v 1)];refine Reg.go rfl ?_;unfold Reg.upon;have hc:gm Lq wq:=hh.cls;rw [gj.out] at hc;go_simp;refine (iC.out wq).mono ?_;rintro e w2 ⟨rfl,hb⟩;exact ⟨_,rfl,gI.out 2 Lq w2 rfl  (gW.out Lq wq w2 hh.cls hb),(by rw [gC.out];try rfl),gG.out wq w2 hb⟩
  ·intro Lq wq xq hh;simp only [gk];refine Reg.go rfl ?_;have hc:gm Lq wq:=hh.cls;rw [gj.out] at hc;have z0:=hc.1;have y0:=z0.cell 0 _ rfl;have y1:=z0.cell 1 _ rfl;have y2:=z0.cell 2 _ rfl;have y3:=z0.cell 3 _ rfl;have y4:=z0.cell 4 _ rfl;have y5:=z0.cell 5 _ rfl;have y6:=z0.cell 6 _ rfl;clear z0;clear hc;have HK:=gn.out 3 _ _ _ rfl hh.cls ((gx.out _ _).mpr rfl);go_simp;exact HK.out
  ·intro Lq wq xq hh;simp only [gk];refine Reg.go rfl ?_;have hc:gm Lq wq:=hh.cls;rw [gj.out] at hc;have z0:=hc.2.2.2.1 (Mix.one_un (hh.notYet 7 (by kernel_rfl)));have y0:=z0.cell 0 _ rfl;have y1:=z0.cell 1 _ rfl;clear z0;clear hc;have HK:=gn.out 4 _ _ _ rfl hh.cls ((gu.out _ _).mpr rfl);go_simp;exact HK.out
  ·intro Lq wq xq hh;simp only [gk,(gx.out _ _).mp (hh.v 3),(gu.out _ _).mp (hh.v 4)];refine Reg.go rfl ?_;unfold Reg.upon;have hc:gm Lq wq:=hh.cls;rw [gj.out] at hc;go_simp;refine (i4.out wq).mono ?_;rintro e w2 ⟨rfl,hb⟩;exact ⟨_,rfl,gI.out 5 Lq w2 rfl  (gW.out Lq wq w2 hh.cls hb),(by rw [gA.out];try rfl),gG.out wq w2 hb⟩
  ·intro Lq wq xq hh;simp only [gk,(gC.out _ _).mp (hh.v 2)];refine Reg.go rfl ?_;unfold Reg.upon;have hc:gm Lq wq:=hh.cls;rw [gj.out] at hc;obtain ⟨q1,q2,q3,q4,q5,q6⟩:=hc;have hz:=q2 hh.un;have y0:=hz.cell 0 _ rfl;have y1:=hz.cell 1 _ rfl;have s0:=hz.free 0;have s1:=hz.free 1;have hu:=((Upd.refl (fun x=>x=ga) wq).setCell (p:=⟨ga,0,none⟩) (.inl rfl) (.int .i64 ra)).setCell (p:=⟨ga,1,none⟩) (.inl rfl) (.int .i64 ca);have hF:gm (Lq.setIfInBounds 6 true) ((wq.setCell ⟨ga,0,none⟩ (.int .i64 ra)).setCell ⟨ga,1,none⟩ (.int .i64 ca))/\ip 6 undef ((wq.setCell ⟨ga,0,none⟩ (.int .i64 ra)).setCell ⟨ga,1,none⟩ (.int .i64 ca))/\iq wq ((wq.setCell ⟨ga,0,none⟩ (.int .i64 ra)).setCell ⟨ga,1,none⟩ (.int .i64 ca)):=by
    refine ⟨?_,by rw [gN.out],by rw [gy.out];trivial⟩;rw [gj.out];refine ⟨hu.keep.has q1 (fun e=>by have:=g6.out;have:=hO.out;omega),fun e=>?_,fun _=>(hz.set 0 _).set 1 _,fun e=>hu.keep.has (q4 (by rw [Mix.one_ne (by decide)] at e;exact e)) (fun e=>by have:=g6.out;have:=hO.out;omega),fun e=>hu.keep.has (q5 (by rw [Mix.one_ne (by decide)] at e;exact e)) (fun e=>by have:=g6.out;have:=hO.out;omega),q6.trans (hu.below q6.size fun x e=>by have:=g6.out;have:=hO.out;omega)⟩;rw [Mix.one_set (by rw [hh.size];decide)] at e;exact absurd e (by decide)
   clear q1 q2 q3 q4 q5 q6 hz hu;go_simp
   try exact hF
  ·intro Lq wq xq hh;simp only [gk,(gA.out _ _).mp (hh.v 5)];refine Reg.go rfl ?_;unfold Reg.upon;have hc:gm Lq wq:=hh.cls;rw [gj.out] at hc;obtain ⟨q1,q2,q3,q4,q5,q6⟩:=hc;have hz:=q4 hh.un;have y0:=hz.cell 0 _ rfl;have y1:=hz.cell 1 _ rfl;have s0:=hz.free 0;have s1:=hz.free 1;have hu:=((Upd.refl (fun x=>x=gb) wq).setCell (p:=⟨gb,0,none⟩) (.inl rfl) (.int .i64 rb)).setCell (p:=⟨gb,1,none⟩) (.inl rfl) (.int .i64 cb);have hF:gm (Lq.setIfInBounds 7 true) ((wq.setCell ⟨gb,0,none⟩ (.int .i64 rb)).setCell ⟨gb,1,none⟩ (.int .i64 cb))/\ip 7 undef ((wq.setCell ⟨gb,0,none⟩ (.int .i64 rb)).setCell ⟨gb,1,none⟩ (.int .i64 cb))/\iq wq ((wq.setCell ⟨gb,0,none⟩ (.int .i64 rb)).setCell ⟨gb,1,none⟩ (.int .i64 cb)):=by
    refine ⟨?_,by rw [gM.out],by rw [gy.out];trivial⟩;rw [gj.out];refine ⟨hu.keep.has q1 (fun e=>by have:=g6.out;have:=hO.out;omega),fun e=>hu.keep.has (q2 (by rw [Mix.one_ne (by decide)] at e;exact e)) (fun e=>by have:=g6.out;have:=hO.out;omega),fun e=>hu.keep.has (q3 (by rw [Mix.one_ne (by decide)] at e;exact e)) (fun e=>by have:=g6.out;have:=hO.out;omega),fun e=>?_,fun _=>(hz.set 0 _).set 1 _,q6.trans (hu.below q6.size fun x e=>by have:=g6.out;have:=hO.out;omega)⟩;rw [Mix.one_set (by rw [hh.size];decide)] at e;exact absurd e (by decide)
   clear q1 q2 q3 q4 q5 q6 hz hu;go_simp
   try exact hF
  intro xq jB gR ik;rw [gj.out] at gR;simp only [gk];clear ik gk gn gI gT gK ib gj gy gW gG gB gw gC gx gu gA gN gM;obtain ⟨g1,n1,g2,n2,g3,g4⟩:=gR;have g2:=g2 (by kernel_rfl);have g3:=g3 (by kernel_rfl);obtain ⟨RA,hRA⟩ : ∃ x:Int,x=(ra:Int):=⟨_,rfl⟩;obtain ⟨RB,hRB⟩ : ∃ x:Int,x=(rb:Int):=⟨_,rfl⟩;obtain ⟨CA,hCA⟩ : ∃ x:Int,x=(ca:Int):=⟨_,rfl⟩;obtain ⟨CB,hCB⟩ : ∃ x:Int,x=(cb:Int):=⟨_,rfl⟩;rw [<-hRA,<-hCA] at g2;rw [<-hRB,<-hCB] at g3;have HMI:=aa (show min RA RB=(tp:Int) from by omega);have HMA:=aa (show max RA RB=(en:Int) from by omega);have HCI:=aa (show min CA CB=(f:Int) from by omega);have HCM:=aa (show max CA CB=(t:Int) from by omega);have kL:=aa (show tp<=en/\en<H/\f<=t/\t<W from by omega);clear hRA hRB hCA hCB htp hen hf ht;obtain ⟨lo,lc,elv⟩:=iW.out.1.len;rw [HN.out.len] at elv;subst elv;have jm:=aJ iW.out.1;rw [ky.out] at jm;have hlc:=jm.2.1;have i9:=aa jm.2.2;have jW:=aa (fun i (hi:i<H)=>HN.out.row i hi);have ju:=aa (show Ls.length=H from by rw [<-ky.out];exact HN.out.len);rw [ky.out] at jW;obtain ⟨B,hB⟩:=ab (jB.heap.size);have gP:=aa (show w.heap.size<B/\ga<B/\gb<B from by rw [hB];exact ⟨g1.lt,g2.lt,g3.lt⟩);have kp:=aa (And.intro g1 (And.intro g2 (And.intro g3 (And.intro g4 (show B<=jB.heap.size from by omega)))));have k0:=g2.cell 0 _ rfl;have k2:=g3.cell 0 _ rfl;clear g1 g2 g3 g4 n1 n2 gH jj jh gJ iC i4 hB jm;go_wp2;rw [HMI.out]
  go_loopw [7,8] (fun l i wr=>∃ n:Nat,tp<=n/\n<=en+1/\i=.int .i64 n/\OwnE txtE (fun _=>True) wr B 57 l (cy Ls f t tp (n - tp))/\Has wr w.heap.size [.int .i64 (W:Int),.int .i64 (H:Int),.slice lo H lc,.int .i64 r,.int .i64 c,.bool pd,.bool au] 26/\Has wr ga [.int .i64 RA,.int .i64 CA] 64/\Has wr gb [.int .i64 RB,.int .i64 CB] 64/\Below w.heap.size w wr/\B<=wr.heap.size) (fun _ i _=>en+2 - (intOf i).toNat)
  case atStart=>exact ⟨tp,Nat.le_refl _,by have:=kL.out.1;omega,rfl,by rw [Nat.sub_self];exact OwnE.nil _ _ _ _ _,kp.out⟩
  case round =>
   clear k0 k2 kp;obtain ⟨n,ke,jl,rfl,hown,iQ,lp,lj,hb,hsz⟩:=hrel;obtain ⟨wo,kA⟩:=ab (wr);subst kA;have k0:=lp.cell 0 _ rfl;have k2:=lj.cell 0 _ rfl;have HO:=aa hown;have ic:=aa (And.intro iQ (And.intro lp (And.intro lj (And.intro hb hsz))));clear hown iQ lp lj hb hsz
   go_upto_if 30 with (fail)
   rw [HMA.out]
   by_cases hne:n<=en
   ·have d0:(n:Int)<=(en:Int):=by omega
    obtain ⟨lb,off,cv,rfl,jo,_,l0,l1,hcv⟩:=i9.out n (by have:=ju.out;have:=kL.out.2.1;omega);have il:=jW.out n (by have:=kL.out.2.1;omega);obtain ⟨L,hL⟩:=ab ((Ls.getD n zl).1);rw [<-hL] at il hcv;have gS:=il.2;rw [<-il.1] at gS;obtain ⟨co,cc,ecv⟩:=hcv.len;rw [il.1] at ecv;subst ecv;have kZ:=bR L gS;have iB:f<=t/\t<L.length:=by rw [il.1];exact kL.out.2.2
    have HM:=aa (fun (w':World) (h:HeldE cellE (fun _=>True) w' (.slice co W cc) L)=>cV (fun _=>True) (.slice co W cc) L f t w' h iB.1 iB.2 (fun e=>(kZ.2 f (by omega) e).1) (fun e=>(kZ.1 t iB.2 e).1));obtain ⟨M,hM⟩:=ab (aG L f t);rw [<-hM] at HM;have jw:=aa (bQ gS f t (aQ M));rw [<-hM,il.1] at jw;have HE:=aa (show cy Ls f t tp (n+1 - tp)=cy Ls f t tp (n - tp)++[aN (M.take (aQ M))] from by
     rw [show n+1 - tp=(n - tp)+1 by omega,fg,show tp+(n - tp)=n by omega,<-hL];unfold f6;rw [hM])
    have j8:=aa hcv;have le:=aa (And.intro jo l0);have hnh:(n:Int)<(H:Int):=by have:=kL.out.2.1;omega
    have nd:n<lc:=by have:=ju.out;omega
    clear l0 l1 hcv jo hL il gS kZ iB hM hne
    go_upto_region 8 with (fail)
    clear k0 k2;obtain ⟨gm,gz⟩ : ∃ CC:Array Bool->World->Prop,CC=fun L8 w'=>Has w' w.heap.size [.int .i64 (W:Int),.int .i64 (H:Int),.slice (some ⟨lb,off,none⟩) H lc,.int .i64 r,.int .i64 c,.bool pd,.bool au] 26/\Has w' ga [.int .i64 RA,.int .i64 CA] 64/\Has w' gb [.int .i64 RB,.int .i64 CB] 64/\Below w.heap.size w w'/\B<=w'.heap.size/\Below wo.heap.size wo w':=⟨_,rfl⟩
    obtain ⟨iq,gO,gT,gG⟩:=Reg.xB;obtain ⟨ip,gK,gB,gw,gC,gx,gu,gA,gN,gM,iy,iA,iX,ja,jd,i6,i8,jg,jf,iZ,_,_⟩:=Reg.e20 iq
     (fun xx _=>xx=.pointer (some ⟨w.heap.size,2,none⟩))
     (fun xx _=>xx=.slice (some ⟨lb,off,none⟩) H lc)
     (fun xx _=>xx=.int .i64 n)
     (fun xx _=>xx=.pointer (some ⟨lb,off+n * 2,none⟩))
     (fun xx _=>xx=.pointer (some ⟨lb,off+n * 2,none⟩))
     (fun xx _=>xx=.slice co W cc)
     (fun xx _=>xx=.pointer (some ⟨ga,1,none⟩))
     (fun xx _=>xx=.int .i64 CA)
     (fun xx _=>xx=.pointer (some ⟨gb,1,none⟩))
     (fun xx _=>xx=.int .i64 CB)
     (fun xx _=>xx=.int .i64 f)
     (fun xx _=>xx=.pointer (some ⟨ga,1,none⟩))
     (fun xx _=>xx=.int .i64 CA)
     (fun xx _=>xx=.pointer (some ⟨gb,1,none⟩))
     (fun xx _=>xx=.int .i64 CB)
     (fun xx _=>xx=.int .i64 t)
     (fun x w'=>HeldE cellE (fun _=>True) w' x M)
     (fun x w'=>HeldE cellE (fun _=>True) w' x M)
     (fun _ _=>True) (fun _ _=>True)
     (s16:=fun x w w1 hx h=>by rw [gO] at hx;exact HeldE.below h hx)
     (s17:=fun x w w1 hx h=>by rw [gO] at hx;exact HeldE.below h hx)
    have gI:Hid (∀ i L w, gm L w->gm (L.setIfInBounds i true) w):=aa (by
     intro i L w h;rw [gz] at h ⊢;exact h)
    have gW:Hid (∀ L w w1,gm L w->Below w.heap.size w w1->gm L w1):=aa (by
     intro L w w1 h hb;rw [gz] at h ⊢
     (obtain ⟨q1,q2,q3,q4,q5,q6⟩:=h;exact ⟨q1.below hb q1.lt,q2.below hb q2.lt,q3.below hb q3.lt,q4.trans (hb.mono q4.size),Nat.le_trans q5 hb.size,q6.trans (hb.mono q6.size)⟩))
    have ib:=aa (show gm (Array.replicate 18 false) wo.drew from by rw [gz];(have hb:=(Below.refl wo.heap.size wo).drew;exact ⟨ic.out.1.below hb ic.out.1.lt,ic.out.2.1.below hb ic.out.2.1.lt,ic.out.2.2.1.below hb ic.out.2.2.1.lt,ic.out.2.2.2.1.trans (hb.mono ic.out.2.2.2.1.size),Nat.le_trans ic.out.2.2.2.2 hb.size,hb⟩));have gn:=aa (fun (i:Nat) L w v (h:gm L w) (e:ip i v w)=>Reg.hk (gI.out i L w h) e (gT.out w));have gj:=aa gz;have gy:=aa gO;clear gz gO
    go_wp2_with fail
    refine Reg.regionF ip gm iq gK.out (by kernel_rfl) (by kernel_rfl) (by kernel_rfl) ib.out (fun mO gk=>?_);simp only [Reg.frame,Reg.dsts,List.map_cons,List.map_nil,Mix.put_lit,List.set_cons_succ,List.set_cons_zero,Nat.zero_add,Nat.reduceAdd] at gk;refine ⟨⟨?_,?_,?_,?_,?_,?_,?_,?_,?_,?_,?_,?_,?_,?_,?_,?_,?_,?_,trivial⟩,?_⟩
    ·intro Lq wq xq hh;simp only [gk];refine Reg.go rfl ?_;have HK:=gn.out 0 _ _ _ hh.cls ((gB.out _ _).mpr rfl);go_simp;exact HK.out
    ·intro Lq wq xq hh;simp only [gk,(gB.out _ _).mp (hh.v 0)];refine Reg.go rfl ?_;have hc:gm Lq wq:=hh.cls;rw [gj.out] at hc;have y2:=hc.1.cell 2 _ rfl;clear hc;have HK:=gn.out 1 _ _ _ hh.cls ((gw.out _ _).mpr rfl);go_simp;exact HK.out
    ·intro Lq wq xq hh;simp only [gk];refine Reg.go rfl ?_;have HK:=gn.out 2 _ _ _ hh.cls ((gC.out _ _).mpr rfl);go_simp;exact HK.out
    ·intro Lq wq xq hh;simp only [gk,(gw.out _ _).mp (hh.v 1),(gC.out _ _).mp (hh.v 2)];refine Reg.go rfl ?_;have HK:=gn.out 3 _ _ _ hh.cls ((gx.out _ _).mpr rfl);go_simp;exact HK.out
    ·intro Lq wq xq hh;simp only [gk,(gx.out _ _).mp (hh.v 3)];refine Reg.go rfl ?_;have HK:=gn.out 4 _ _ _ hh.cls ((gu.out _ _).mpr rfl);go_simp;exact HK.out
    ·intro Lq wq xq hh;simp only [gk,(gu.out _ _).mp (hh.v 4)];refine Reg.go rfl ?_;have hc:gm Lq wq:=hh.cls;rw [gj.out] at hc;have y0:=(hc.2.2.2.1.cell (p:=⟨lb,off+n * 2,none⟩) le.out.1).trans le.out.2;clear hc;have HK:=gn.out 5 _ _ _ hh.cls ((gA.out _ _).mpr rfl);go_simp;exact HK.out
    ·intro Lq wq xq hh;simp only [gk];refine Reg.go rfl ?_;have HK:=gn.out 6 _ _ _ hh.cls ((gN.out _ _).mpr rfl);go_simp;exact HK.out
    ·intro Lq wq xq hh;simp only [gk,(gN.out _ _).mp (hh.v 6)];refine Reg.go rfl ?_;have hc:gm Lq wq:=hh.cls;rw [gj.out] at hc;have y0:=hc.2.1.cell 1 _ rfl;clear hc;have HK:=gn.out 7 _ _ _ hh.cls ((gM.out _ _).mpr rfl);go_simp;exact HK.out
    ·intro Lq wq xq hh;simp only [gk];refine Reg.go rfl ?_;have HK:=gn.out 8 _ _ _ hh.cls ((iy.out _ _).mpr rfl);go_simp;exact HK.out
    ·intro Lq wq xq hh;simp only [gk,(iy.out _ _).mp (hh.v 8)];refine Reg.go rfl ?_;have hc:gm Lq wq:=hh.cls;rw [gj.out] at hc;have y0:=hc.2.2.1.cell 1 _ rfl;clear hc;have HK:=gn.out 9 _ _ _ hh.cls ((iA.out _ _).mpr rfl);go_simp;exact HK.out
    ·intro Lq wq xq hh;simp only [gk,(gM.out _ _).mp (hh.v 7),(iA.out _ _).mp (hh.v 9)];refine Reg.go rfl ?_;have hc:gm Lq wq:=hh.cls;rw [gj.out] at hc;have y0:=HCI.out;clear hc;have HK:=gn.out 10 _ _ _ hh.cls ((iX.out _ _).mpr rfl);go_simp;exact HK.out
    ·intro Lq wq xq hh;simp only [gk];refine Reg.go rfl ?_;have HK:=gn.out 11 _ _ _ hh.cls ((ja.out _ _).mpr rfl);go_simp;exact HK.out
    ·intro Lq wq xq hh;simp only [gk,(ja.out _ _).mp (hh.v 11)];refine Reg.go rfl ?_;have hc:gm Lq wq:=hh.cls;rw [gj.out] at hc;have y0:=hc.2.1.cell 1 _ rfl;clear hc;have HK:=gn.out 12 _ _ _ hh.cls ((jd.out _ _).mpr rfl);go_simp;exact HK.out
    ·intro Lq wq xq hh;simp only [gk];refine Reg.go rfl ?_;have HK:=gn.out 13 _ _ _ hh.cls ((i6.out _ _).mpr rfl);go_simp;exact HK.out
    ·intro Lq wq xq hh;simp only [gk,(i6.out _ _).mp (hh.v 13)];refine Reg.go rfl ?_;have hc:gm Lq wq:=hh.cls;rw [gj.out] at hc;have y0:=hc.2.2.1.cell 1 _ rfl;clear hc;have HK:=gn.out 14 _ _ _ hh.cls ((i8.out _ _).mpr rfl);go_simp;exact HK.out
    ·intro Lq wq xq hh;simp only [gk,(jd.out _ _).mp (hh.v 12),(i8.out _ _).mp (hh.v 14)];refine Reg.go rfl ?_;have hc:gm Lq wq:=hh.cls;rw [gj.out] at hc;have y0:=HCM.out;clear hc;have HK:=gn.out 15 _ _ _ hh.cls ((jg.out _ _).mpr rfl);go_simp;exact HK.out
    ·intro Lq wq xq hh;simp only [gk,(gA.out _ _).mp (hh.v 5),(iX.out _ _).mp (hh.v 10),(jg.out _ _).mp (hh.v 15)];refine Reg.go rfl ?_;unfold Reg.upon;have hc:gm Lq wq:=hh.cls;rw [gj.out] at hc;go_simp;refine (HM.out wq (j8.out.below hc.2.2.2.1)).mono ?_;rintro e w4 ⟨u,rfl,hu,rfl⟩;exact ⟨_,rfl,gI.out 16 Lq wq hh.cls,(by rw [jf.out];exact hu),gT.out _⟩
    ·intro Lq wq xq hh;have d16:=(jf.out _ _).mp (hh.v 16);simp only [gk];refine Reg.go rfl ?_;unfold Reg.upon;go_simp;exact ⟨gI.out 17 Lq wq hh.cls,(by rw [iZ.out];exact d16),gT.out _⟩
    intro xq jB gR ik;rw [gj.out] at gR;simp only [gk];have vrg17:=(iZ.out _ _).mp (ik 17 (by decide));clear ik gk gn gI gT gK ib gj gy gW gG gB gw gC gx gu gA gN gM iy iA iX ja jd i6 i8 jg jf iZ;obtain ⟨mv,lW⟩:=ab (xq 17);rw [<-lW] at vrg17 ⊢;clear lW;obtain ⟨mo,mc,emv⟩:=vrg17.len;subst emv;have lS:=aa vrg17;have iV:=aa gR;have kc:=aa (HO.out.below gR.2.2.2.2.2);have ij:=kc.out.lt;have iE:=aa ij;have jA:=aa (show (cy Ls f t tp (n - tp)).length<=1024 from by rw [fL];have:=kL.out;omega);have HNU:=aa (a7 (fun _=>True) _ _ jB (bL lS.out (aQ M) (bU M)) (by have:=jw.out.1;omega));obtain ⟨P0,jT⟩:=ab (cy Ls f t tp (n - tp));obtain ⟨X,hX⟩:=ab (aN (M.take (aQ M)));rw [<-jT] at kc jA HE;rw [<-hX] at HNU HE;clear vrg17 gR ij jT hX ic HO
    go_wp2_with fail
    refine (cK (fun _=>True) mo M.length mc M jB lS.out).mono ?_;rintro e w' ⟨rfl,rfl⟩
    go_wp2_with fail
    refine (HNU.out).mono ?_;rintro e w5 ⟨v1,rfl,ho,hb⟩;have hlo1:=ho.lt;have nu:=ho.held (Z:=fun b=>True/\u7.ownBlock≠some b) (fun b hb _=>⟨trivial,fun e=>by have:=(iE.out b e).2;omega⟩);have HX:=aa (show HeldE txtE (fun b=>True/\u7.ownBlock≠some b) (w5.alloc (.cells [v1].toArray 57)) (.slice (some ⟨w5.heap.size,0,none⟩) 1 1) [X] from bj (Y:=fun b=>True/\u7.ownBlock≠some b) [v1] X ⟨v1,rfl,nu⟩ (fun b _ h=>h) ⟨trivial,fun e=>by have:=(iE.out _ e).2;have:=hb.size;omega⟩);have gF:=hb.alloc hb.size (.cells [v1].toArray 57);have mq:=aa (kc.out.below gF);have io:=aa (And.intro (iV.out.1.below gF iV.out.1.lt) (And.intro (iV.out.2.1.below gF iV.out.2.1.lt) (And.intro (iV.out.2.2.1.below gF iV.out.2.2.1.lt) (And.intro (iV.out.2.2.2.1.trans (gF.mono iV.out.2.2.2.1.size)) (Nat.le_trans iV.out.2.2.2.2.1 gF.size)))));obtain ⟨vo,vc,ev1⟩:=nu.len;subst ev1;clear ho hb hlo1 nu gF iV kc
    go_wp2_with (at_builtin;refine al (E:=txtE) (Z:=fun _=>True) rfl (.tmp 50) (.tmp 54) 71 rfl (.slice none 0 0) 24 Tryd.underlying71 fK rfl (by decide) rfl rfl mq.out HX.out (by have:=jA.out;simp;omega) (by have:=jA.out;simp;omega) io.out.2.2.2.2 ?_)
    intro v2 w7 gU hb2 gZ _;rw [<-HE.out] at gU;have hno:∀ b,b<B->u7.ownBlock≠some b:=fun b hlt e=>by have:=(iE.out b e).1;omega
    have HF:=aa (And.intro gU (And.intro (gZ.has io.out.1 (hno _ gP.out.1)) (And.intro (gZ.has io.out.2.1 (hno _ gP.out.2.1)) (And.intro (gZ.has io.out.2.2.1 (hno _ gP.out.2.2)) (And.intro (io.out.2.2.2.1.trans (hb2.mono (Nat.le_of_lt gP.out.1))) (Nat.le_trans io.out.2.2.2.2 hb2.size))))));clear gU hb2 gZ hno;have kT:=aa d0;go_wp2
    go_roundw
    case rel=>exact ⟨n+1,by omega,by have:=kT.out;omega,by go_num,HF.out⟩
    case measure=>simp [intOf] <;> omega
   ·have d0:¬ (n:Int)<=(en:Int):=by omega
    have HE:=aa (show cy Ls f t tp (n - tp)=cy Ls f t tp (en - tp+1) from by rw [show n - tp=en - tp+1 from by have:=kL.out.1;omega]);have HF:=aa (And.intro (HO.out.base (Nat.le_of_lt gP.out.1)) ic.out.2.2.2.1);clear hne;go_wp2;go_ret;exact ⟨_,rfl,by rw [<-HE.out];exact HF.out.1,HF.out.2⟩
end Go.Proofs.YthdphijabffpiaaDoor
