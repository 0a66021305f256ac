import Derived.Test.YthdphijabffpiaaDoorZ0
import Derived.Test.YthdphijabffpiaaDoorMg6
import Derived.Test.YthdphijabffpiaaDoorMg3
import Derived.Lib.MinMax
import Derived.Deep.Cut
set_option maxRecDepth 100000
set_option linter.unusedVariables false
set_option linter.unusedSimpArgs false
set_option maxHeartbeats 3000000
namespace Go.Proofs.YthdphijabffpiaaDoor
open Go.RowKit Go.ChangeShapes Go.WideShapes
def txtE:Elem (List Int):=slE (aA .i32)
theorem fR:(Tryd.prog.info? 57).map (fun i=>(i.zero,i.size,i.bytes))=some (some (.slice none 0 0),txtE.size,24):=by kernel_rfl
def dk(L:List Cl)(f t:Nat):List Int:=aS ((aJ L f t).take (aU (aJ L f t)))
def ch(Ls:List Ln)(f t tp n:Nat):List (List Int):=(List.range n).map fun k=>dk (Ls.getD (tp+k) zl).1 f t
theorem fp(Ls:List Ln)(f t tp n:Nat):ch Ls f t tp (n+1)=ch Ls f t tp n++[dk (Ls.getD (tp+n) zl).1 f t]:=by
 unfold ch;rw [List.range_succ,List.map_append]
 rfl
theorem dh(Ls:List Ln)(f t tp n:Nat):(ch Ls f t tp n).length=n:=by simp [ch]
def cV(v:Vw)(a0 a1 b0 b1:Int):List (List Int) :=
 if aB v=true then ch v.L (min (ap v.w a1).toNat (ap v.w b1).toNat) (max (ap v.w a1).toNat (ap v.w b1).toNat) (min (ap v.h a0).toNat (ap v.h b0).toNat) (max (ap v.h a0).toNat (ap v.h b0).toNat - min (ap v.h a0).toNat (ap v.h b0).toNat+1) else []
theorem et(sa:Nat->Addr)(v:Vw)(lv:Value)(a0 a1 b0 b1:Int)(w:World)(hs:Five w sa)(hv:ViewAt w v lv):Calls Tryd.prog 39 #[aK v lv,.agg #[.int .i64 a0,.int .i64 a1],.agg #[.int .i64 b0,.int .i64 b1]] w (dU txtE (fun _=>True) 57 w (cV v a0 a1 b0 b1)):=by
 have hl0:=hv.1.max;have ja:=aa (fun (w':World) (b:Below w.heap.size w w')=>cd sa v lv w' (hs.below b) (hv.below b));have jl:=aa hv;have mq:=aa (fun (h:aB v=true)=>cE h);have iX:=aa (fun (h0:1<=v.w) (h1:v.w<=1024) (h2:1<=v.h) (h3:v.h<=1024) (w':World)=>bU v lv a0 a1 w' h0 h1 h2 h3);have jO:=aa (fun (h0:1<=v.w) (h1:v.w<=1024) (h2:1<=v.h) (h3:v.h<=1024) (w':World)=>bU v lv b0 b1 w' h0 h1 h2 h3);obtain ⟨vv,ir⟩:=ab (v);have lL:=aa (show aB vv=aB v from by rw [ir]);rw [<-ir] at mq jl ⊢;obtain ⟨vw,vh,Ls,r,c,pd,au⟩:=v;simp only at iX jO hl0;have ml:aK vv lv=.agg #[.int .i64 vw,.int .i64 vh,lv,.int .i64 r,.int .i64 c,.bool pd,.bool au]:=by rw [ir];rfl
 have ln:vv.L=Ls:=by rw [ir]
 have l5:vv.w=vw:=by rw [ir]
 have lZ:vv.h=vh:=by rw [ir]
 have lC:=aa ln;rw [ml];rw [show ∀ x,aK ⟨vw,vh,Ls,r,c,pd,au⟩ x=.agg #[.int .i64 vw,.int .i64 vh,x,.int .i64 r,.int .i64 c,.bool pd,.bool au] from fun _=>rfl] at ja iX jO;obtain ⟨Wa,gM⟩:=ab (w.alloc (.cells ([.int .i64 vw,.int .i64 vh,lv,.int .i64 r,.int .i64 c,.bool pd,.bool au]:List Value).toArray 26));obtain ⟨Wb,gN⟩:=ab (Wa.alloc (.cells [Value.int .i64 a0,.int .i64 a1].toArray 64));obtain ⟨Wc,ix⟩:=ab (Wb.alloc (.cells [Value.int .i64 b0,.int .i64 b1].toArray 64));have ba:Below w.heap.size w Wa:=by rw [gM];exact af _ _
 have bb:Below Wa.heap.size Wa Wb:=by rw [gN];exact af _ _
 have bc:Below Wb.heap.size Wb Wc:=by rw [ix];exact af _ _
 have sa':Wa.heap.size=w.heap.size+1:=by rw [gM];exact Array.size_push _
 have sb:Wb.heap.size=w.heap.size+2:=by rw [gN,<-Nat.add_assoc w.heap.size 1 1,<-sa'];exact Array.size_push _
 have gva:Has Wa w.heap.size [.int .i64 vw,.int .i64 vh,lv,.int .i64 r,.int .i64 c,.bool pd,.bool au] 26:=by rw [gM];exact Has.new w _ _
 have gaa:Has Wb Wa.heap.size [.int .i64 a0,.int .i64 a1] 64:=by rw [gN];exact Has.new Wa _ _
 have gba:Has Wc Wb.heap.size [.int .i64 b0,.int .i64 b1] 64:=by rw [ix];exact Has.new Wb _ _
 have gva:=Has.below (Has.below gva bb gva.lt) bc (Has.below gva bb gva.lt).lt;have gaa:=Has.below gaa bc gaa.lt;have HB:=aa (ba.trans ((bb.mono ba.size).trans (bc.mono (Nat.le_trans ba.size bb.size))));rw [sa'] at gaa;rw [sb] at gba;obtain ⟨ga,jY⟩:=ab (w.heap.size+1);obtain ⟨gb,hgb⟩:=ab (w.heap.size+2);rw [<-jY] at gaa;rw [<-hgb] at gba;have iu:=aa jY;have iq:=aa hgb;have HV:=aa gva;have HA:=aa gaa;have HD:=aa gba;have q0:=gva.cell 0 _ rfl;have q1:=gva.cell 1 _ rfl;have q2:=gva.cell 2 _ rfl;have q3:=gva.cell 3 _ rfl;have q4:=gva.cell 4 _ rfl;have q5:=gva.cell 5 _ rfl;have q6:=gva.cell 6 _ rfl;have iP:=aa (show ((w.alloc (.cells #[.int .i64 vw,.int .i64 vh,lv,.int .i64 r,.int .i64 c,.bool pd,.bool au] 26)).alloc (.cells #[Value.int .i64 a0,.int .i64 a1] 64)).alloc (.cells #[Value.int .i64 b0,.int .i64 b1] 64)=Wc from by rw [ix,gN,gM]);clear gM gN ix gva gaa gba ba bb bc sa' sb jY hgb hs hv
 cases hR:aB vv with
 |false =>
  have HT:=aa (show cV vv a0 a1 b0 b1=[] from by unfold cV;rw [if_neg (by rw [hR];decide)]);rw [<-lL.out,hR] at ja;clear ir ml ln l5 lZ hR
  go_enter Tryd.func39,Tryd.ntmps39
  go_upto_region 1 with (fail)
  rw [iP.out];rw [show w.heap.size+1+1=gb from by have:=iq.out;omega,<-iu.out]
  go_wp2_with fail
  refine (ja.out _ HB.out).mono ?_;rintro e w1 ⟨rfl,b1⟩;have HF:=aa (HB.out.trans (b1.mono HB.out.size));clear b1;go_wp2;go_ret;exact ⟨_,rfl,by rw [HT.out];exact OwnE.nil _ _ _ _ _,HF.out⟩
 |true =>
  obtain ⟨W,H,hn⟩:=mq.out hR;have ls:=hn.w1;have hw2:=hn.w2;have j7:=hn.h1;have hh2:=hn.h2;obtain ⟨ra,kt,lg⟩:=aI a0 j7;obtain ⟨ca,iL,kF⟩:=aI a1 ls;obtain ⟨rb,kq,lf⟩:=aI b0 j7;obtain ⟨cb,hcb,kD⟩:=aI b1 ls;have ew:vw=(W:Int):=by rw [<-l5];exact hn.wide
  have eh:vh=(H:Int):=by rw [<-lZ];exact hn.high
  have iX:=aa (iX.out (by omega) (by omega) (by omega) (by omega));have jO:=aa (jO.out (by omega) (by omega) (by omega) (by omega));subst ew;subst eh;rw [kt,iL] at iX;rw [kq,hcb] at jO;obtain ⟨tp,mI⟩:=ab (min ra rb);obtain ⟨en,hen⟩:=ab (max ra rb);obtain ⟨f,hf⟩:=ab (min ca cb);obtain ⟨t,ht⟩:=ab (max ca cb);have hT:cV vv a0 a1 b0 b1=ch Ls f t tp (en - tp+1):=by
   unfold cV;rw [if_pos hR,ln,hn.wide,hn.high,kt,iL,kq,hcb,mI,hen,hf,ht];simp only [Int.toNat_natCast]
  have oO:=aa hT;have HN:=aa hn;rw [<-lL.out,hR] at ja;rw [hT];clear ir ml ln l5 lZ hR hT hn mq lL kt iL kq hcb
  go_enter Tryd.func39,Tryd.ntmps39
  go_upto_region 1 with (fail)
  rw [iP.out];rw [show w.heap.size+1+1=gb from by have:=iq.out;omega,<-iu.out]
  go_wp2_with fail
  refine (ja.out _ HB.out).mono ?_;rintro e w1 ⟨rfl,b1⟩;have gR:=aa (HV.out.below b1 HV.out.lt);have kc:=aa (HA.out.below b1 HA.out.lt);have kd:=aa (HD.out.below b1 HD.out.lt);have gU:=aa (HB.out.trans (b1.mono HB.out.size));clear b1 q0 q1 q2 q3 q4 q5 q6 HV HA HD HB iP ja
  go_upto_region 3 with (fail)
  obtain ⟨gA,gL⟩ : ∃ CC:Array Bool->World->Prop,CC=fun L8 w'=>Has w' w.heap.size [.int .i64 (W:Int),.int .i64 (H:Int),lv,.int .i64 r,.int .i64 c,.bool pd,.bool au] 26/\(Mix.one L8 6=0->Has w' ga [.int .i64 a0,.int .i64 a1] 64)/\(Mix.one L8 6=1->Has w' ga [.int .i64 ra,.int .i64 ca] 64)/\(Mix.one L8 7=0->Has w' gb [.int .i64 b0,.int .i64 b1] 64)/\(Mix.one L8 7=1->Has w' gb [.int .i64 rb,.int .i64 cb] 64)/\Below w.heap.size w w':=⟨_,rfl⟩
  obtain ⟨iM,hS,ig,gO⟩:=Reg.xT;obtain ⟨iO,gT,gH,gG,gK,gI,gD,gF,gZ,gY⟩:=Reg.e8 iM
   (fun xx _=>xx=.agg #[.int .i64 (W:Int),.int .i64 (H:Int),lv,.int .i64 r,.int .i64 c,.bool pd,.bool au])
   (fun xx _=>xx=.agg #[.int .i64 a0,.int .i64 a1])
   (fun xx _=>xx=.agg #[.int .i64 ra,.int .i64 ca])
   (fun xx _=>xx=.agg #[.int .i64 (W:Int),.int .i64 (H:Int),lv,.int .i64 r,.int .i64 c,.bool pd,.bool au])
   (fun xx _=>xx=.agg #[.int .i64 b0,.int .i64 b1])
   (fun xx _=>xx=.agg #[.int .i64 rb,.int .i64 cb])
   (fun xx _=>xx=undef)
   (fun xx _=>xx=undef)
  have gS:Hid (∀ i L w,(i == 6 || i == 7)=false ->  gA L w->gA (L.setIfInBounds i true) w):=aa (by
   intro i L w q h;simp only [Bool.or_eq_false_iff,beq_eq_false_iff_ne] at q;rw [gL] at h ⊢;simp only [Mix.one_ne q.1,Mix.one_ne q.2];exact h)
  have ip:Hid (∀ L w w1,gA L w->Below w.heap.size w w1->gA L w1):=aa (by
   intro L w w1 h hb;rw [gL] at h ⊢
   (obtain ⟨q1,q2,q3,q4,q5,q6⟩:=h;exact ⟨q1.below hb q1.lt,fun e=>(q2 e).below hb (q2 e).lt,fun e=>(q3 e).below hb (q3 e).lt,fun e=>(q4 e).below hb (q4 e).lt,fun e=>(q5 e).below hb (q5 e).lt,q6.trans (hb.mono q6.size)⟩))
  have iz:=aa (show gA (Array.replicate 8 false) w1.drew from by rw [gL];(have hb:=(Below.refl w1.heap.size w1).drew;exact ⟨gR.out.below hb gR.out.lt,fun _=>kc.out.below hb kc.out.lt,fun e=>absurd e (by decide),fun _=>kd.out.below hb kd.out.lt,fun e=>absurd e (by decide),gU.out.trans (hb.mono gU.out.size)⟩));have gB:=aa (fun (i:Nat) L w v q (h:gA L w) (e:iO i v w)=>Reg.hk (gS.out i L w q h) e (ig.out w));have gy:=aa gL;have gJ:=aa hS;clear gL hS
  go_wp2_with fail
  refine Reg.regionF iO gA iM gT.out (by kernel_rfl) (by kernel_rfl) (by kernel_rfl) iz.out (fun nA gz=>?_);simp only [Reg.frame,Reg.dsts,List.map_cons,List.map_nil,Mix.put_lit,Reg.put_none,List.set_cons_succ,List.set_cons_zero,Nat.zero_add,Nat.reduceAdd] at gz;refine ⟨⟨?_,?_,?_,?_,?_,?_,?_,?_,trivial⟩,?_⟩
  ·intro Lq wq xq hh;simp only [gz];refine Reg.go rfl ?_;have hc:gA Lq wq:=hh.cls;rw [gy.out] at hc;have z0:=hc.1;have y0:=z0.cell 0 _ rfl;have y1:=z0.cell 1 _ rfl;have y2:=z0.cell 2 _ rfl;have y3:=z0.cell 3 _ rfl;have y4:=z0.cell 4 _ rfl;have y5:=z0.cell 5 _ rfl;have y6:=z0.cell 6 _ rfl;clear z0;clear hc;have HK:=gB.out 0 _ _ _ rfl hh.cls ((gH.out _ _).mpr rfl);go_simp;exact HK.out
  ·intro Lq wq xq hh;simp only [gz];refine Reg.go rfl ?_;have hc:gA Lq wq:=hh.cls;rw [gy.out] at hc;have z0:=hc.2.1 (Mix.one_un (hh.notYet 6 (by kernel_rfl)));have y0:=z0.cell 0 _ rfl;have y1:=z0.cell 1 _ rfl;clear z0;clear hc;have HK:=gB.out 1 _ _ _ rfl hh.cls ((gG.out _ _).mpr rfl);go_simp;exact HK.out
  ·intro Lq wq xq hh;simp only [gz,(gH.out _ _).mp (hh.v 0),(gG.out _ _).mp (hh.v 1)];refine Reg.go rfl ?_;unfold Reg.upon;have hc:gA Lq wq:=hh.cls;rw [gy.out] at hc;go_simp;refine (iX.out wq).mono ?_;rintro e w2 ⟨rfl,hb⟩;exact ⟨_,rfl,gS.out 2 Lq w2 rfl  (ip.out Lq wq w2 hh.cls hb),(by rw [gK.out];try rfl),gO.out wq w2 hb⟩
  ·intro Lq wq xq hh;simp only [gz];refine Reg.go rfl ?_;have hc:gA Lq wq:=hh.cls;rw [gy.out] at hc;have z0:=hc.1;have y0:=z0.cell 0 _ rfl;have y1:=z0.cell 1 _ rfl;have y2:=z0.cell 2 _ rfl;have y3:=z0.cell 3 _ rfl;have y4:=z0.cell 4 _ rfl;have y5:=z0.cell 5 _ rfl;have y6:=z0.cell 6 _ rfl;clear z0;clear hc;have HK:=gB.out 3 _ _ _ rfl hh.cls ((gI.out _ _).mpr rfl);go_simp;exact HK.out
  ·intro Lq wq xq hh;simp only [gz];refine Reg.go rfl ?_;have hc:gA Lq wq:=hh.cls;rw [gy.out] at hc;have z0:=hc.2.2.2.1 (Mix.one_un (hh.notYet 7 (by kernel_rfl)));have y0:=z0.cell 0 _ rfl;have y1:=z0.cell 1 _ rfl;clear z0;clear hc;have HK:=gB.out 4 _ _ _ rfl hh.cls ((gD.out _ _).mpr rfl);go_simp;exact HK.out
  ·intro Lq wq xq hh;simp only [gz,(gI.out _ _).mp (hh.v 3),(gD.out _ _).mp (hh.v 4)];refine Reg.go rfl ?_;unfold Reg.upon;have hc:gA Lq wq:=hh.cls;rw [gy.out] at hc;go_simp;refine (jO.out wq).mono ?_;rintro e w2 ⟨rfl,hb⟩;exact ⟨_,rfl,gS.out 5 Lq w2 rfl  (ip.out Lq wq w2 hh.cls hb),(by rw [gF.out];try rfl),gO.out wq w2 hb⟩
  ·intro Lq wq xq hh;simp only [gz,(gK.out _ _).mp (hh.v 2)];refine Reg.go rfl ?_;unfold Reg.upon;have hc:gA Lq wq:=hh.cls;rw [gy.out] at hc;obtain ⟨q1,q2,q3,q4,q5,q6⟩:=hc;have hz:=q2 hh.un;have y0:=hz.cell 0 _ rfl;have y1:=hz.cell 1 _ rfl;have s0:=hz.free 0;have s1:=hz.free 1;have hu:=((Upd.refl (fun x=>x=ga) wq).setCell (p:=⟨ga,0,none⟩) (.inl rfl) (.int .i64 ra)).setCell (p:=⟨ga,1,none⟩) (.inl rfl) (.int .i64 ca);have hF:gA (Lq.setIfInBounds 6 true) ((wq.setCell ⟨ga,0,none⟩ (.int .i64 ra)).setCell ⟨ga,1,none⟩ (.int .i64 ca))/\iO 6 undef ((wq.setCell ⟨ga,0,none⟩ (.int .i64 ra)).setCell ⟨ga,1,none⟩ (.int .i64 ca))/\iM wq ((wq.setCell ⟨ga,0,none⟩ (.int .i64 ra)).setCell ⟨ga,1,none⟩ (.int .i64 ca)):=by
    refine ⟨?_,by rw [gZ.out],by rw [gJ.out];trivial⟩;rw [gy.out];refine ⟨hu.keep.has q1 (fun e=>by have:=iu.out;have:=iq.out;omega),fun e=>?_,fun _=>(hz.set 0 _).set 1 _,fun e=>hu.keep.has (q4 (by rw [Mix.one_ne (by decide)] at e;exact e)) (fun e=>by have:=iu.out;have:=iq.out;omega),fun e=>hu.keep.has (q5 (by rw [Mix.one_ne (by decide)] at e;exact e)) (fun e=>by have:=iu.out;have:=iq.out;omega),q6.trans (hu.below q6.size fun x e=>by have:=iu.out;have:=iq.out;omega)⟩;rw [Mix.one_set (by rw [hh.size];decide)] at e;exact absurd e (by decide)
   clear q1 q2 q3 q4 q5 q6 hz hu;go_simp
   try exact hF
  ·intro Lq wq xq hh;simp only [gz,(gF.out _ _).mp (hh.v 5)];refine Reg.go rfl ?_;unfold Reg.upon;have hc:gA Lq wq:=hh.cls;rw [gy.out] at hc;obtain ⟨q1,q2,q3,q4,q5,q6⟩:=hc;have hz:=q4 hh.un;have y0:=hz.cell 0 _ rfl;have y1:=hz.cell 1 _ rfl;have s0:=hz.free 0;have s1:=hz.free 1;have hu:=((Upd.refl (fun x=>x=gb) wq).setCell (p:=⟨gb,0,none⟩) (.inl rfl) (.int .i64 rb)).setCell (p:=⟨gb,1,none⟩) (.inl rfl) (.int .i64 cb);have hF:gA (Lq.setIfInBounds 7 true) ((wq.setCell ⟨gb,0,none⟩ (.int .i64 rb)).setCell ⟨gb,1,none⟩ (.int .i64 cb))/\iO 7 undef ((wq.setCell ⟨gb,0,none⟩ (.int .i64 rb)).setCell ⟨gb,1,none⟩ (.int .i64 cb))/\iM wq ((wq.setCell ⟨gb,0,none⟩ (.int .i64 rb)).setCell ⟨gb,1,none⟩ (.int .i64 cb)):=by
    refine ⟨?_,by rw [gY.out],by rw [gJ.out];trivial⟩;rw [gy.out];refine ⟨hu.keep.has q1 (fun e=>by have:=iu.out;have:=iq.out;omega),fun e=>hu.keep.has (q2 (by rw [Mix.one_ne (by decide)] at e;exact e)) (fun e=>by have:=iu.out;have:=iq.out;omega),fun e=>hu.keep.has (q3 (by rw [Mix.one_ne (by decide)] at e;exact e)) (fun e=>by have:=iu.out;have:=iq.out;omega),fun e=>?_,fun _=>(hz.set 0 _).set 1 _,q6.trans (hu.below q6.size fun x e=>by have:=iu.out;have:=iq.out;omega)⟩;rw [Mix.one_set (by rw [hh.size];decide)] at e;exact absurd e (by decide)
   clear q1 q2 q3 q4 q5 q6 hz hu;go_simp
   try exact hF
  intro xq ks ic iH;rw [gy.out] at ic;simp only [gz];clear iH gz gB gS ig gT iz gy gJ ip gO gH gG gK gI gD gF gZ gY;obtain ⟨g1,n1,g2,n2,g3,g4⟩:=ic;have g2:=g2 (by kernel_rfl);have g3:=g3 (by kernel_rfl);obtain ⟨RA,mO⟩ : ∃ x:Int,x=(ra:Int):=⟨_,rfl⟩;obtain ⟨RB,nb⟩ : ∃ x:Int,x=(rb:Int):=⟨_,rfl⟩;obtain ⟨CA,mP⟩ : ∃ x:Int,x=(ca:Int):=⟨_,rfl⟩;obtain ⟨CB,mV⟩ : ∃ x:Int,x=(cb:Int):=⟨_,rfl⟩;rw [<-mO,<-mP] at g2;rw [<-nb,<-mV] at g3;have nU:=aa (show min RA RB=(tp:Int) from by omega);have nH:=aa (show max RA RB=(en:Int) from by omega);have nR:=aa (show min CA CB=(f:Int) from by omega);have nK:=aa (show max CA CB=(t:Int) from by omega);have iN:=aa (show tp<=en/\en<H/\f<=t/\t<W from by omega);clear mO nb mP mV mI hen hf ht;obtain ⟨lo,lc,elv⟩:=jl.out.1.len;rw [HN.out.len] at elv;subst elv;have kf:=aM jl.out.1;rw [lC.out] at kf;have hlc:=kf.2.1;have jW:=aa kf.2.2;have kV:=aa (fun i (hi:i<H)=>HN.out.row i hi);have j8:=aa (show Ls.length=H from by rw [<-lC.out];exact HN.out.len);rw [lC.out] at kV;obtain ⟨B,hB⟩:=ab (ks.heap.size);have hY:=aa (show w.heap.size<B/\ga<B/\gb<B from by rw [hB];exact ⟨g1.lt,g2.lt,g3.lt⟩);have lB:=aa (And.intro g1 (And.intro g2 (And.intro g3 (And.intro g4 (show B<=ks.heap.size from by omega)))));have k0:=g2.cell 0 _ rfl;have k2:=g3.cell 0 _ rfl;clear g1 g2 g3 g4 n1 n2 gR kc kd gU iX jO hB kf;go_wp2;rw [nU.out]
  go_loopw [7,8] (fun l i wr=>∃ n:Nat,tp<=n/\n<=en+1/\i=.int .i64 n/\OwnE txtE (fun _=>True) wr B 57 l (ch Ls f t tp (n - tp))/\Has wr w.heap.size [.int .i64 (W:Int),.int .i64 (H:Int),.slice lo H lc,.int .i64 r,.int .i64 c,.bool pd,.bool au] 26/\Has wr ga [.int .i64 RA,.int .i64 CA] 64/\Has wr gb [.int .i64 RB,.int .i64 CB] 64/\Below w.heap.size w wr/\B<=wr.heap.size) (fun _ i _=>en+2 - (intOf i).toNat)
  case atStart=>exact ⟨tp,Nat.le_refl _,by have:=iN.out.1;omega,rfl,by rw [Nat.sub_self];exact OwnE.nil _ _ _ _ _,lB.out⟩
  case round =>
   clear k0 k2 lB;obtain ⟨n,lk,ke,rfl,hown,jt,mu,lT,hb,hsz⟩:=hrel;obtain ⟨wo,lw⟩:=ab (wr);subst lw;have k0:=mu.cell 0 _ rfl;have k2:=lT.cell 0 _ rfl;have HO:=aa hown;have iB:=aa (And.intro jt (And.intro mu (And.intro lT (And.intro hb hsz))));clear hown jt mu lT hb hsz
   go_upto_if 30 with (fail)
   rw [nH.out]
   by_cases hne:n<=en
   ·have d0:(n:Int)<=(en:Int):=by omega
    obtain ⟨lb,off,cv,rfl,jn,_,l0,l1,hcv⟩:=jW.out n (by have:=j8.out;have:=iN.out.2.1;omega);have il:=kV.out n (by have:=iN.out.2.1;omega);obtain ⟨L,hL⟩:=ab ((Ls.getD n zl).1);rw [<-hL] at il hcv;have gV:=il.2;rw [<-il.1] at gV;obtain ⟨co,cc,ecv⟩:=hcv.len;rw [il.1] at ecv;subst ecv;have kA:=bd L gV;have iQ:f<=t/\t<L.length:=by rw [il.1];exact iN.out.2.2
    have HM:=aa (fun (w':World) (h:HeldE cellE (fun _=>True) w' (.slice co W cc) L)=>c4 (fun _=>True) (.slice co W cc) L f t w' h iQ.1 iQ.2 (fun e=>(kA.2 f (by omega) e).1) (fun e=>(kA.1 t iQ.2 e).1));obtain ⟨M,hM⟩:=ab (aJ L f t);rw [<-hM] at HM;have i8:=aa (bS gV f t (aU M));rw [<-hM,il.1] at i8;have HE:=aa (show ch Ls f t tp (n+1 - tp)=ch Ls f t tp (n - tp)++[aS (M.take (aU M))] from by
     rw [show n+1 - tp=(n - tp)+1 by omega,fp,show tp+(n - tp)=n by omega,<-hL];unfold dk;rw [hM])
    have kY:=aa hcv;have lU:=aa (And.intro jn l0);have hnh:(n:Int)<(H:Int):=by have:=iN.out.2.1;omega
    have oh:n<lc:=by have:=j8.out;omega
    clear l0 l1 hcv jn hL il gV kA iQ hM hne
    go_upto_region 8 with (fail)
    clear k0 k2;obtain ⟨gA,gL⟩ : ∃ CC:Array Bool->World->Prop,CC=fun L8 w'=>Has w' w.heap.size [.int .i64 (W:Int),.int .i64 (H:Int),.slice (some ⟨lb,off,none⟩) H lc,.int .i64 r,.int .i64 c,.bool pd,.bool au] 26/\Has w' ga [.int .i64 RA,.int .i64 CA] 64/\Has w' gb [.int .i64 RB,.int .i64 CB] 64/\Below w.heap.size w w'/\B<=w'.heap.size/\Below wo.heap.size wo w':=⟨_,rfl⟩
    obtain ⟨iM,hS,ig,gO⟩:=Reg.xB;obtain ⟨iO,gT,gH,gG,gK,gI,gD,gF,gZ,gY,iV,iU,jR,j4,j3,j2,jH,j9,jP,jX,_,_⟩:=Reg.e20 iM
     (fun xx _=>xx=.pointer (some ⟨w.heap.size,2,none⟩))
     (fun xx _=>xx=.slice (some ⟨lb,off,none⟩) H lc)
     (fun xx _=>xx=.int .i64 n)
     (fun xx _=>xx=.pointer (some ⟨lb,off+n * 2,none⟩))
     (fun xx _=>xx=.pointer (some ⟨lb,off+n * 2,none⟩))
     (fun xx _=>xx=.slice co W cc)
     (fun xx _=>xx=.pointer (some ⟨ga,1,none⟩))
     (fun xx _=>xx=.int .i64 CA)
     (fun xx _=>xx=.pointer (some ⟨gb,1,none⟩))
     (fun xx _=>xx=.int .i64 CB)
     (fun xx _=>xx=.int .i64 f)
     (fun xx _=>xx=.pointer (some ⟨ga,1,none⟩))
     (fun xx _=>xx=.int .i64 CA)
     (fun xx _=>xx=.pointer (some ⟨gb,1,none⟩))
     (fun xx _=>xx=.int .i64 CB)
     (fun xx _=>xx=.int .i64 t)
     (fun x w'=>HeldE cellE (fun _=>True) w' x M)
     (fun x w'=>HeldE cellE (fun _=>True) w' x M)
     (fun _ _=>True) (fun _ _=>True)
     (s16:=fun x w w1 hx h=>by rw [hS] at hx;exact HeldE.below h hx)
     (s17:=fun x w w1 hx h=>by rw [hS] at hx;exact HeldE.below h hx)
    have gS:Hid (∀ i L w, gA L w->gA (L.setIfInBounds i true) w):=aa (by
     intro i L w h;rw [gL] at h ⊢;exact h)
    have ip:Hid (∀ L w w1,gA L w->Below w.heap.size w w1->gA L w1):=aa (by
     intro L w w1 h hb;rw [gL] at h ⊢
     (obtain ⟨q1,q2,q3,q4,q5,q6⟩:=h;exact ⟨q1.below hb q1.lt,q2.below hb q2.lt,q3.below hb q3.lt,q4.trans (hb.mono q4.size),Nat.le_trans q5 hb.size,q6.trans (hb.mono q6.size)⟩))
    have iz:=aa (show gA (Array.replicate 18 false) wo.drew from by rw [gL];(have hb:=(Below.refl wo.heap.size wo).drew;exact ⟨iB.out.1.below hb iB.out.1.lt,iB.out.2.1.below hb iB.out.2.1.lt,iB.out.2.2.1.below hb iB.out.2.2.1.lt,iB.out.2.2.2.1.trans (hb.mono iB.out.2.2.2.1.size),Nat.le_trans iB.out.2.2.2.2 hb.size,hb⟩));have gB:=aa (fun (i:Nat) L w v (h:gA L w) (e:iO i v w)=>Reg.hk (gS.out i L w h) e (ig.out w));have gy:=aa gL;have gJ:=aa hS;clear gL hS
    go_wp2_with fail
    refine Reg.regionF iO gA iM gT.out (by kernel_rfl) (by kernel_rfl) (by kernel_rfl) iz.out (fun nA gz=>?_);simp only [Reg.frame,Reg.dsts,List.map_cons,List.map_nil,Mix.put_lit,List.set_cons_succ,List.set_cons_zero,Nat.zero_add,Nat.reduceAdd] at gz;refine ⟨⟨?_,?_,?_,?_,?_,?_,?_,?_,?_,?_,?_,?_,?_,?_,?_,?_,?_,?_,trivial⟩,?_⟩
    ·intro Lq wq xq hh;simp only [gz];refine Reg.go rfl ?_;have HK:=gB.out 0 _ _ _ hh.cls ((gH.out _ _).mpr rfl);go_simp;exact HK.out
    ·intro Lq wq xq hh;simp only [gz,(gH.out _ _).mp (hh.v 0)];refine Reg.go rfl ?_;have hc:gA Lq wq:=hh.cls;rw [gy.out] at hc;have y2:=hc.1.cell 2 _ rfl;clear hc;have HK:=gB.out 1 _ _ _ hh.cls ((gG.out _ _).mpr rfl);go_simp;exact HK.out
    ·intro Lq wq xq hh;simp only [gz];refine Reg.go rfl ?_;have HK:=gB.out 2 _ _ _ hh.cls ((gK.out _ _).mpr rfl);go_simp;exact HK.out
    ·intro Lq wq xq hh;simp only [gz,(gG.out _ _).mp (hh.v 1),(gK.out _ _).mp (hh.v 2)];refine Reg.go rfl ?_;have HK:=gB.out 3 _ _ _ hh.cls ((gI.out _ _).mpr rfl);go_simp;exact HK.out
    ·intro Lq wq xq hh;simp only [gz,(gI.out _ _).mp (hh.v 3)];refine Reg.go rfl ?_;have HK:=gB.out 4 _ _ _ hh.cls ((gD.out _ _).mpr rfl);go_simp;exact HK.out
    ·intro Lq wq xq hh;simp only [gz,(gD.out _ _).mp (hh.v 4)];refine Reg.go rfl ?_;have hc:gA Lq wq:=hh.cls;rw [gy.out] at hc;have y0:=(hc.2.2.2.1.cell (p:=⟨lb,off+n * 2,none⟩) lU.out.1).trans lU.out.2;clear hc;have HK:=gB.out 5 _ _ _ hh.cls ((gF.out _ _).mpr rfl);go_simp;exact HK.out
    ·intro Lq wq xq hh;simp only [gz];refine Reg.go rfl ?_;have HK:=gB.out 6 _ _ _ hh.cls ((gZ.out _ _).mpr rfl);go_simp;exact HK.out
    ·intro Lq wq xq hh;simp only [gz,(gZ.out _ _).mp (hh.v 6)];refine Reg.go rfl ?_;have hc:gA Lq wq:=hh.cls;rw [gy.out] at hc;have y0:=hc.2.1.cell 1 _ rfl;clear hc;have HK:=gB.out 7 _ _ _ hh.cls ((gY.out _ _).mpr rfl);go_simp;exact HK.out
    ·intro Lq wq xq hh;simp only [gz];refine Reg.go rfl ?_;have HK:=gB.out 8 _ _ _ hh.cls ((iV.out _ _).mpr rfl);go_simp;exact HK.out
    ·intro Lq wq xq hh;simp only [gz,(iV.out _ _).mp (hh.v 8)];refine Reg.go rfl ?_;have hc:gA Lq wq:=hh.cls;rw [gy.out] at hc;have y0:=hc.2.2.1.cell 1 _ rfl;clear hc;have HK:=gB.out 9 _ _ _ hh.cls ((iU.out _ _).mpr rfl);go_simp;exact HK.out
    ·intro Lq wq xq hh;simp only [gz,(gY.out _ _).mp (hh.v 7),(iU.out _ _).mp (hh.v 9)];refine Reg.go rfl ?_;have hc:gA Lq wq:=hh.cls;rw [gy.out] at hc;have y0:=nR.out;clear hc;have HK:=gB.out 10 _ _ _ hh.cls ((jR.out _ _).mpr rfl);go_simp;exact HK.out
    ·intro Lq wq xq hh;simp only [gz];refine Reg.go rfl ?_;have HK:=gB.out 11 _ _ _ hh.cls ((j4.out _ _).mpr rfl);go_simp;exact HK.out
    ·intro Lq wq xq hh;simp only [gz,(j4.out _ _).mp (hh.v 11)];refine Reg.go rfl ?_;have hc:gA Lq wq:=hh.cls;rw [gy.out] at hc;have y0:=hc.2.1.cell 1 _ rfl;clear hc;have HK:=gB.out 12 _ _ _ hh.cls ((j3.out _ _).mpr rfl);go_simp;exact HK.out
    ·intro Lq wq xq hh;simp only [gz];refine Reg.go rfl ?_;have HK:=gB.out 13 _ _ _ hh.cls ((j2.out _ _).mpr rfl);go_simp;exact HK.out
    ·intro Lq wq xq hh;simp only [gz,(j2.out _ _).mp (hh.v 13)];refine Reg.go rfl ?_;have hc:gA Lq wq:=hh.cls;rw [gy.out] at hc;have y0:=hc.2.2.1.cell 1 _ rfl;clear hc;have HK:=gB.out 14 _ _ _ hh.cls ((jH.out _ _).mpr rfl);go_simp;exact HK.out
    ·intro Lq wq xq hh;simp only [gz,(j3.out _ _).mp (hh.v 12),(jH.out _ _).mp (hh.v 14)];refine Reg.go rfl ?_;have hc:gA Lq wq:=hh.cls;rw [gy.out] at hc;have y0:=nK.out;clear hc;have HK:=gB.out 15 _ _ _ hh.cls ((j9.out _ _).mpr rfl);go_simp;exact HK.out
    ·intro Lq wq xq hh;simp only [gz,(gF.out _ _).mp (hh.v 5),(jR.out _ _).mp (hh.v 10),(j9.out _ _).mp (hh.v 15)];refine Reg.go rfl ?_;unfold Reg.upon;have hc:gA Lq wq:=hh.cls;rw [gy.out] at hc;go_simp;refine (HM.out wq (kY.out.below hc.2.2.2.1)).mono ?_;rintro e w4 ⟨u,rfl,hu,rfl⟩;exact ⟨_,rfl,gS.out 16 Lq wq hh.cls,(by rw [jP.out];exact hu),ig.out _⟩
    ·intro Lq wq xq hh;have d16:=(jP.out _ _).mp (hh.v 16);simp only [gz];refine Reg.go rfl ?_;unfold Reg.upon;go_simp;exact ⟨gS.out 17 Lq wq hh.cls,(by rw [jX.out];exact d16),ig.out _⟩
    intro xq ks ic iH;rw [gy.out] at ic;simp only [gz];have vrg17:=(jX.out _ _).mp (iH 17 (by decide));clear iH gz gB gS ig gT iz gy gJ ip gO gH gG gK gI gD gF gZ gY iV iU jR j4 j3 j2 jH j9 jP jX;obtain ⟨mv,mM⟩:=ab (xq 17);rw [<-mM] at vrg17 ⊢;clear mM;obtain ⟨mo,mc,emv⟩:=vrg17.len;subst emv;have nu:=aa vrg17;have jw:=aa ic;have lu:=aa (HO.out.below ic.2.2.2.2.2);have ij:=lu.out.lt;have iT:=aa ij;have ku:=aa (show (ch Ls f t tp (n - tp)).length<=1024 from by rw [dh];have:=iN.out;omega);have HNU:=aa (be (fun _=>True) _ _ ks (bh nu.out (aU M) (bV M)) (by have:=i8.out.1;omega));obtain ⟨P0,kh⟩:=ab (ch Ls f t tp (n - tp));obtain ⟨X,hX⟩:=ab (aS (M.take (aU M)));rw [<-kh] at lu ku HE;rw [<-hX] at HNU HE;clear vrg17 ic ij kh hX iB HO
    go_wp2_with fail
    refine (cM (fun _=>True) mo M.length mc M ks nu.out).mono ?_;rintro e w' ⟨rfl,rfl⟩
    go_wp2_with fail
    refine (HNU.out).mono ?_;rintro e w5 ⟨v1,rfl,ho,hb⟩;have hlo1:=ho.lt;have oB:=ho.held (Z:=fun b=>True/\u7.ownBlock≠some b) (fun b hb _=>⟨trivial,fun e=>by have:=(iT.out b e).2;omega⟩);have HX:=aa (show HeldE txtE (fun b=>True/\u7.ownBlock≠some b) (w5.alloc (.cells [v1].toArray 57)) (.slice (some ⟨w5.heap.size,0,none⟩) 1 1) [X] from a9 (Y:=fun b=>True/\u7.ownBlock≠some b) [v1] X ⟨v1,rfl,oB⟩ (fun b _ h=>h) ⟨trivial,fun e=>by have:=(iT.out _ e).2;have:=hb.size;omega⟩);have gE:=hb.alloc hb.size (.cells [v1].toArray 57);have kU:=aa (lu.out.below gE);have iI:=aa (And.intro (jw.out.1.below gE jw.out.1.lt) (And.intro (jw.out.2.1.below gE jw.out.2.1.lt) (And.intro (jw.out.2.2.1.below gE jw.out.2.2.1.lt) (And.intro (jw.out.2.2.2.1.trans (gE.mono jw.out.2.2.2.1.size)) (Nat.le_trans jw.out.2.2.2.2.1 gE.size)))));obtain ⟨vo,vc,ev1⟩:=oB.len;subst ev1;clear ho hb hlo1 oB gE jw lu
    go_wp2_with (at_builtin;refine ai (E:=txtE) (Z:=fun _=>True) rfl (.tmp 50) (.tmp 54) 71 rfl (.slice none 0 0) 24 Tryd.underlying71 fR rfl (by decide) rfl rfl kU.out HX.out (by have:=ku.out;simp;omega) (by have:=ku.out;simp;omega) iI.out.2.2.2.2 ?_)
    intro v2 w7 hO hb2 ik _;rw [<-HE.out] at hO;have hno:∀ b,b<B->u7.ownBlock≠some b:=fun b hlt e=>by have:=(iT.out b e).1;omega
    have HF:=aa (And.intro hO (And.intro (ik.has iI.out.1 (hno _ hY.out.1)) (And.intro (ik.has iI.out.2.1 (hno _ hY.out.2.1)) (And.intro (ik.has iI.out.2.2.1 (hno _ hY.out.2.2)) (And.intro (iI.out.2.2.2.1.trans (hb2.mono (Nat.le_of_lt hY.out.1))) (Nat.le_trans iI.out.2.2.2.2 hb2.size))))));clear hO hb2 ik hno;have lV:=aa d0;go_wp2
    go_roundw
    case rel=>exact ⟨n+1,by omega,by have:=lV.out;omega,by go_num,HF.out⟩
    case measure=>simp [intOf] <;> omega
   ·have d0:¬ (n:Int)<=(en:Int):=by omega
    have HE:=aa (show ch Ls f t tp (n - tp)=ch Ls f t tp (en - tp+1) from by rw [show n - tp=en - tp+1 from by have:=iN.out.1;omega]);have HF:=aa (And.intro (HO.out.base (Nat.le_of_lt hY.out.1)) iB.out.2.2.2.1);clear hne;go_wp2;go_ret;exact ⟨_,rfl,by rw [<-HE.out];exact HF.out.1,HF.out.2⟩
end Go.Proofs.YthdphijabffpiaaDoor
