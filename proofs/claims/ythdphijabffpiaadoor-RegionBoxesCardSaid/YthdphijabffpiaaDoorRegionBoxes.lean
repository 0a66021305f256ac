import Derived.Test.YthdphijabffpiaaDoorZ0
import Derived.Test.YthdphijabffpiaaDoorRgnV
import Derived.Test.YthdphijabffpiaaDoorRgnS
import Derived.Test.YthdphijabffpiaaDoorRgnW
import Derived.Test.YthdphijabffpiaaDoorRgnL
import Derived.Test.YthdphijabffpiaaDoorRgnY
import Derived.Test.YthdphijabffpiaaDoorMg4
import Derived.Test.YthdphijabffpiaaDoorMg1
import Derived.Test.YthdphijabffpiaaDoorCards
import Derived.Test.YthdphijabffpiaaDoorTie
import Derived.ProofKit
import Derived.Lib.MinMax
import Derived.Deep.Cut
set_option maxRecDepth 100000
set_option linter.unusedVariables false
set_option linter.unusedSimpArgs false
set_option maxHeartbeats 8000000
namespace Go.Proofs.YthdphijabffpiaaDoor.lawRegionBoxes
open Go.ChangeShapes Go.WideShapes Go.ChangeAt Go.RowKit
theorem one_two(L:Array Bool)(i:Nat):Mix.one L i=0\/Mix.one L i=1:=by unfold Mix.one;split <;> simp
theorem room_law{W:World}{v:Vw}{lv:Value}(hv:HeldE lineE (fun _=>True) W lv v.L)(h0:(Lit.int .i64 v.w).wf=true)(h1:(Lit.int .i64 v.h).wf=true):ViewAt W v lv:=by
 simp [Lit.wf] at h0 h1
 exact ⟨hv,h0.1,h0.2,h1.1,h1.2⟩
theorem place_arg{H:Type}{enc:TypeId × Value->H}{W:World}{base:Nat}{x:Value}{d:DataW H}{p:List MemPlace}(hv:Value.okWide Tryd.prog W .any base 64 x)(h:DataW.Trod enc Tryd.prog W 0 (fun _=>true) true 64 x d p):∃ a b,x=.agg #[.int .i64 a,.int .i64 b]:=by
 obtain ⟨cs,⟨a,b⟩,rfl,⟨C1,C2,hC,rfl,rfl⟩,_⟩:=dG (E:=prE (aA .i64) (aA .i64)) Tryd.underlying64 (c6 Tryd.underlying64 (by kernel_rfl) rfl rfl (bm (k:=.i64) Tryd.underlying3 (by kernel_rfl)) (bm (k:=.i64) Tryd.underlying3 (by kernel_rfl))) hv h;obtain rfl:cs=#[.int .i64 a,.int .i64 b]:=by
  apply Array.toList_inj.1
  rw [hC];rfl
 exact ⟨a,b,rfl⟩
theorem walkN(W:World)(sa:Nat->Addr)(hs:Five W sa)(v:Vw)(lv:Value)(jc:HeldE lineE (fun _=>True) W lv v.L)(h0:(Lit.int .i64 v.w).wf=true)(h1:(Lit.int .i64 v.h).wf=true)(hr:∀ l ∈ v.L,l.1.length * 32<=reachBytes)(a0 a1 b0 b1:Int):Calls Tryd.prog 8 #[.agg #[.int .i64 v.w,.int .i64 v.h,lv,.int .i64 v.r,.int .i64 v.c,.bool v.pd,.bool v.au],.agg #[.int .i64 a0,.int .i64 a1],.agg #[.int .i64 b0,.int .i64 b1]] W (Yes W):=by
 have m6:=room_law jc h0 h1;have hrk:∀ k,k<v.L.length->(v.L.getD k zl).1.length<=4398046511104:=fun k hk=>by
  have h:=hr (v.L.getD k zl) (by rw [List.getD_eq_getElem?_getD,List.getElem?_eq_getElem hk];exact List.getElem_mem hk);have hq:reachBytes=140737488351232:=rfl;rw [hq] at h;omega
 have lD:=aa (fun (w':World) (b:Below W.heap.size W w')=>dT v lv w' (jc.below b) hrk);have nB:=aa (fun (w':World) (b:Below W.heap.size W w')=>dP sa w' (hs.below b));have n5:=aa (fun (x0 x1 y0 y1:Int) (w':World) (b:Below W.heap.size W w')=>dm sa v lv x0 x1 y0 y1 w' (hs.below b) (m6.below b));have kl:=aa (fun (x0 x1 y0 y1:Int) (w':World) (b:Below W.heap.size W w')=>et sa v lv x0 x1 y0 y1 w' (hs.below b) (m6.below b));have me:=aa (fun (w':World) (b:Below W.heap.size W w')=>dI v lv w' (m6.below b));have jl:=aa m6;obtain ⟨lo,lc,rfl⟩:=jc.len;obtain ⟨n,hn⟩:=ab (v.L.length);rw [<-hn] at lD n5 kl me jl ⊢;have ng:=aa hn;obtain ⟨vv,ir⟩:=ab (v);rw [<-ir] at jl ng;have nI:=aa (show cZ v=cZ vv from by rw [ir]);have HTE:=aa (show ∀ x0 x1 y0 y1,cw v x0 x1 y0 y1=cw vv x0 x1 y0 y1 from fun _ _ _ _=>by rw [ir]);have HBE:=aa (show ∀ x0 x1 y0 y1,cV v x0 x1 y0 y1=cV vv x0 x1 y0 y1 from fun _ _ _ _=>by rw [ir]);have mz:=aa (show aB v=aB vv from by rw [ir]);have nL:=aa (fun (x0 x1:Int) (w':World) (h0:1<=vv.w) (h1:vv.w<=1024) (h2:1<=vv.h) (h3:vv.h<=1024)=>dS vv (.slice lo n lc) x0 x1 w' h0 h1 h2 h3);have HRT:=aa (fun (W0 H0:Nat) (hn:NatV vv W0 H0) (r0 c0 r1 c1:Nat) (e1:r0<=r1) (e2:r0=r1->c0<=c1) (e3:r1<H0) (e4:c0<W0) (e5:c1<W0) (w':World) (b:Below W.heap.size W w')=>eQ vv (.slice lo n lc) W0 H0 hn r0 c0 r1 c1 e1 e2 e3 e4 e5 w' (jl.out.below b));obtain ⟨vw,vh,Ls,r,c,pd,au⟩:=v;have hV:∀ x,aK vv x=.agg #[.int .i64 vw,.int .i64 vh,x,.int .i64 r,.int .i64 c,.bool pd,.bool au]:=fun x=>by rw [ir];rfl
 have ol:=aa (show vv.w=vw/\vv.h=vh from by rw [ir];exact ⟨rfl,rfl⟩);have lC:=aa (show vv.L=Ls from by rw [ir]);rw [show ∀ x,aK ⟨vw,vh,Ls,r,c,pd,au⟩ x=.agg #[.int .i64 vw,.int .i64 vh,x,.int .i64 r,.int .i64 c,.bool pd,.bool au] from fun _=>rfl] at lD me;simp only [show ∀ x,aK ⟨vw,vh,Ls,r,c,pd,au⟩ x=.agg #[.int .i64 vw,.int .i64 vh,x,.int .i64 r,.int .i64 c,.bool pd,.bool au] from fun _=>rfl] at n5 kl;simp only [hV] at nL HRT;rw [nI.out] at lD;rw [mz.out] at me;simp only [HTE.out] at n5;simp only [HBE.out] at kl;simp only;clear ir hV nI HTE HBE mz hn hrk m6 jc h0 h1 hr hs;obtain ⟨Wa,gM⟩:=ab (W.alloc (.cells ([.int .i64 vw,.int .i64 vh,.slice lo n lc,.int .i64 r,.int .i64 c,.bool pd,.bool au]:List Value).toArray 26));obtain ⟨Wb,gN⟩:=ab (Wa.alloc (.cells [Value.int .i64 a0,.int .i64 a1].toArray 64));obtain ⟨Wc,ix⟩:=ab (Wb.alloc (.cells [Value.int .i64 b0,.int .i64 b1].toArray 64));have ba:Below W.heap.size W Wa:=by rw [gM];exact af _ _
 have bb:Below Wa.heap.size Wa Wb:=by rw [gN];exact af _ _
 have bc:Below Wb.heap.size Wb Wc:=by rw [ix];exact af _ _
 have sa':Wa.heap.size=W.heap.size+1:=by rw [gM];exact Array.size_push _
 have sb:Wb.heap.size=W.heap.size+2:=by rw [gN,<-Nat.add_assoc W.heap.size 1 1,<-sa'];exact Array.size_push _
 have gva:Has Wa W.heap.size [.int .i64 vw,.int .i64 vh,.slice lo n lc,.int .i64 r,.int .i64 c,.bool pd,.bool au] 26:=by rw [gM];exact Has.new W _ _
 have gaa:Has Wb Wa.heap.size [.int .i64 a0,.int .i64 a1] 64:=by rw [gN];exact Has.new Wa _ _
 have gba:Has Wc Wb.heap.size [.int .i64 b0,.int .i64 b1] 64:=by rw [ix];exact Has.new Wb _ _
 have gva:=Has.below (Has.below gva bb gva.lt) bc (Has.below gva bb gva.lt).lt;have gaa:=Has.below gaa bc gaa.lt;rw [sa'] at gaa;rw [sb] at gba;obtain ⟨gv,i2⟩:=ab (W.heap.size);obtain ⟨ga,jY⟩:=ab (W.heap.size+1);obtain ⟨gb,hgb⟩:=ab (W.heap.size+2);rw [<-i2] at gva;rw [<-jY] at gaa;rw [<-hgb] at gba;have HB:=aa (ba.trans ((bb.mono ba.size).trans (bc.mono (Nat.le_trans ba.size bb.size))));have HV:=aa gva;have HA:=aa gaa;have HD:=aa gba;have iP:=aa (show ((W.alloc (.cells #[.int .i64 vw,.int .i64 vh,.slice lo n lc,.int .i64 r,.int .i64 c,.bool pd,.bool au] 26)).alloc (.cells #[Value.int .i64 a0,.int .i64 a1] 64)).alloc (.cells #[Value.int .i64 b0,.int .i64 b1] 64)=Wc from by rw [ix,gN,gM]);have kO:=aa i2;have iu:=aa jY;have iq:=aa hgb;clear gM gN ix ba bb bc sa' sb gva gaa gba i2 jY hgb
 cases hG:cZ vv with
 |true =>
  rw [hG] at lD;clear hG
  go_enter Tryd.func8,Tryd.ntmps8
  go_upto_region 1 with (fail)
  rw [iP.out,show W.heap.size+1+1=gb from by have:=iq.out;omega,<-iu.out,<-kO.out]
  go_wp2_with fail
  refine (nB.out _ HB.out).mono ?_;rintro e w1 ⟨rfl,b1⟩;have gR:=aa (HV.out.below b1 HV.out.lt);have kc:=aa (HA.out.below b1 HA.out.lt);have kd:=aa (HD.out.below b1 HD.out.lt);have gU:=aa (HB.out.trans (b1.mono HB.out.size));clear b1;have q0:=gR.out.cell 0 _ rfl;have q1:=gR.out.cell 1 _ rfl;have q2:=gR.out.cell 2 _ rfl;have q3:=gR.out.cell 3 _ rfl;have q4:=gR.out.cell 4 _ rfl;have q5:=gR.out.cell 5 _ rfl;have q6:=gR.out.cell 6 _ rfl
  go_wp2_with fail
  refine (lD.out _ gU.out).mono ?_;rintro e w2 ⟨rfl,b2⟩;have HF:=aa (gU.out.trans (b2.mono gU.out.size));clear b2
  go_wp2_with fail
  refine (nB.out _ HF.out).mono ?_;rintro e w3 ⟨rfl,b3⟩;have lY:=aa (HF.out.trans (b3.mono HF.out.size));clear b3;go_wp2;go_ret;exact ⟨ae,lY.out⟩
 |false =>
  rw [hG] at lD;clear hG
  cases hR:aB vv with
  |false =>
   have HT:=aa (show cV vv a0 a1 b0 b1=[] from by unfold cV;rw [if_neg (by rw [hR];decide)]);rw [hR] at me;clear hR
   go_enter Tryd.func8,Tryd.ntmps8
   go_upto_region 1 with (fail)
   rw [iP.out,show W.heap.size+1+1=gb from by have:=iq.out;omega,<-iu.out,<-kO.out]
   go_wp2_with fail
   refine (nB.out _ HB.out).mono ?_;rintro e w1 ⟨rfl,b1⟩;have gR:=aa (HV.out.below b1 HV.out.lt);have kc:=aa (HA.out.below b1 HA.out.lt);have kd:=aa (HD.out.below b1 HD.out.lt);have gU:=aa (HB.out.trans (b1.mono HB.out.size));clear b1;have q0:=gR.out.cell 0 _ rfl;have q1:=gR.out.cell 1 _ rfl;have q2:=gR.out.cell 2 _ rfl;have q3:=gR.out.cell 3 _ rfl;have q4:=gR.out.cell 4 _ rfl;have q5:=gR.out.cell 5 _ rfl;have q6:=gR.out.cell 6 _ rfl
   go_wp2_with fail
   refine (lD.out _ gU.out).mono ?_;rintro e w2 ⟨rfl,b2⟩;have io:=aa (gR.out.below b2 gR.out.lt);have js:=aa (kc.out.below b2 kc.out.lt);have jj:=aa (kd.out.below b2 kd.out.lt);have ii:=aa (gU.out.trans (b2.mono gU.out.size));clear b2 q0 q1 q2 q3 q4 q5 q6;have q0:=io.out.cell 0 _ rfl;have q1:=io.out.cell 1 _ rfl;have q2:=io.out.cell 2 _ rfl;have q3:=io.out.cell 3 _ rfl;have q4:=io.out.cell 4 _ rfl;have q5:=io.out.cell 5 _ rfl;have q6:=io.out.cell 6 _ rfl;have p0:=js.out.cell 0 _ rfl;have p1:=js.out.cell 1 _ rfl;have p2:=jj.out.cell 0 _ rfl;have p3:=jj.out.cell 1 _ rfl
   go_wp2_with fail
   refine (kl.out a0 a1 b0 b1 _ ii.out).mono ?_;rintro e w3 ⟨tv,rfl,ho,b3⟩;rw [HT.out] at ho;obtain ⟨xo,xc,etv⟩:=(ho.held (Z:=fun _=>True) (fun _ _ _=>trivial)).len;rw [show ([]:List (List Int)).length=0 from rfl] at etv;subst etv;have iW:=aa (io.out.below b3 io.out.lt);have oT:=aa (js.out.below b3 js.out.lt);have oR:=aa (jj.out.below b3 jj.out.lt);have jv:=aa (ii.out.trans (b3.mono ii.out.size));clear b3 ho q0 q1 q2 q3 q4 q5 q6 p0 p1 p2 p3;have q0:=iW.out.cell 0 _ rfl;have q1:=iW.out.cell 1 _ rfl;have q2:=iW.out.cell 2 _ rfl;have q3:=iW.out.cell 3 _ rfl;have q4:=iW.out.cell 4 _ rfl;have q5:=iW.out.cell 5 _ rfl;have q6:=iW.out.cell 6 _ rfl
   go_wp2_with fail
   refine (me.out _ jv.out).mono ?_;rintro e w4 ⟨rfl,b4⟩;have HF:=aa (jv.out.trans (b4.mono jv.out.size));clear b4;go_wp2;go_ret;exact ⟨ae,HF.out⟩
  |true =>
   obtain ⟨W0,H0,hn⟩:=cE hR;obtain ⟨ra,kt,lg⟩:=aI a0 hn.h1;obtain ⟨ca,iL,kF⟩:=aI a1 hn.w1;obtain ⟨rb,kq,lf⟩:=aI b0 hn.h1;obtain ⟨cb,hcb,kD⟩:=aI b1 hn.w1;rw [<-hn.high] at kt kq;rw [<-hn.wide] at iL hcb;obtain ⟨tp,mI⟩:=ab (min ra rb);obtain ⟨en,hen⟩:=ab (max ra rb);obtain ⟨f,hf⟩:=ab (min ca cb);obtain ⟨t,ht⟩:=ab (max ca cb);have hT:cV vv a0 a1 b0 b1=ch vv.L f t tp (en - tp+1):=by
    unfold cV;rw [if_pos hR,kt,iL,kq,hcb,mI,hen,hf,ht];simp only [Int.toNat_natCast]
   have hw:=hn.wide;have hh:=hn.high;have h1:=hn.w1;have h2:=hn.w2;have h3:=hn.h1;have h4:=hn.h2;have nV:=aa (fun w'=>nL.out a0 a1 w' (by omega) (by omega) (by omega) (by omega));have lS:=aa (fun w'=>nL.out b0 b1 w' (by omega) (by omega) (by omega) (by omega));simp only [kt,iL] at nV;simp only [kq,hcb] at lS;rw [hR] at me;have HTA:=aa (kl.out a0 a1 b0 b1);rw [hT] at HTA;have iN:=aa (show tp<=en/\en<H0/\f<=t/\t<W0/\W0<=1024/\H0<=1024 from by omega);obtain ⟨RA,mO⟩ : ∃ x:Int,x=(ra:Int):=⟨_,rfl⟩;obtain ⟨RB,nb⟩ : ∃ x:Int,x=(rb:Int):=⟨_,rfl⟩;obtain ⟨CA,mP⟩ : ∃ x:Int,x=(ca:Int):=⟨_,rfl⟩;obtain ⟨CB,mV⟩ : ∃ x:Int,x=(cb:Int):=⟨_,rfl⟩;have nU:=aa (show min RA RB=(tp:Int) from by omega);have nH:=aa (show max RA RB=(en:Int) from by omega);have nR:=aa (show min CA CB=(f:Int) from by omega);have nK:=aa (show max CA CB=(t:Int) from by omega);rw [<-mO,<-mP] at nV;rw [<-nb,<-mV] at lS;have HRO:=aa (fun i (hi:i<H0)=>hn.row i hi);have oQ:=aa (show n=H0 from ng.out.trans hn.len);have j8:=aa (aM jl.out.1).2;clear hR hT kt iL kq hcb lg kF lf kD hw hh h1 h2 h3 h4 hn kl n5 HRT nL mO nb mP mV mI hen hf ht
   go_enter Tryd.func8,Tryd.ntmps8
   go_upto_region 1 with (fail)
   rw [iP.out,show W.heap.size+1+1=gb from by have:=iq.out;omega,<-iu.out,<-kO.out]
   go_wp2_with fail
   refine (nB.out _ HB.out).mono ?_;rintro e w1 ⟨rfl,b1⟩;have gR:=aa (HV.out.below b1 HV.out.lt);have kc:=aa (HA.out.below b1 HA.out.lt);have kd:=aa (HD.out.below b1 HD.out.lt);have gU:=aa (HB.out.trans (b1.mono HB.out.size));clear b1;have q0:=gR.out.cell 0 _ rfl;have q1:=gR.out.cell 1 _ rfl;have q2:=gR.out.cell 2 _ rfl;have q3:=gR.out.cell 3 _ rfl;have q4:=gR.out.cell 4 _ rfl;have q5:=gR.out.cell 5 _ rfl;have q6:=gR.out.cell 6 _ rfl
   go_wp2_with fail
   refine (lD.out _ gU.out).mono ?_;rintro e w2 ⟨rfl,b2⟩;have io:=aa (gR.out.below b2 gR.out.lt);have js:=aa (kc.out.below b2 kc.out.lt);have jj:=aa (kd.out.below b2 kd.out.lt);have ii:=aa (gU.out.trans (b2.mono gU.out.size));clear b2 q0 q1 q2 q3 q4 q5 q6;have q0:=io.out.cell 0 _ rfl;have q1:=io.out.cell 1 _ rfl;have q2:=io.out.cell 2 _ rfl;have q3:=io.out.cell 3 _ rfl;have q4:=io.out.cell 4 _ rfl;have q5:=io.out.cell 5 _ rfl;have q6:=io.out.cell 6 _ rfl;have p0:=js.out.cell 0 _ rfl;have p1:=js.out.cell 1 _ rfl;have p2:=jj.out.cell 0 _ rfl;have p3:=jj.out.cell 1 _ rfl
   go_wp2_with fail
   refine (HTA.out _ ii.out).mono ?_;rintro e w3 ⟨tv,rfl,ho,b3⟩;have kR:=ho.held (Z:=fun _=>True) (fun _ _ _=>trivial);obtain ⟨xo,xc,etv⟩:=kR.len;rw [dh] at etv;obtain ⟨nl,oe⟩:=ab (en - tp+1);rw [<-oe] at etv kR;subst etv;have HTV:=aa kR;have lV:=aa oe;have iW:=aa (io.out.below b3 io.out.lt);have oT:=aa (js.out.below b3 js.out.lt);have oR:=aa (jj.out.below b3 jj.out.lt);have jv:=aa (ii.out.trans (b3.mono ii.out.size));clear b3 ho kR oe q0 q1 q2 q3 q4 q5 q6 p0 p1 p2 p3;have q0:=iW.out.cell 0 _ rfl;have q1:=iW.out.cell 1 _ rfl;have q2:=iW.out.cell 2 _ rfl;have q3:=iW.out.cell 3 _ rfl;have q4:=iW.out.cell 4 _ rfl;have q5:=iW.out.cell 5 _ rfl;have q6:=iW.out.cell 6 _ rfl
   go_wp2_with fail
   refine (me.out _ jv.out).mono ?_;rintro e wq ⟨rfl,b4⟩;have HTQ:=aa (HTV.out.below b4);have mr:=aa (iW.out.below b4 iW.out.lt);have HAQ:=aa (oT.out.below b4 oT.out.lt);have HDQ:=aa (oR.out.below b4 oR.out.lt);have HBQ:=aa (jv.out.trans (b4.mono jv.out.size));clear b4 q0 q1 q2 q3 q4 q5 q6
   go_upto_region 6 with (fail)
   obtain ⟨gA,gL⟩ : ∃ CC:Array Bool->Value->Value->World->Prop,CC=fun L8 x y w'=>Below wq.heap.size wq w'/\(Mix.one L8 6=1->∃ g,x=.pointer (some ⟨g,0,none⟩)/\wq.heap.size<=g/\(Mix.one L8 8=0->Has w' g [.int .i64 0,.int .i64 0] 66)/\(Mix.one L8 8=1->Has w' g [.int .i64 RA,.int .i64 CA] 66))/\(Mix.one L8 7=1->∃ g,y=.pointer (some ⟨g,0,none⟩)/\wq.heap.size<=g/\(Mix.one L8 9=0->Has w' g [.int .i64 0,.int .i64 0] 66)/\(Mix.one L8 9=1->Has w' g [.int .i64 RB,.int .i64 CB] 66))/\(Mix.one L8 6=1->Mix.one L8 7=1->x≠y):=⟨_,rfl⟩
   obtain ⟨iM,hS,ig,gO⟩:=Reg.xT;obtain ⟨iO,gT,gH,gG,gK,gI,gD,gF,gZ,gY,iV,iU,_,_⟩:=Reg.e12 iM
    (fun xx _=>xx=.agg #[.int .i64 vw,.int .i64 vh,.slice lo n lc,.int .i64 r,.int .i64 c,.bool pd,.bool au])
    (fun xx _=>xx=.agg #[.int .i64 a0,.int .i64 a1])
    (fun xx _=>xx=.agg #[.int .i64 RA,.int .i64 CA])
    (fun xx _=>xx=.agg #[.int .i64 vw,.int .i64 vh,.slice lo n lc,.int .i64 r,.int .i64 c,.bool pd,.bool au])
    (fun xx _=>xx=.agg #[.int .i64 b0,.int .i64 b1])
    (fun xx _=>xx=.agg #[.int .i64 RB,.int .i64 CB])
    (fun x w'=>True)
    (fun x w'=>True)
    (fun xx _=>xx=undef)
    (fun xx _=>xx=undef)
    (fun _ _=>True) (fun _ _=>True)
    (s6:=fun x w w1 hx h=>by rw [hS] at hx;exact h)
    (s7:=fun x w w1 hx h=>by rw [hS] at hx;exact h)
   have gS:Hid (∀ i L {x y:Value} w,(i == 6 || i == 7 || i == 8 || i == 9)=false ->  gA L x y w->gA (L.setIfInBounds i true) x y w):=aa (by
    intro i L x y w q h;simp only [Bool.or_eq_false_iff,beq_eq_false_iff_ne] at q;rw [gL] at h ⊢;simp only [Mix.one_ne q.1.1.1,Mix.one_ne q.1.1.2,Mix.one_ne q.1.2,Mix.one_ne q.2];exact h)
   have ip:Hid (∀ L {x y:Value} w w1,gA L x y w->Below w.heap.size w w1->gA L x y w1):=aa (by
    intro L x y w w1 h hb;rw [gL] at h ⊢
    (obtain ⟨q1,q2,q3,q4⟩:=h;exact ⟨q1.trans (hb.mono q1.size),fun e=>by obtain ⟨g,e1,e2,e3,e4⟩:=q2 e;exact ⟨g,e1,e2,fun f=>(e3 f).below hb (e3 f).lt,fun f=>(e4 f).below hb (e4 f).lt⟩,fun e=>by obtain ⟨g,e1,e2,e3,e4⟩:=q3 e;exact ⟨g,e1,e2,fun f=>(e3 f).below hb (e3 f).lt,fun f=>(e4 f).below hb (e4 f).lt⟩,q4⟩))
   have iz:=aa (show ∀ x y,gA (Array.replicate 10 false) x y wq.drew from fun x y=>by rw [gL];exact ⟨(Below.refl _ _).drew,fun e=>absurd e (by decide),fun e=>absurd e (by decide),fun e=>absurd e (by decide)⟩);have gB:=aa (fun (i:Nat) L {x y:Value} w v q (h:gA L x y w) (e:iO i v w)=>Reg.hk (gS.out i L w q h) e (ig.out w));have gy:=aa gL;have gJ:=aa hS;clear gL hS
   go_wp2_with fail
   refine RegC.regionF2 6 7 iO gA iM gT.out (by kernel_rfl) (by kernel_rfl) (by kernel_rfl) iz.out (fun nA gz=>?_);simp only [Reg.frame,Reg.dsts,List.map_cons,List.map_nil,Mix.put_lit,Reg.put_none,List.set_cons_succ,List.set_cons_zero,Nat.zero_add,Nat.reduceAdd] at gz;refine ⟨⟨?_,?_,?_,?_,?_,?_,?_,?_,?_,?_,trivial⟩,?_⟩
   ·intro Lq wq xq hh;simp only [gz];refine Reg.go rfl ?_;have hc:gA Lq (xq 6) (xq 7) wq:=hh.cls;rw [gy.out] at hc;have z0:=mr.out.below hc.1 mr.out.lt;have y0:=z0.cell 0 _ rfl;have y1:=z0.cell 1 _ rfl;have y2:=z0.cell 2 _ rfl;have y3:=z0.cell 3 _ rfl;have y4:=z0.cell 4 _ rfl;have y5:=z0.cell 5 _ rfl;have y6:=z0.cell 6 _ rfl;clear z0;clear hc;have HK:=gB.out 0 _ _ _ rfl hh.cls ((gH.out _ _).mpr rfl);go_simp;exact HK.out
   ·intro Lq wq xq hh;simp only [gz];refine Reg.go rfl ?_;have hc:gA Lq (xq 6) (xq 7) wq:=hh.cls;rw [gy.out] at hc;have z0:=HAQ.out.below hc.1 HAQ.out.lt;have y0:=z0.cell 0 _ rfl;have y1:=z0.cell 1 _ rfl;clear z0;clear hc;have HK:=gB.out 1 _ _ _ rfl hh.cls ((gG.out _ _).mpr rfl);go_simp;exact HK.out
   ·intro Lq wq xq hh;simp only [gz,(gH.out _ _).mp (hh.v 0),(gG.out _ _).mp (hh.v 1)];refine Reg.go rfl ?_;unfold Reg.upon;have hc:gA Lq (xq 6) (xq 7) wq:=hh.cls;rw [gy.out] at hc;go_simp;refine (nV.out wq).mono ?_;rintro e w2 ⟨rfl,hb⟩;exact ⟨_,rfl,gS.out 2 Lq w2 rfl  (ip.out Lq wq w2 hh.cls hb),(by rw [gK.out];try rfl),gO.out wq w2 hb⟩
   ·intro Lq wq xq hh;simp only [gz];refine Reg.go rfl ?_;have hc:gA Lq (xq 6) (xq 7) wq:=hh.cls;rw [gy.out] at hc;have z0:=mr.out.below hc.1 mr.out.lt;have y0:=z0.cell 0 _ rfl;have y1:=z0.cell 1 _ rfl;have y2:=z0.cell 2 _ rfl;have y3:=z0.cell 3 _ rfl;have y4:=z0.cell 4 _ rfl;have y5:=z0.cell 5 _ rfl;have y6:=z0.cell 6 _ rfl;clear z0;clear hc;have HK:=gB.out 3 _ _ _ rfl hh.cls ((gI.out _ _).mpr rfl);go_simp;exact HK.out
   ·intro Lq wq xq hh;simp only [gz];refine Reg.go rfl ?_;have hc:gA Lq (xq 6) (xq 7) wq:=hh.cls;rw [gy.out] at hc;have z0:=HDQ.out.below hc.1 HDQ.out.lt;have y0:=z0.cell 0 _ rfl;have y1:=z0.cell 1 _ rfl;clear z0;clear hc;have HK:=gB.out 4 _ _ _ rfl hh.cls ((gD.out _ _).mpr rfl);go_simp;exact HK.out
   ·intro Lq wq xq hh;simp only [gz,(gI.out _ _).mp (hh.v 3),(gD.out _ _).mp (hh.v 4)];refine Reg.go rfl ?_;unfold Reg.upon;have hc:gA Lq (xq 6) (xq 7) wq:=hh.cls;rw [gy.out] at hc;go_simp;refine (lS.out wq).mono ?_;rintro e w2 ⟨rfl,hb⟩;exact ⟨_,rfl,gS.out 5 Lq w2 rfl  (ip.out Lq wq w2 hh.cls hb),(by rw [gF.out];try rfl),gO.out wq w2 hb⟩
   ·intro Lq wq xq hh;simp only [gz];refine Reg.go rfl ?_;unfold Reg.upon;have hc:gA Lq (xq 6) (xq 7) wq:=hh.cls;rw [gy.out] at hc;have ho8:Mix.one Lq 8=0\/Mix.one Lq 8=1:=one_two _ _;have ho9:Mix.one Lq 9=0\/Mix.one Lq 9=1:=one_two _ _;have hn:=Has.new wq [.int .i64 0,.int .i64 0] 66;have hb:=af wq (.cells [Value.int .i64 0,.int .i64 0].toArray 66);have hF:gA (Lq.setIfInBounds 6 true) (.pointer (some ⟨wq.heap.size,0,none⟩)) (xq 7) (wq.alloc (.cells [Value.int .i64 0,.int .i64 0].toArray 66)):=by
     rw [gy.out];obtain ⟨q1,q2,q3,q4⟩:=hc;refine ⟨q1.trans (hb.mono q1.size),?_,?_,?_⟩
     ·exact fun _=>⟨_,rfl,q1.size,fun _=>hn,fun e=>by rw [Mix.one_ne (by decide),Mix.one_un (hh.notYet 8 (by kernel_rfl))] at e;exact absurd e (by decide)⟩
     ·exact fun e=>by rw [Mix.one_ne (by decide)] at e;obtain ⟨g,e1,e2,e3,e4⟩:=q3 e;exact ⟨g,e1,e2,fun f=>(e3 (by rw [Mix.one_ne (by decide)] at f;exact f)).below hb (e3 (by rw [Mix.one_ne (by decide)] at f;exact f)).lt,fun f=>(e4 (by rw [Mix.one_ne (by decide)] at f;exact f)).below hb (e4 (by rw [Mix.one_ne (by decide)] at f;exact f)).lt⟩
     ·exact fun f1 f2=>by
        rw [Mix.one_ne (by decide)] at f2;obtain ⟨g,e1,e2,e3,e4⟩:=q3 f2;rw [e1];intro e9
        cases e9
        rcases ho9 with f | f
        ·have:=(e3 f).lt;omega
        ·have:=(e4 f).lt;omega
    have hE:iO 6 (.pointer (some ⟨wq.heap.size,0,none⟩)) (wq.alloc (.cells [Value.int .i64 0,.int .i64 0].toArray 66)):=by rw [gZ.out];trivial
    have hX:iM wq (wq.alloc (.cells [Value.int .i64 0,.int .i64 0].toArray 66)):=by rw [gJ.out];trivial
    go_simp;exact ⟨hF,hE,hX⟩
   ·intro Lq wq xq hh;simp only [gz];refine Reg.go rfl ?_;unfold Reg.upon;have hc:gA Lq (xq 6) (xq 7) wq:=hh.cls;rw [gy.out] at hc;have ho8:Mix.one Lq 8=0\/Mix.one Lq 8=1:=one_two _ _;have ho9:Mix.one Lq 9=0\/Mix.one Lq 9=1:=one_two _ _;have hn:=Has.new wq [.int .i64 0,.int .i64 0] 66;have hb:=af wq (.cells [Value.int .i64 0,.int .i64 0].toArray 66);have hF:gA (Lq.setIfInBounds 7 true) (xq 6) (.pointer (some ⟨wq.heap.size,0,none⟩)) (wq.alloc (.cells [Value.int .i64 0,.int .i64 0].toArray 66)):=by
     rw [gy.out];obtain ⟨q1,q2,q3,q4⟩:=hc;refine ⟨q1.trans (hb.mono q1.size),?_,?_,?_⟩
     ·exact fun e=>by rw [Mix.one_ne (by decide)] at e;obtain ⟨g,e1,e2,e3,e4⟩:=q2 e;exact ⟨g,e1,e2,fun f=>(e3 (by rw [Mix.one_ne (by decide)] at f;exact f)).below hb (e3 (by rw [Mix.one_ne (by decide)] at f;exact f)).lt,fun f=>(e4 (by rw [Mix.one_ne (by decide)] at f;exact f)).below hb (e4 (by rw [Mix.one_ne (by decide)] at f;exact f)).lt⟩
     ·exact fun _=>⟨_,rfl,q1.size,fun _=>hn,fun e=>by rw [Mix.one_ne (by decide),Mix.one_un (hh.notYet 9 (by kernel_rfl))] at e;exact absurd e (by decide)⟩
     ·exact fun f1 f2=>by
        rw [Mix.one_ne (by decide)] at f1;obtain ⟨g,e1,e2,e3,e4⟩:=q2 f1;rw [e1];intro e9
        cases e9
        rcases ho8 with f | f
        ·have:=(e3 f).lt;omega
        ·have:=(e4 f).lt;omega
    have hE:iO 7 (.pointer (some ⟨wq.heap.size,0,none⟩)) (wq.alloc (.cells [Value.int .i64 0,.int .i64 0].toArray 66)):=by rw [gY.out];trivial
    have hX:iM wq (wq.alloc (.cells [Value.int .i64 0,.int .i64 0].toArray 66)):=by rw [gJ.out];trivial
    go_simp;exact ⟨hF,hE,hX⟩
   ·intro Lq wq xq hh;have d6:=(gZ.out _ _).mp (hh.v 6);simp only [gz,(gK.out _ _).mp (hh.v 2)];refine Reg.go rfl ?_;unfold Reg.upon;have hc:gA Lq (xq 6) (xq 7) wq:=hh.cls;rw [gy.out] at hc;obtain ⟨q1,q2,q3,q4⟩:=hc;obtain ⟨g,e1,e2,e3,e4⟩:=q2 (hh.isDone 6 (by kernel_rfl));have hz:=e3 hh.un;have y0:=hz.cell 0 _ rfl;have s0:=hz.free 0;have y1:=hz.cell 1 _ rfl;have s1:=hz.free 1;have hu:=((Upd.refl (fun b=>b=g) wq).setCell (p:=⟨g,0,none⟩) (.inl rfl) (.int .i64 RA)).setCell (p:=⟨g,1,none⟩) (.inl rfl) (.int .i64 CA);have hF:gA (Lq.setIfInBounds 8 true) (xq 6) (xq 7) ((wq.setCell ⟨g,0,none⟩ (.int .i64 RA)).setCell ⟨g,1,none⟩ (.int .i64 CA)):=by
     rw [gy.out];exact ⟨q1.trans (hu.below q1.size fun b e=>by omega),fun _=>⟨g,e1,e2,fun e=>(by rw [Mix.one_set (by rw [hh.size];decide)] at e;exact absurd e (by decide)),fun _=>(hz.set 0 _).set 1 _⟩,fun e=>by rw [Mix.one_ne (by decide)] at e;obtain ⟨g2,d1,d2,d3,d4⟩:=q3 e;exact ⟨g2,d1,d2,fun f=>hu.keep.has (d3 (by rw [Mix.one_ne (by decide)] at f;exact f)) (fun e9=>by subst e9;exact q4 (hh.isDone 6 (by kernel_rfl)) e (by rw [e1,d1])),fun f=>hu.keep.has (d4 (by rw [Mix.one_ne (by decide)] at f;exact f)) (fun e9=>by subst e9;exact q4 (hh.isDone 6 (by kernel_rfl)) e (by rw [e1,d1]))⟩,fun f1 f2=>q4 (by rw [Mix.one_ne (by decide)] at f1;exact f1) (by rw [Mix.one_ne (by decide)] at f2;exact f2)⟩
    have hE:iO 8 undef ((wq.setCell ⟨g,0,none⟩ (.int .i64 RA)).setCell ⟨g,1,none⟩ (.int .i64 CA)):=by rw [iV.out]
    have hX:iM wq ((wq.setCell ⟨g,0,none⟩ (.int .i64 RA)).setCell ⟨g,1,none⟩ (.int .i64 CA)):=by rw [gJ.out];trivial
    rw [e1];clear q1 q2 q3 q4 e3 e4 hz hu;go_simp;exact ⟨hF,hE,hX⟩
   ·intro Lq wq xq hh;have d7:=(gY.out _ _).mp (hh.v 7);simp only [gz,(gF.out _ _).mp (hh.v 5)];refine Reg.go rfl ?_;unfold Reg.upon;have hc:gA Lq (xq 6) (xq 7) wq:=hh.cls;rw [gy.out] at hc;obtain ⟨q1,q2,q3,q4⟩:=hc;obtain ⟨g,e1,e2,e3,e4⟩:=q3 (hh.isDone 7 (by kernel_rfl));have hz:=e3 hh.un;have y0:=hz.cell 0 _ rfl;have s0:=hz.free 0;have y1:=hz.cell 1 _ rfl;have s1:=hz.free 1;have hu:=((Upd.refl (fun b=>b=g) wq).setCell (p:=⟨g,0,none⟩) (.inl rfl) (.int .i64 RB)).setCell (p:=⟨g,1,none⟩) (.inl rfl) (.int .i64 CB);have hF:gA (Lq.setIfInBounds 9 true) (xq 6) (xq 7) ((wq.setCell ⟨g,0,none⟩ (.int .i64 RB)).setCell ⟨g,1,none⟩ (.int .i64 CB)):=by
     rw [gy.out];exact ⟨q1.trans (hu.below q1.size fun b e=>by omega),fun e=>by rw [Mix.one_ne (by decide)] at e;obtain ⟨g2,d1,d2,d3,d4⟩:=q2 e;exact ⟨g2,d1,d2,fun f=>hu.keep.has (d3 (by rw [Mix.one_ne (by decide)] at f;exact f)) (fun e9=>by subst e9;exact q4 e (hh.isDone 7 (by kernel_rfl)) (by rw [e1,d1])),fun f=>hu.keep.has (d4 (by rw [Mix.one_ne (by decide)] at f;exact f)) (fun e9=>by subst e9;exact q4 e (hh.isDone 7 (by kernel_rfl)) (by rw [e1,d1]))⟩,fun _=>⟨g,e1,e2,fun e=>(by rw [Mix.one_set (by rw [hh.size];decide)] at e;exact absurd e (by decide)),fun _=>(hz.set 0 _).set 1 _⟩,fun f1 f2=>q4 (by rw [Mix.one_ne (by decide)] at f1;exact f1) (by rw [Mix.one_ne (by decide)] at f2;exact f2)⟩
    have hE:iO 9 undef ((wq.setCell ⟨g,0,none⟩ (.int .i64 RB)).setCell ⟨g,1,none⟩ (.int .i64 CB)):=by rw [iU.out]
    have hX:iM wq ((wq.setCell ⟨g,0,none⟩ (.int .i64 RB)).setCell ⟨g,1,none⟩ (.int .i64 CB)):=by rw [gJ.out];trivial
    rw [e1];clear q1 q2 q3 q4 e3 e4 hz hu;go_simp;exact ⟨hF,hE,hX⟩
   intro xq ks ic iH;rw [gy.out] at ic;simp only [gz];clear iH gz gB gS ig gT iz gy gJ ip gO gH gG gK gI gD gF gZ gY iV iU;obtain ⟨q1,q2,q3,q4⟩:=ic;obtain ⟨g8,e8,l8,n8,z8⟩:=q2 (by kernel_rfl);obtain ⟨g9,e9,l9,n9,z9⟩:=q3 (by kernel_rfl);have H8:=aa (z8 (by kernel_rfl));have H9:=aa (z9 (by kernel_rfl));have ii:=aa q1;rw [e8,e9];clear q1 q2 q3 q4 e8 l8 z8 e9 l9 z9 n8 n9 nV lS;obtain ⟨wy,lh⟩:=ab (ks);subst lh
   go_upto_region 7 with (fail)
   obtain ⟨iE,jm⟩ : ∃ CC:Array Bool->World->Prop,CC=fun L8 w'=>Has w' g8 [.int .i64 RA,.int .i64 CA] 66/\Has w' g9 [.int .i64 RB,.int .i64 CB] 66/\Below wq.heap.size wq w':=⟨_,rfl⟩
   obtain ⟨Xrgs,hXrgs,Hrgsx,Hrgsxb⟩:=Reg.xB;obtain ⟨Ergs,Hrgsst,j1,jL,jS,jI,jU,jC,j5,jE,jG,jQ,i4,i7⟩:=Reg.e12 Xrgs
    (fun xx _=>xx=.pointer (some ⟨g8,0,none⟩))
    (fun xx _=>xx=.int .i64 RA)
    (fun xx _=>xx=.pointer (some ⟨g9,0,none⟩))
    (fun xx _=>xx=.int .i64 RB)
    (fun xx _=>xx=.int .i64 tp)
    (fun xx _=>xx=.pointer (some ⟨g8,0,none⟩))
    (fun xx _=>xx=.int .i64 RA)
    (fun xx _=>xx=.pointer (some ⟨g9,0,none⟩))
    (fun xx _=>xx=.int .i64 RB)
    (fun xx _=>xx=.int .i64 en)
    (fun xx _=>xx=.int .i64 tp)
    (fun xx _=>xx=.int .i64 en)
   have Hrgsk:Hid (∀ i L w, iE L w->iE (L.setIfInBounds i true) w):=aa (by
    intro i L w h;rw [jm] at h ⊢;exact h)
   have Hrgsb:Hid (∀ L w w1,iE L w->Below w.heap.size w w1->iE L w1):=aa (by
    intro L w w1 h hb;rw [jm] at h ⊢
    (obtain ⟨q1,q2,q3⟩:=h;exact ⟨q1.below hb q1.lt,q2.below hb q2.lt,q3.trans (hb.mono q3.size)⟩))
   have Hrgsc:=aa (show iE (Array.replicate 12 false) wy.drew from by rw [jm];(have hb:=(Below.refl wy.heap.size wy).drew;exact ⟨H8.out.below hb H8.out.lt,H9.out.below hb H9.out.lt,ii.out.trans (hb.mono ii.out.size)⟩));have g6:=aa (fun (i:Nat) L w v (h:iE L w) (e:Ergs i v w)=>Reg.hk (Hrgsk.out i L w h) e (Hrgsx.out w));have ie:=aa jm;have HrgshX:=aa hXrgs;clear jm hXrgs
   go_wp2_with fail
   refine Reg.regionF Ergs iE Xrgs Hrgsst.out (by kernel_rfl) (by kernel_rfl) (by kernel_rfl) Hrgsc.out (fun Frgs gQ=>?_);simp only [Reg.frame,Reg.dsts,List.map_cons,List.map_nil,Mix.put_lit,List.set_cons_succ,List.set_cons_zero,Nat.zero_add,Nat.reduceAdd] at gQ;refine ⟨⟨?_,?_,?_,?_,?_,?_,?_,?_,?_,?_,?_,?_,trivial⟩,?_⟩
   ·intro Lq wq xq hh;simp only [gQ];refine Reg.go rfl ?_;have HK:=g6.out 0 _ _ _ hh.cls ((j1.out _ _).mpr rfl);go_simp;exact HK.out
   ·intro Lq wq xq hh;simp only [gQ,(j1.out _ _).mp (hh.v 0)];refine Reg.go rfl ?_;have hc:iE Lq wq:=hh.cls;rw [ie.out] at hc;have y0:=hc.1.cell 0 _ rfl;clear hc;have HK:=g6.out 1 _ _ _ hh.cls ((jL.out _ _).mpr rfl);go_simp;exact HK.out
   ·intro Lq wq xq hh;simp only [gQ];refine Reg.go rfl ?_;have HK:=g6.out 2 _ _ _ hh.cls ((jS.out _ _).mpr rfl);go_simp;exact HK.out
   ·intro Lq wq xq hh;simp only [gQ,(jS.out _ _).mp (hh.v 2)];refine Reg.go rfl ?_;have hc:iE Lq wq:=hh.cls;rw [ie.out] at hc;have y0:=hc.2.1.cell 0 _ rfl;clear hc;have HK:=g6.out 3 _ _ _ hh.cls ((jI.out _ _).mpr rfl);go_simp;exact HK.out
   ·intro Lq wq xq hh;simp only [gQ,(jL.out _ _).mp (hh.v 1),(jI.out _ _).mp (hh.v 3)];refine Reg.go rfl ?_;have hc:iE Lq wq:=hh.cls;rw [ie.out] at hc;have y0:=nU.out;clear hc;have HK:=g6.out 4 _ _ _ hh.cls ((jU.out _ _).mpr rfl);go_simp;exact HK.out
   ·intro Lq wq xq hh;simp only [gQ];refine Reg.go rfl ?_;have HK:=g6.out 5 _ _ _ hh.cls ((jC.out _ _).mpr rfl);go_simp;exact HK.out
   ·intro Lq wq xq hh;simp only [gQ,(jC.out _ _).mp (hh.v 5)];refine Reg.go rfl ?_;have hc:iE Lq wq:=hh.cls;rw [ie.out] at hc;have y0:=hc.1.cell 0 _ rfl;clear hc;have HK:=g6.out 6 _ _ _ hh.cls ((j5.out _ _).mpr rfl);go_simp;exact HK.out
   ·intro Lq wq xq hh;simp only [gQ];refine Reg.go rfl ?_;have HK:=g6.out 7 _ _ _ hh.cls ((jE.out _ _).mpr rfl);go_simp;exact HK.out
   ·intro Lq wq xq hh;simp only [gQ,(jE.out _ _).mp (hh.v 7)];refine Reg.go rfl ?_;have hc:iE Lq wq:=hh.cls;rw [ie.out] at hc;have y0:=hc.2.1.cell 0 _ rfl;clear hc;have HK:=g6.out 8 _ _ _ hh.cls ((jG.out _ _).mpr rfl);go_simp;exact HK.out
   ·intro Lq wq xq hh;simp only [gQ,(j5.out _ _).mp (hh.v 6),(jG.out _ _).mp (hh.v 8)];refine Reg.go rfl ?_;have hc:iE Lq wq:=hh.cls;rw [ie.out] at hc;have y0:=nH.out;clear hc;have HK:=g6.out 9 _ _ _ hh.cls ((jQ.out _ _).mpr rfl);go_simp;exact HK.out
   ·intro Lq wq xq hh;simp only [gQ,(jU.out _ _).mp (hh.v 4)];refine Reg.go rfl ?_;have HK:=g6.out 10 _ _ _ hh.cls ((i4.out _ _).mpr rfl);go_simp;exact HK.out
   ·intro Lq wq xq hh;simp only [gQ,(jQ.out _ _).mp (hh.v 9)];refine Reg.go rfl ?_;have HK:=g6.out 11 _ _ _ hh.cls ((i7.out _ _).mpr rfl);go_simp;exact HK.out
   intro xq wrgs hcrgs kw;rw [ie.out] at hcrgs;simp only [gQ];have vrgs10:=(i4.out _ _).mp (kw 10 (by decide));rw [vrgs10];have vrgs11:=(i7.out _ _).mp (kw 11 (by decide));rw [vrgs11];clear kw gQ g6 Hrgsk Hrgsx Hrgsst Hrgsc ie HrgshX Hrgsb Hrgsxb j1 jL jS jI jU jC j5 jE jG jQ i4 i7;obtain ⟨q1,q2,q3⟩:=hcrgs;replace H8:=aa q1;replace H9:=aa q2;replace ii:=aa q3;obtain ⟨wz,hwz⟩:=ab (wrgs);subst hwz;clear q1 q2 q3
   go_upto_region 8 with (fail)
   obtain ⟨iF,jo⟩ : ∃ CC:Array Bool->World->Prop,CC=fun L8 w'=>Has w' g8 [.int .i64 RA,.int .i64 CA] 66/\Has w' g9 [.int .i64 RB,.int .i64 CB] 66/\Below wq.heap.size wq w':=⟨_,rfl⟩
   obtain ⟨Xrgc,hXrgc,Hrgcx,Hrgcxb⟩:=Reg.xB;obtain ⟨Ergc,Hrgcst,j0,jV,jF,jA,jB,jT,j6,jK,jD,jZ,i6,i1⟩:=Reg.e12 Xrgc
    (fun xx _=>xx=.pointer (some ⟨g8,1,none⟩))
    (fun xx _=>xx=.int .i64 CA)
    (fun xx _=>xx=.pointer (some ⟨g9,1,none⟩))
    (fun xx _=>xx=.int .i64 CB)
    (fun xx _=>xx=.int .i64 f)
    (fun xx _=>xx=.pointer (some ⟨g8,1,none⟩))
    (fun xx _=>xx=.int .i64 CA)
    (fun xx _=>xx=.pointer (some ⟨g9,1,none⟩))
    (fun xx _=>xx=.int .i64 CB)
    (fun xx _=>xx=.int .i64 t)
    (fun xx _=>xx=.int .i64 f)
    (fun xx _=>xx=.int .i64 t)
   have Hrgck:Hid (∀ i L w, iF L w->iF (L.setIfInBounds i true) w):=aa (by
    intro i L w h;rw [jo] at h ⊢;exact h)
   have Hrgcb:Hid (∀ L w w1,iF L w->Below w.heap.size w w1->iF L w1):=aa (by
    intro L w w1 h hb;rw [jo] at h ⊢
    (obtain ⟨q1,q2,q3⟩:=h;exact ⟨q1.below hb q1.lt,q2.below hb q2.lt,q3.trans (hb.mono q3.size)⟩))
   have Hrgcc:=aa (show iF (Array.replicate 12 false) wz.drew from by rw [jo];(have hb:=(Below.refl wz.heap.size wz).drew;exact ⟨H8.out.below hb H8.out.lt,H9.out.below hb H9.out.lt,ii.out.trans (hb.mono ii.out.size)⟩));have gW:=aa (fun (i:Nat) L w v (h:iF L w) (e:Ergc i v w)=>Reg.hk (Hrgck.out i L w h) e (Hrgcx.out w));have ib:=aa jo;have HrgchX:=aa hXrgc;clear jo hXrgc
   go_wp2_with fail
   refine Reg.regionF Ergc iF Xrgc Hrgcst.out (by kernel_rfl) (by kernel_rfl) (by kernel_rfl) Hrgcc.out (fun Frgc gP=>?_);simp only [Reg.frame,Reg.dsts,List.map_cons,List.map_nil,Mix.put_lit,List.set_cons_succ,List.set_cons_zero,Nat.zero_add,Nat.reduceAdd] at gP;refine ⟨⟨?_,?_,?_,?_,?_,?_,?_,?_,?_,?_,?_,?_,trivial⟩,?_⟩
   ·intro Lq wq xq hh;simp only [gP];refine Reg.go rfl ?_;have HK:=gW.out 0 _ _ _ hh.cls ((j0.out _ _).mpr rfl);go_simp;exact HK.out
   ·intro Lq wq xq hh;simp only [gP,(j0.out _ _).mp (hh.v 0)];refine Reg.go rfl ?_;have hc:iF Lq wq:=hh.cls;rw [ib.out] at hc;have y0:=hc.1.cell 1 _ rfl;clear hc;have HK:=gW.out 1 _ _ _ hh.cls ((jV.out _ _).mpr rfl);go_simp;exact HK.out
   ·intro Lq wq xq hh;simp only [gP];refine Reg.go rfl ?_;have HK:=gW.out 2 _ _ _ hh.cls ((jF.out _ _).mpr rfl);go_simp;exact HK.out
   ·intro Lq wq xq hh;simp only [gP,(jF.out _ _).mp (hh.v 2)];refine Reg.go rfl ?_;have hc:iF Lq wq:=hh.cls;rw [ib.out] at hc;have y0:=hc.2.1.cell 1 _ rfl;clear hc;have HK:=gW.out 3 _ _ _ hh.cls ((jA.out _ _).mpr rfl);go_simp;exact HK.out
   ·intro Lq wq xq hh;simp only [gP,(jV.out _ _).mp (hh.v 1),(jA.out _ _).mp (hh.v 3)];refine Reg.go rfl ?_;have hc:iF Lq wq:=hh.cls;rw [ib.out] at hc;have y0:=nR.out;clear hc;have HK:=gW.out 4 _ _ _ hh.cls ((jB.out _ _).mpr rfl);go_simp;exact HK.out
   ·intro Lq wq xq hh;simp only [gP];refine Reg.go rfl ?_;have HK:=gW.out 5 _ _ _ hh.cls ((jT.out _ _).mpr rfl);go_simp;exact HK.out
   ·intro Lq wq xq hh;simp only [gP,(jT.out _ _).mp (hh.v 5)];refine Reg.go rfl ?_;have hc:iF Lq wq:=hh.cls;rw [ib.out] at hc;have y0:=hc.1.cell 1 _ rfl;clear hc;have HK:=gW.out 6 _ _ _ hh.cls ((j6.out _ _).mpr rfl);go_simp;exact HK.out
   ·intro Lq wq xq hh;simp only [gP];refine Reg.go rfl ?_;have HK:=gW.out 7 _ _ _ hh.cls ((jK.out _ _).mpr rfl);go_simp;exact HK.out
   ·intro Lq wq xq hh;simp only [gP,(jK.out _ _).mp (hh.v 7)];refine Reg.go rfl ?_;have hc:iF Lq wq:=hh.cls;rw [ib.out] at hc;have y0:=hc.2.1.cell 1 _ rfl;clear hc;have HK:=gW.out 8 _ _ _ hh.cls ((jD.out _ _).mpr rfl);go_simp;exact HK.out
   ·intro Lq wq xq hh;simp only [gP,(j6.out _ _).mp (hh.v 6),(jD.out _ _).mp (hh.v 8)];refine Reg.go rfl ?_;have hc:iF Lq wq:=hh.cls;rw [ib.out] at hc;have y0:=nK.out;clear hc;have HK:=gW.out 9 _ _ _ hh.cls ((jZ.out _ _).mpr rfl);go_simp;exact HK.out
   ·intro Lq wq xq hh;simp only [gP,(jB.out _ _).mp (hh.v 4)];refine Reg.go rfl ?_;have HK:=gW.out 10 _ _ _ hh.cls ((i6.out _ _).mpr rfl);go_simp;exact HK.out
   ·intro Lq wq xq hh;simp only [gP,(jZ.out _ _).mp (hh.v 9)];refine Reg.go rfl ?_;have HK:=gW.out 11 _ _ _ hh.cls ((i1.out _ _).mpr rfl);go_simp;exact HK.out
   intro xq wrgc hcrgc kx;rw [ib.out] at hcrgc;simp only [gP];have vrgc10:=(i6.out _ _).mp (kx 10 (by decide));rw [vrgc10];have vrgc11:=(i1.out _ _).mp (kx 11 (by decide));rw [vrgc11];clear kx gP gW Hrgck Hrgcx Hrgcst Hrgcc ib HrgchX Hrgcb Hrgcxb j0 jV jF jA jB jT j6 jK jD jZ i6 i1;obtain ⟨q1,q2,q3⟩:=hcrgc;obtain ⟨wv,hwv⟩:=ab (wrgc);subst hwv;have oJ:=aa (HBQ.out.trans (q3.mono HBQ.out.size));have HVV:=aa (mr.out.below q3 mr.out.lt);have HTV2:=aa (HTQ.out.below q3);clear q1 q2 q3 H8 H9 ii nU nH nR nK;clear vrgc10 vrgc11;obtain ⟨e1,he1⟩:=ab (en - tp);have ls:IntKind.i64.wrap ((en:Int) - (tp:Int))=(e1:Int):=by rw [IntKind.wrap_i64];have:=iN.out;omega
   have hw2:IntKind.i64.wrap ((e1:Int)+1)=(nl:Int):=by rw [IntKind.wrap_i64];have:=iN.out;have:=lV.out;omega
   have it:Hid (Below W.heap.size W wv):=oJ;clear he1;go_wp2;clear ls hw2
   go_loopw [14] (fun i wr=>∃ k:Nat,tp<=k/\k<=en+1/\i=.int .i64 k/\Below wv.heap.size wv wr) (fun i _=>en+2 - (intOf i).toNat)
   case atStart=>exact ⟨tp,Nat.le_refl _,by have:=iN.out.1;omega,rfl,Below.refl _ _⟩
   case round =>
    obtain ⟨k,jh,kN,rfl,hb⟩:=hrel;obtain ⟨wo,lw⟩:=ab (wr);subst lw;have kl:=aa hb;have hZ:=oJ.out.trans (hb.mono oJ.out.size)
    by_cases hke:k<=en
    ·have d0:(k:Int)<=(en:Int):=by omega
     have ov:k<H0:=by have:=iN.out;omega
     obtain ⟨lb,off,cv,rfl,jn,_,l0,_,hcv⟩:=j8.out.2 k (by rw [<-ng.out,oQ.out];exact ov);have il:=HRO.out k ov;obtain ⟨L,hL⟩:=ab ((vv.L.getD k zl).1);rw [<-hL] at il hcv;have gV:=il.2;rw [<-il.1] at gV;obtain ⟨co,cc,ecv⟩:=hcv.len;rw [il.1] at ecv;subst ecv;have nM:=HVV.out.below hb HVV.out.lt;have q2:=nM.cell 2 _ rfl;have l0:=(hZ.cell (p:=⟨lb,off+k * 2,none⟩) jn).trans l0;have gE:Below wo.heap.size wo (wo.alloc (.cells #[] 74)):=af _ _;have q2':=(nM.below gE nM.lt).cell 2 _ rfl;have l0':=(gE.cell (p:=⟨lb,off+k * 2,none⟩) (Nat.lt_of_lt_of_le jn hZ.size)).trans l0;have kU:=aa (OwnE.fresh0 (E:=cellE) (Z:=fun _=>True) wo 74 (B:=wo.heap.size) (Nat.le_refl _));have HU5:=aa (((hcv.zone (Y:=fun b=>b<W.heap.size) (fun b hb _=>hb)).below (hZ.trans (gE.mono hZ.size))).zone (Y:=fun b=>True/\(Value.slice (some ⟨wo.heap.size,0,none⟩) 0 0).ownBlock≠some b) (fun b _ hz=>⟨trivial,fun e=>by
      simp only [Value.ownBlock,Option.some.injEq] at e;have:=hZ.size;omega⟩))
     have jx:=aa gV;have iJ:=aa il.1;have HLE:=aa hL;have hkn:(k:Int)<(n:Int):=by have:=oQ.out;omega
     have hknc:k<lc:=by have:=oQ.out;have:=j8.out.1;omega
     have hU:=aa (show W0<=1024/\0<W0 from by have:=iN.out;omega);have HS5:=aa gE.size;have hw1024:W0<=1024:=hU.out.1;clear hcv hL il gV hb hZ jn nM gE ov hke
     go_wp2_with (at_builtin;refine ai (E:=cellE) (Z:=fun _=>True) rfl (.tmp 75) (.tmp 81) 28 rfl (.agg #[.int .i64 0,.slice none 0 0]) 32 Tryd.underlying28 e6 rfl (by decide) rfl rfl kU.out HU5.out (by have:=hU.out;have:=iJ.out;simp;omega) (by have:=hU.out;have:=iJ.out;simp;omega) HS5.out ?_)
     intro v2 w5 hO hb2 _ _;have hc2:=hO.held (Z:=fun _=>True) (fun _ _ _=>trivial)
     try rw [List.nil_append] at hc2
     obtain ⟨c2,c3,ev2⟩:=hc2.len;rw [iJ.out] at ev2;subst ev2;have kS:=aa hc2;have iY:=aa (kl.out.trans (((af wo (.cells #[] 74)).trans hb2).mono kl.out.size));obtain ⟨ki,hcc,iL⟩:=aP hc2;obtain ⟨cb,coff,tv1,rfl,hcb,_,_,_,_⟩:=iL 0 (by rw [iJ.out];exact hU.out.2);have l3:=aa iL;have ly:IntKind.i64.wrap ((W0:Int) - 1)=aC W0:=by unfold aC;rw [IntKind.wrap_i64];have:=hU.out;omega
     obtain ⟨P,hP⟩ : ∃ P:Nat->Prop,P=fw L t:=⟨_,rfl⟩;have jp:t<L.length:=by rw [iJ.out];exact iN.out.2.2.2.1
     have hTl:am L t<L.length:=by
      unfold am
      split
      ·next h=>exact ((bd L jx.out).1 t jp h).1
      ·exact jp
     obtain ⟨mN,lq⟩:=ab (aw L (am L t+1));have lK:=aa (show P W0 from by rw [hP];exact .inl (by rw [<-iJ.out];omega));have mK:=aa (show ∀ q,q<W0->P (q+1)->dN L t q=true->P q from fun q hq hp he=>by rw [hP] at hp ⊢;exact fU L t q jx.out jp (by rw [iJ.out];exact hq) hp he);have mT:=aa (show ∀ q,q<=W0->P q->(∀ j,q=j+1->dN L t j=false)->q=mN from fun q hq hp he=>by rw [hP] at hp;rw [lq];exact f7 L t q jx.out jp (by rw [iJ.out];exact hq) hp he);obtain ⟨F,hF⟩:=ab (aO L f);obtain ⟨T,hT⟩:=ab (am L t);have mX:=aa (show F<=T from by
      have iQ:=iN.out.2.2.1;rw [hF,hT];unfold aO am
      split <;> split <;> omega)
     have nC:=aa (show dk L f t=aE L F T mN from by rw [hF,hT,lq];exact fT L f t (by rw [<-hF,<-hT];exact mX.out) hTl);have i8:=aa (show mN<=W0 from by rw [lq,<-iJ.out];have:=bB L (am L t+1);omega);have HBT:=aa (fun j (hj:j<W0)=>show dp (L.getD j zc).1 (k:Int) j k f k t=decide (F<=j/\j<=T) from by
      have h9:=dB L W0 k f k t k j iJ.out jx.out (Nat.le_refl _) (Nat.le_refl _) (fun _=>iN.out.2.2.1) (by have:=iN.out;omega) iN.out.2.2.2.1 hj;rw [show aZ k f k=f from if_pos rfl,show toN W0 k t k=t from if_pos rfl,<-hF,<-hT] at h9;exact h9)
     have nW:=aa (fun j (hj:j<=L.length)=>cK jx.out F T j hj);clear hO hb2 hc2 ki iL q2 q2' l0 l0' jp hTl hP lq hF hT hcb kU HU5;go_wp2
     go_loopw [15,16] (fun cv kv wr=>∃ m:Nat,m<=W0/\cv=.slice (some ⟨cb,coff,none⟩) m c3/\kv=.int .i64 (aC m)/\P m/\wr=w5) (fun _ kv _=>(intOf kv+1).toNat)
     case atStart=>exact ⟨W0,Nat.le_refl _,rfl,rfl,lK.out,rfl⟩
     case round =>
      obtain ⟨m,hm,rfl,rfl,hp,rfl⟩:=hrel;have HP:=aa hp;clear hp lK ly;obtain ⟨q9,mL⟩:=ab ((decide (0<m) && dN L t (m - 1)));have kj:=aa mL;clear mL
      go_upto_region 16 with (fail)
      go_cut [16,115] from 86 to 115 (fun lv cv wx=>lv=.int .i64 (aC m)/\cv=.bool q9/\wx=wr)
      case first =>
       have hq:=kj.out;clear kj
       cases m with
       |zero =>
        have iC:=aa (show q9=false from hq);rw [show aC 0 = -1 from rfl];clear hq;go_wp2;go_meet
        case rel=>exact ⟨rfl,by rw [iC.out],rfl⟩
       |succ k' =>
        have jg:=aa (show aC (k'+1)=(k':Int) from by unfold aC;omega);rw [jg.out];have hq:q9=dN L t k':=by rw [hq,decide_eq_true (show 0<k'+1 by omega)];rfl
        unfold dN at hq;obtain ⟨cb2,coff2,tv2,e2,hcb,_,x0,_,_⟩:=l3.out k' (by have:=iJ.out;omega)
        cases e2
        have kW:k'<c3:=by omega
        have hkm:k'<k'+1:=by omega
        clear hcb;generalize (L.getD k' zc).1=K at x0 hq
        by_cases h3:K=0
        ·subst h3;have iC:=aa (show q9=true from hq);clear hq;go_wp2;go_meet
         case rel=>exact ⟨by rw [jg.out],by rw [iC.out],rfl⟩
        ·have d3:(K == 0)=false:=by rw [beq_eq_false_iff_ne];exact h3
         rw [decide_eq_false h3,Bool.false_or] at hq;clear h3
         by_cases h4:t<k'
         ·have d4:decide ((t:Int)<(k':Int))=true:=ag (by omega);have d5:decide (t<k')=true:=decide_eq_true h4;rw [d5,Bool.true_and] at hq
          by_cases h5:K=3
          ·subst h5;obtain ⟨t1,ob⟩:=ab (t+1);have hwt:IntKind.i64.wrap ((t:Int)+1)=(t1:Int):=by rw [IntKind.wrap_i64];have:=iN.out;omega
           rw [<-ob,decide_eq_true (show (3:Int)=3 from rfl),Bool.true_and] at hq
           by_cases h6:k'=t1
           ·have d6:((k':Int) == (t1:Int))=true:=by rw [beq_iff_eq];omega
            have d7:(k' == t1)=true:=by rw [beq_iff_eq];exact h6
            have d8:decide (k'=t1)=true:=decide_eq_true h6;rw [d8] at hq;have iC:=aa (show q9=false from hq);clear hq h6 h4 ob;go_wp2;go_meet
            case rel=>exact ⟨by rw [jg.out],by rw [iC.out],rfl⟩
           ·have d6:((k':Int) == (t1:Int))=false:=by rw [beq_eq_false_iff_ne];omega
            have d7:(k' == t1)=false:=by rw [beq_eq_false_iff_ne];exact h6
            have d8:decide (k'=t1)=false:=decide_eq_false h6;rw [d8] at hq;have iC:=aa (show q9=true from hq);clear hq h6 h4 ob;go_wp2;go_meet
            case rel=>exact ⟨by rw [jg.out],by rw [iC.out],rfl⟩
          ·have d6:(K == 3)=false:=by rw [beq_eq_false_iff_ne];exact h5
           rw [decide_eq_false h5,Bool.false_and] at hq;have iC:=aa (show q9=true from hq);clear hq h5 h4;go_wp2;go_meet
           case rel=>exact ⟨by rw [jg.out],by rw [iC.out],rfl⟩
         ·have d4:decide ((t:Int)<(k':Int))=false:=ah (by omega);have d5:decide (t<k')=false:=decide_eq_false h4;rw [d5,Bool.false_and] at hq;have iC:=aa (show q9=false from hq);clear hq h4;go_wp2;go_meet
          case rel=>exact ⟨by rw [jg.out],by rw [iC.out],rfl⟩
      case rest =>
       obtain ⟨rfl,rfl,iK⟩:=hcut;obtain ⟨wp,lQ⟩:=ab (wc);subst lQ;subst iK
       cases q9 with
       |true =>
        have hq:=kj.out.symm;simp only [Bool.and_eq_true,decide_eq_true_eq] at hq;obtain ⟨e3,e4⟩:=hq;obtain ⟨k',rfl⟩ : ∃ k',m=k'+1:=⟨m - 1,by omega⟩;have oD:=aa (mK.out k' (by omega) HP.out e4);have jg:=aa (show aC (k'+1)=(k':Int) from by unfold aC;omega);have lJ:IntKind.i64.wrap ((k':Int) - 1)=aC k':=by unfold aC;rw [IntKind.wrap_i64];omega
        have oV:=aa (show (aC k'+1).toNat<(aC (k'+1)+1).toNat from by unfold aC;omega);have kW:k'<=c3:=by omega
        have hkc2:(k':Int)<=(c3:Int):=by omega
        clear e3 e4 kj;rw [jg.out];go_wp2
        go_roundw
        case rel=>exact ⟨k',by omega,rfl,rfl,oD.out,trivial⟩
        case measure=>exact oV.out
       |false =>
        have mb:m=mN:=mT.out m hm HP.out (fun j e=>by
         have hq:=kj.out;subst e;rw [decide_eq_true (show 0<j+1 by omega),Bool.true_and] at hq;exact hq.symm)
        subst mb;clear kj mT mK HP hm;have hmw:m<=W0:=i8.out;obtain ⟨wx,hwx⟩:=ab (wp);subst hwx;have HCT:=aa (bh kS.out m (by rw [iJ.out];exact i8.out));have HCA2:=aa (fun j (hj:j<m)=>l3.out j (by have:=i8.out;have:=iJ.out;omega));clear l3;go_wp2
        go_loopw [17,18] (fun tv kv wr=>∃ j:Nat,j<=m/\kv=.int .i64 j/\OwnE (aA .i32) (fun _=>True) wr wx.heap.size 21 tv (aE L F T j)/\Below wx.heap.size wx wr) (fun _ kv _=>m+1 - (intOf kv).toNat)
        case atStart=>exact ⟨0,Nat.zero_le _,rfl,OwnE.nil _ _ _ _ _,Below.refl _ _⟩
        case round =>
         obtain ⟨j,hj,rfl,hown,hbr⟩:=hrel;obtain ⟨ws,my⟩:=ab (wr);subst my;have kg:=aa hown;have jv:=aa hbr;clear hown hbr
         by_cases hjm:j<m
         ·have d1:(j:Int)<(m:Int):=by omega
          have oF:j<W0:=by have:=i8.out;omega
          obtain ⟨cb2,coff2,tv,e2,hcb,_,x0,x1,hh⟩:=HCA2.out j hjm
          cases e2
          have kp:=aa (hh.zone (Y:=fun b=>b<wx.heap.size) (fun b hb _=>hb));obtain ⟨⟨K,X⟩,nd⟩ : ∃ y,y=L.getD j zc:=⟨_,rfl⟩;have hkt:(L.take m).getD j zc=L.getD j zc:=by rw [List.getD_eq_getElem?_getD,List.getD_eq_getElem?_getD,List.getElem?_take_of_lt hjm]
          have ji:=aa (fun (w':World) (h:Below wx.heap.size wx w')=>And.intro ((h.cell (p:=⟨cb,coff+j * 2,none⟩) hcb).trans x0) ((h.cell (p:=⟨cb,coff+j * 2+1,none⟩) hcb).trans x1));obtain ⟨qb,lp⟩:=ab (decide (F<=j/\j<=T));have kL:=aa (cY (fun _=>True) (.slice (some ⟨cb,coff,none⟩) m c3) (L.take m) j k k f k t ws (HCT.out.below jv.out) (by rw [List.length_take,iJ.out];have:=i8.out;omega));rw [hkt,HBT.out j oF,<-lp] at kL;have ll:=cu L F T j;have nY:=aa (nW.out (j+1) (by have:=iJ.out;omega));rw [<-nd] at ll kp ji;have od:=aa (show qb=false->aE L F T (j+1)=aE L F T j from fun e=>by rw [ll,if_neg (by rw [lp,decide_eq_false_iff_not] at e;exact e),List.append_nil]);have oU:=aa (show qb=true->aE L F T (j+1)=aE L F T j++cp (K,X) from fun e=>by rw [ll,if_pos (by rw [lp,decide_eq_true_eq] at e;exact e)]);have hjc:j<c3:=by have:=i8.out;omega
          simp only at kp ji;clear x0 x1 hh hcb nd lp ll hkt
          go_wp2_with fail
          refine kL.out.mono ?_;rintro e w4 ⟨rfl,b4⟩;have lz:=aa (jv.out.trans (b4.mono jv.out.size));have kH:=aa (kg.out.below b4);clear b4 kg jv kL
          cases qb with
          |false =>
           have HE:=aa (od.out rfl);go_wp2
           go_roundw
           case rel=>exact ⟨j+1,by omega,by go_num,by rw [HE.out];exact kH.out,lz.out⟩
           case measure=>simp [intOf] <;> omega
          |true =>
           have jd:=oU.out rfl;unfold cp at jd;simp only at jd;obtain ⟨P0,kh⟩:=ab (aE L F T j);rw [<-kh] at kH jd;clear kh;have ij:=kH.out.lt;have x0:=(ji.out _ lz.out).1;have nN:=aa lz.out.size;obtain ⟨tx,tc,etv⟩:=kp.out.len
           by_cases jh:K=0
           ·subst jh;rw [if_pos rfl] at jd;have HE:=aa (show aE L F T (j+1)=P0++32 :: X from by rw [jd];simp);have im:=aa (show P0.length+1+X.length<=30000000 from by have:=nY.out;have:=hU.out;rw [HE.out,List.length_append,List.length_cons] at *;omega);have HX:=aa (show HeldE (aA .i32) (fun b=>True/\u17.ownBlock≠some b) (w4.alloc (.cells [Value.int .i32 32].toArray 21)) (.slice (some ⟨w4.heap.size,0,none⟩) 1 1) [32] from a9 (Y:=fun _=>False) [.int .i32 32] 32 rfl (fun _ _ h=>h.elim) ⟨trivial,fun e=>by have:=(ij _ e).2;omega⟩);have gE:Below w4.heap.size w4 (w4.alloc (.cells [Value.int .i32 32].toArray 21)):=af _ _;have kU:=aa (kH.out.below gE);have HB5':=aa (lz.out.trans (gE.mono lz.out.size));have HSZ2:=aa HB5'.out.size;have iT:=aa ij;clear jd ij gE
            go_wp2_with (at_builtin;refine ai (E:=aA .i32) (Z:=fun _=>True) rfl (.tmp 144) (.tmp 145) 57 rfl (.int .i32 0) 4 Tryd.underlying57 aF rfl (Nat.lt_succ_self 0) rfl rfl kU.out HX.out (by have:=im.out;simp;omega) (by have:=im.out;simp;omega) HSZ2.out ?_)
            intro v2 w6 hO hb2 ik _;have nZ:=HB5'.out.trans hb2;have iZ:=hO.lt;have HU:=aa ((kp.out.below nZ).zone (Y:=fun b=>True/\v2.ownBlock≠some b) (fun b _ hz=>⟨trivial,fun e=>by have:=(iZ b e).1;omega⟩));have oY:=aa hO;have kn:=aa nZ;have HSZ3:=aa nZ.size;clear x0 hO hb2 ik iZ nZ;have x1:=(ji.out _ kn.out).2;subst etv
            go_wp2_with (at_builtin;refine ai (E:=aA .i32) (Z:=fun _=>True) rfl (.tmp 147) (.tmp 152) 57 rfl (.int .i32 0) 4 Tryd.underlying57 aF rfl (Nat.lt_succ_self 0) rfl rfl oY.out HU.out (by have:=im.out;simp;omega) (by have:=im.out;simp;omega) HSZ3.out ?_)
            intro v3 w7 i5 hb3 _ _;rw [<-HE.out] at i5;have HF:=aa (And.intro i5 (kn.out.trans hb3));clear x1 i5 hb3;go_wp2
            go_roundw
            case rel=>exact ⟨j+1,by omega,by go_num,HF.out⟩
            case measure=>simp [intOf] <;> omega
           ·have hk1':(K == 0)=false:=by rw [beq_eq_false_iff_ne];exact jh
            rw [if_neg jh,List.nil_append] at jd;have HE:=aa (show aE L F T (j+1)=P0++X from jd);have im:=aa (show P0.length+X.length<=30000000 from by have:=nY.out;have:=hU.out;rw [HE.out,List.length_append] at *;omega);have HU:=aa ((kp.out.below lz.out).zone (Y:=fun b=>True/\u17.ownBlock≠some b) (fun b _ hz=>⟨trivial,fun e=>by have:=(ij b e).1;omega⟩));have x1:=(ji.out _ lz.out).2;subst etv;clear jd ij jh
            go_wp2_with (at_builtin;refine ai (E:=aA .i32) (Z:=fun _=>True) rfl (.tmp 147) (.tmp 152) 57 rfl (.int .i32 0) 4 Tryd.underlying57 aF rfl (Nat.lt_succ_self 0) rfl rfl kH.out HU.out (by have:=im.out;omega) (by have:=im.out;omega) nN.out ?_)
            intro v3 w7 i5 hb3 _ _;rw [<-HE.out] at i5;have HF:=aa (And.intro i5 (lz.out.trans hb3));clear x0 x1 i5 hb3;go_wp2
            go_roundw
            case rel=>exact ⟨j+1,by omega,by go_num,HF.out⟩
            case measure=>simp [intOf] <;> omega
         ·obtain rfl:j=m:=by omega
          have d1:¬ (j:Int)<(j:Int):=by omega
          have HX:=aa (kg.out.held (Z:=fun _=>True) (fun _ _ _=>trivial));rw [<-nC.out] at HX;obtain ⟨i0,ni⟩:=ab (k - tp);have jq:i0<nl:=by have:=lV.out;have:=iN.out;omega
          have hwi:IntKind.i64.wrap ((k:Int) - (tp:Int))=(i0:Int):=by rw [IntKind.wrap_i64];have:=iN.out;omega
          have ou:=iY.out.trans (jv.out.mono iY.out.size);obtain ⟨hxl,hxc,hsp⟩:=(HTV2.out.below ou).spots;clear hxl;obtain ⟨xb,xoff,rfl,hxb,_,C,hC,hrp⟩:=hsp i0 (by rw [dh];exact jq);obtain ⟨tv,rfl,mY⟩:=hrp;have hg:(ch vv.L f t tp nl).getD i0 txtE.zero=dk L f t:=by
           unfold ch;rw [List.getD_eq_getElem?_getD,List.getElem?_map,List.getElem?_range jq];show dk (vv.L.getD (tp+i0) zl).1 f t=_;rw [show tp+i0=k by omega,<-HLE.out]
          rw [hg] at mY;have z0:=hC 0 (by decide);have hsz1:txtE.size=1:=rfl;rw [hsz1] at z0;simp only [Nat.mul_one,Nat.add_zero,List.getElem?_cons_zero] at z0;have HTH:=aa mY;have hixc:i0<xc:=by omega
          have hinI:(i0:Int)<(nl:Int):=by omega
          have HSM:=aa (dY tv u17 (dk L f t) (dk L f t) ws mY.ints HX.out.ints mY.max);rw [eB] at HSM;have HBS:=aa ou;clear ni jq ou hsp hxb hC mY hg hsz1 hjm
          go_wp2_with fail
          refine HSM.out.mono ?_;rintro e w8 ⟨rfl,b8⟩;have mB:=aa (HBS.out.trans (b8.mono HBS.out.size));have oZ:=aa d0;have hk1024:k<=1024:=by have:=iN.out;omega
          clear b8 z0;go_wp2
          go_roundw
          case rel=>exact ⟨k+1,by omega,by have:=oZ.out;omega,by go_num,mB.out⟩
          case measure=>simp [intOf] <;> omega
    ·have d0:¬ (k:Int)<=(en:Int):=by omega
     have HF:=aa hZ;clear hke;go_wp2;go_ret;exact ⟨ae,HF.out⟩
theorem walk{H:Type}{enc:TypeId × Value->H}(W:World)(x:Value){bs0:Nat}{d0:DataW H}{p0:List MemPlace}(hx:Value.okWide Tryd.prog W .any bs0 26 x)(h0:DataW.Trod enc Tryd.prog W 0 (fun _=>true) true 26 x d0 p0)
  (y:Value) {bs1:Nat} {d1:DataW H} {p1:List MemPlace} (hy:Value.okWide Tryd.prog W .any bs1 64 y) (h1:DataW.Trod enc Tryd.prog W 0 (fun _=>true) true 64 y d1 p1)
  (z:Value) {bs2:Nat} {d2:DataW H} {p2:List MemPlace} (hz:Value.okWide Tryd.prog W .any bs2 64 z) (h2:DataW.Trod enc Tryd.prog W 0 (fun _=>true) true 64 z d2 p2)
  (hL:laidMetH Tryd.prog Rows.regionBoxesRow.laid W) (hsz:(DataW.weightsEach Tryd.prog (#[26,64,64].toList++Rows.regionBoxesSpec.plain.varTypes Tryd.prog) ([d0,d1,d2]++[])).all (· <= reachBytes)=true):Calls Tryd.prog 8 #[x,y,z] W (Yes W):=by
 obtain ⟨sa,hsa⟩:=dM hL;have hw:∀ z ∈ d0.weights Tryd.prog 26,z<=reachBytes:=by
  simp only [List.all_eq_true,DataW.weightsEach,List.cons_append,List.nil_append] at hsz;intro z hz;exact of_decide_eq_true (hsz z (List.mem_append.2 (.inl hz)))
 obtain ⟨v,lv,rfl,hl,e0,e1,hr⟩:=fx hx h0 hw;obtain ⟨a0,a1,rfl⟩:=place_arg hy h1;obtain ⟨b0,b1,rfl⟩:=place_arg hz h2;exact walkN W sa hsa v lv hl e0 e1 hr a0 a1 b0 b1
theorem door_met(os:Os):laidMetH Tryd.prog Rows.regionBoxesRow.laid ((World.doorLaid Tryd.prog 400 os).forCall (fun _ _=>0) ⟨#[],#[.agg #[.int .i64 0,.int .i64 0,.slice none 0 0,.int .i64 0,.int .i64 0,.bool false,.bool false],.agg #[.int .i64 0,.int .i64 0],.agg #[.int .i64 0,.int .i64 0]],[]⟩).memory :=
 laidMetH_of_parts3 (fuel:=8) (laidMet_of_run' 8 (by kernel_rfl) (by kernel_rfl)) (by kernel_rfl) (by kernel_rfl)
theorem lifted(os:Os)(started:os.Started)(H:Type)(enc:TypeId × Value->H) :
  ReturnsInHanded {} Tryd.checked os 8 .any (fun w args=>(Rows.regionBoxesSpec.pre enc Tryd.prog Tryd.f8 [] false w args/\laidMetH Tryd.prog Rows.regionBoxesRow.laid w)/\sizedMet enc Tryd.prog Tryd.f8 (OpenSpec.ofChange Rows.regionBoxesSpec) false w args)
   (Rows.regionBoxesSpec.post enc Tryd.prog Tryd.f8 false true false false):=by
 refine fq (C:=Tryd.checked) (tb:=4) (by kernel_rfl) started (by kernel_rfl) Tryd.func8 (by kernel_rfl) (by kernel_rfl) Tryd.underlying4 rfl
  (by rw [Tryd.params8];intro t ht;simp at ht;rcases ht with rfl | rfl <;> exact ⟨by kernel_rfl,of_decide_eq_true (by kernel_rfl)⟩)
  (by rw [Tryd.params8];intro ds hd;match ds,hd with | [_,_,_],_=>rfl)
  (ChangeSpec.witness_shaped (enc:=enc) (C:=Tryd.checked) (os:=os) (X:=fun w _=>laidMetH Tryd.prog Rows.regionBoxesRow.laid w) false (World.doorLaid Tryd.prog 400 os) #[.agg #[.int .i64 0,.int .i64 0,.slice none 0 0,.int .i64 0,.int .i64 0,.bool false,.bool false],.agg #[.int .i64 0,.int .i64 0],.agg #[.int .i64 0,.int .i64 0]] 8 rfl (World.shaped_of_RefB (by kernel_rfl) (by kernel_rfl)) (by kernel_rfl) (by kernel_rfl) (by kernel_rfl) (door_met os)) ?_
 intro W base args ds before hval hA hsz hL;rw [Tryd.params8] at hA hval hsz;obtain ⟨v0,vs0,d0,ds0,p0,q0,hargs,rfl,rfl,h0,r0⟩:=trodAll_cons hA;obtain ⟨v1,vs1,d1,ds1,p1,q1,rfl,rfl,rfl,h1,r1⟩:=trodAll_cons r0;obtain ⟨v2,vs2,d2,ds2,p2,q2,rfl,rfl,rfl,h2,r2⟩:=trodAll_cons r1;obtain ⟨rfl,rfl,rfl⟩:=trodAll_nil r2;obtain rfl:args=#[v0,v1,v2]:=by cases args;simp_all
 exact walk W v0 (hval 0 26 v0 rfl rfl) h0 v1 (hval 1 64 v1 rfl rfl) h1 v2 (hval 2 64 v2 rfl rfl) h2 hL hsz
theorem and_two{a b:Bool}(ha:a=true)(hb:b=true):(a && b)=true:=by rw [ha,hb];rfl
theorem joined:joinedFacts Tryd.pinned.checked.prog 8 Tryd.f8 Rows.regionBoxesSpec Rows.regionBoxesRow=true:=by
 unfold joinedFacts
 repeat' (with_reducible refine and_two ?_ ?_)
 all_goals (as_aux_lemma=>kernel_rfl)
theorem said:Rows.RegionBoxesSaid :=
 OpenClaim.holds_of_wide 8 Tryd.f8 rfl rfl rfl rfl rfl rfl rfl ⟨rfl,rfl,rfl,rfl,rfl⟩ rfl rfl rfl rfl rfl (by kernel_rfl) Tryd.func8 joined
  (of_decide_eq_true (by kernel_rfl)) (by unfold Func.isWrapper;first | (rw [if_pos (by decide +kernel)];kernel_rfl) | (rw [if_neg (by decide +kernel)];exact ⟨rfl,rfl⟩))
  (fun os started H enc _=>lifted os started H enc)
theorem plain (f : FuncId) (fn : Func) (hf : Tryd.pinned.checked.prog.funcNamed "linotype/linotypelaw52.RegionBoxes" = some f) (hfn : Tryd.pinned.checked.prog.funcs[f]? = some fn) :
  true=Tryd.pinned.checked.prog.looks []/\∀ (j:Nat) t,fn.params[j]? = some t->Tryd.pinned.checked.prog.wantsStandIn t=false:=by
 obtain rfl : f = 8 := Option.some.inj ((show Tryd.prog.funcNamed "linotype/linotypelaw52.RegionBoxes" = some 8 by kernel_rfl).symm.trans hf) |>.symm
 obtain rfl:fn=Tryd.f8:=(Option.some.inj (Tryd.func8.symm.trans hfn)).symm;refine ⟨by kernel_rfl,fun j t ht=>?_⟩;rw [Tryd.params8] at ht;have hm:t ∈ [26,64,64]:=by simpa using Array.mem_of_getElem? ht
 have hall:([26,64,64].all fun u=>!Tryd.prog.wantsStandIn u)=true:=by kernel_rfl
 exact (show Tryd.prog.wantsStandIn t=false by simpa using List.all_eq_true.1 hall t hm)
theorem card:Rows.RegionBoxesCardSaid :=
 Claim7.holds_tied_plain_at .later [] _ _ _ _ said (fun _ h=>by cases h) (by kernel_rfl) (fun _ h=>by cases h) regionBoxes_row_tie rfl ⟨rfl,rfl⟩ (by kernel_rfl) rfl plain (by kernel_rfl)
#print axioms card
end Go.Proofs.YthdphijabffpiaaDoor.lawRegionBoxes
