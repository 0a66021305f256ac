import Derived.Test.YthdphijabffpiaaDoorZ0
import Derived.Test.YthdphijabffpiaaDoorRgnV
import Derived.Test.YthdphijabffpiaaDoorRgnS
import Derived.Test.YthdphijabffpiaaDoorRgnW
import Derived.Test.YthdphijabffpiaaDoorRgnL
import Derived.Test.YthdphijabffpiaaDoorMg4
import Derived.Test.YthdphijabffpiaaDoorMg1
import Derived.Test.YthdphijabffpiaaDoorCards
import Derived.Test.YthdphijabffpiaaDoorTie
import Derived.ProofKit
import Derived.Lib.MinMax
import Derived.Deep.Cut
set_option maxRecDepth 100000
set_option linter.unusedVariables false
set_option linter.unusedSimpArgs false
set_option maxHeartbeats 8000000
namespace Go.Proofs.YthdphijabffpiaaDoor.lawRegionTexts
open Go.ChangeShapes Go.WideShapes Go.ChangeAt Go.RowKit
theorem one_two(L:Array Bool)(i:Nat):Mix.one L i=0\/Mix.one L i=1:=by unfold Mix.one;split <;> simp
theorem room_law{W:World}{v:Vw}{lv:Value}(hv:HeldE lineE (fun _=>True) W lv v.L)(h0:(Lit.int .i64 v.w).wf=true)(h1:(Lit.int .i64 v.h).wf=true):ViewAt W v lv:=by
 simp [Lit.wf] at h0 h1
 exact ⟨hv,h0.1,h0.2,h1.1,h1.2⟩
theorem place_arg{H:Type}{enc:TypeId × Value->H}{W:World}{base:Nat}{x:Value}{d:DataW H}{p:List MemPlace}(hv:Value.okWide Tryd.prog W .any base 64 x)(h:DataW.Trod enc Tryd.prog W 0 (fun _=>true) true 64 x d p):∃ a b,x=.agg #[.int .i64 a,.int .i64 b]:=by
 obtain ⟨cs,⟨a,b⟩,rfl,⟨C1,C2,hC,rfl,rfl⟩,_⟩:=dA (E:=prE (aB .i64) (aB .i64)) Tryd.underlying64 (cX Tryd.underlying64 (by kernel_rfl) rfl rfl (bl (k:=.i64) Tryd.underlying3 (by kernel_rfl)) (bl (k:=.i64) Tryd.underlying3 (by kernel_rfl))) hv h;obtain rfl:cs=#[.int .i64 a,.int .i64 b]:=by
  apply Array.toList_inj.1
  rw [hC];rfl
 exact ⟨a,b,rfl⟩
theorem order52(v:Vw)(W H:Nat)(hn:NatV v W H)(hR:az v=true)(a0 a1 b0 b1:Int)(ra ca rb cb:Nat)(ji:ai v.h a0=ra)(it:ai v.w a1=ca)(jk:ai v.h b0=rb)(hcb:ai v.w b1=cb)(l1:ra<H)(l2:ca<W)(l3:rb<H)(l4:cb<W) :
  ∃ r0 c0 r1 c1:Nat,((ltP (rb:Int) cb ra ca=true/\r0=rb/\c0=cb/\r1=ra/\c1=ca)\/(ltP (rb:Int) cb ra ca=false/\r0=ra/\c0=ca/\r1=rb/\c1=cb))/\r0<=r1/\(r0=r1->c0<=c1)/\r1<H/\c0<W/\c1<W/\a6 v a0 a1 b0 b1=bs v.L W r0 c0 r1 c1:=by
 have ht:a6 v a0 a1 b0 b1=if ltP (rb:Int) cb ra ca=true then bs v.L W rb cb ra ca else bs v.L W ra ca rb cb:=by
  unfold a6;rw [if_pos hR,ji,it,jk,hcb,hn.wide]
  simp
 cases hl:ltP (rb:Int) cb ra ca with
 |true =>
  refine ⟨rb,cb,ra,ca,.inl ⟨rfl,rfl,rfl,rfl,rfl⟩,?_,?_,l1,l4,l2,by rw [ht,hl,if_pos rfl]⟩
  all_goals
   unfold ltP at hl;simp only [Bool.or_eq_true,Bool.and_eq_true,decide_eq_true_eq,beq_iff_eq] at hl;omega
 |false =>
  refine ⟨ra,ca,rb,cb,.inr ⟨rfl,rfl,rfl,rfl,rfl⟩,?_,?_,l3,l2,l4,by rw [ht,hl];exact if_neg (by decide)⟩
  all_goals
   unfold ltP at hl;simp only [Bool.or_eq_false_iff,Bool.and_eq_false_iff,decide_eq_false_iff_not,beq_eq_false_iff_ne] at hl;omega
theorem walkN(W:World)(sa:Nat->Addr)(hs:Five W sa)(v:Vw)(lv:Value)(iM:HeldE lineE (fun _=>True) W lv v.L)(h0:(Lit.int .i64 v.w).wf=true)(h1:(Lit.int .i64 v.h).wf=true)(hr:∀ l ∈ v.L,l.1.length * 32<=reachBytes)(a0 a1 b0 b1:Int):Calls Tryd.prog 7 #[.agg #[.int .i64 v.w,.int .i64 v.h,lv,.int .i64 v.r,.int .i64 v.c,.bool v.pd,.bool v.au],.agg #[.int .i64 a0,.int .i64 a1],.agg #[.int .i64 b0,.int .i64 b1]] W (Yes W):=by
 have mg:=room_law iM h0 h1;have hrk:∀ k,k<v.L.length->(v.L.getD k zl).1.length<=4398046511104:=fun k hk=>by
  have h:=hr (v.L.getD k zl) (by rw [List.getD_eq_getElem?_getD,List.getElem?_eq_getElem hk];exact List.getElem_mem hk);have hq:reachBytes=140737488351232:=rfl;rw [hq] at h;omega
 have ko:=aa (fun (w':World) (b:Below W.heap.size W w')=>dN v lv w' (iM.below b) hrk);have mA:=aa (fun (w':World) (b:Below W.heap.size W w')=>dI sa w' (hs.below b));have kO:=aa (fun (x0 x1 y0 y1:Int) (w':World) (b:Below W.heap.size W w')=>dh sa v lv x0 x1 y0 y1 w' (hs.below b) (mg.below b));have kB:=aa (fun (x0 x1 y0 y1:Int) (w':World) (b:Below W.heap.size W w')=>ei sa v lv x0 x1 y0 y1 w' (hs.below b) (mg.below b));have kY:=aa (fun (w':World) (b:Below W.heap.size W w')=>dC v lv w' (mg.below b));have iW:=aa mg;obtain ⟨lo,lc,rfl⟩:=iM.len;obtain ⟨n,hn⟩:=ab (v.L.length);rw [<-hn] at ko kO kB kY iW ⊢;have nC:=aa hn;obtain ⟨vv,gY⟩:=ab (v);rw [<-gY] at iW nC;have mK:=aa (show cU v=cU vv from by rw [gY]);have HTE:=aa (show ∀ x0 x1 y0 y1,a6 v x0 x1 y0 y1=a6 vv x0 x1 y0 y1 from fun _ _ _ _=>by rw [gY]);have HBE:=aa (show ∀ x0 x1 y0 y1,eg v x0 x1 y0 y1=eg vv x0 x1 y0 y1 from fun _ _ _ _=>by rw [gY]);have lw:=aa (show az v=az vv from by rw [gY]);have mH:=aa (fun (x0 x1:Int) (w':World) (h0:1<=vv.w) (h1:vv.w<=1024) (h2:1<=vv.h) (h3:vv.h<=1024)=>dM vv (.slice lo n lc) x0 x1 w' h0 h1 h2 h3);have nj:=aa (fun (W0 H0:Nat) (hn:NatV vv W0 H0) (r0 c0 r1 c1:Nat) (e1:r0<=r1) (e2:r0=r1->c0<=c1) (e3:r1<H0) (e4:c0<W0) (e5:c1<W0) (w':World) (b:Below W.heap.size W w')=>eK vv (.slice lo n lc) W0 H0 hn r0 c0 r1 c1 e1 e2 e3 e4 e5 w' (iW.out.below b));obtain ⟨vw,vh,Ls,r,c,pd,au⟩:=v;have hV:∀ x,aE vv x=.agg #[.int .i64 vw,.int .i64 vh,x,.int .i64 r,.int .i64 c,.bool pd,.bool au]:=fun x=>by rw [gY];rfl
 have nB:=aa (show vv.w=vw/\vv.h=vh from by rw [gY];exact ⟨rfl,rfl⟩);have ky:=aa (show vv.L=Ls from by rw [gY]);rw [show ∀ x,aE ⟨vw,vh,Ls,r,c,pd,au⟩ x=.agg #[.int .i64 vw,.int .i64 vh,x,.int .i64 r,.int .i64 c,.bool pd,.bool au] from fun _=>rfl] at ko kY;simp only [show ∀ x,aE ⟨vw,vh,Ls,r,c,pd,au⟩ x=.agg #[.int .i64 vw,.int .i64 vh,x,.int .i64 r,.int .i64 c,.bool pd,.bool au] from fun _=>rfl] at kO kB;simp only [hV] at mH nj;rw [mK.out] at ko;rw [lw.out] at kY;simp only [HTE.out] at kO;simp only [HBE.out] at kB;simp only;clear gY hV mK HTE HBE lw hn hrk mg iM h0 h1 hr hs;obtain ⟨Wa,gD⟩:=ab (W.alloc (.cells ([.int .i64 vw,.int .i64 vh,.slice lo n lc,.int .i64 r,.int .i64 c,.bool pd,.bool au]:List Value).toArray 26));obtain ⟨Wb,gE⟩:=ab (Wa.alloc (.cells [Value.int .i64 a0,.int .i64 a1].toArray 64));obtain ⟨Wc,ia⟩:=ab (Wb.alloc (.cells [Value.int .i64 b0,.int .i64 b1].toArray 64));have ba:Below W.heap.size W Wa:=by rw [gD];exact af _ _
 have bb:Below Wa.heap.size Wa Wb:=by rw [gE];exact af _ _
 have bc:Below Wb.heap.size Wb Wc:=by rw [ia];exact af _ _
 have sa':Wa.heap.size=W.heap.size+1:=by rw [gD];exact Array.size_push _
 have sb:Wb.heap.size=W.heap.size+2:=by rw [gE,<-Nat.add_assoc W.heap.size 1 1,<-sa'];exact Array.size_push _
 have gva:Has Wa W.heap.size [.int .i64 vw,.int .i64 vh,.slice lo n lc,.int .i64 r,.int .i64 c,.bool pd,.bool au] 26:=by rw [gD];exact Has.new W _ _
 have gaa:Has Wb Wa.heap.size [.int .i64 a0,.int .i64 a1] 64:=by rw [gE];exact Has.new Wa _ _
 have gba:Has Wc Wb.heap.size [.int .i64 b0,.int .i64 b1] 64:=by rw [ia];exact Has.new Wb _ _
 have gva:=Has.below (Has.below gva bb gva.lt) bc (Has.below gva bb gva.lt).lt;have gaa:=Has.below gaa bc gaa.lt;rw [sa'] at gaa;rw [sb] at gba;obtain ⟨gv,iI⟩:=ab (W.heap.size);obtain ⟨ga,je⟩:=ab (W.heap.size+1);obtain ⟨gb,hgb⟩:=ab (W.heap.size+2);rw [<-iI] at gva;rw [<-je] at gaa;rw [<-hgb] at gba;have HB:=aa (ba.trans ((bb.mono ba.size).trans (bc.mono (Nat.le_trans ba.size bb.size))));have HV:=aa gva;have HA:=aa gaa;have HD:=aa gba;have iw:=aa (show ((W.alloc (.cells #[.int .i64 vw,.int .i64 vh,.slice lo n lc,.int .i64 r,.int .i64 c,.bool pd,.bool au] 26)).alloc (.cells #[Value.int .i64 a0,.int .i64 a1] 64)).alloc (.cells #[Value.int .i64 b0,.int .i64 b1] 64)=Wc from by rw [ia,gE,gD]);have jS:=aa iI;have g6:=aa je;have hO:=aa hgb;clear gD gE ia ba bb bc sa' sb gva gaa gba iI je hgb
 cases hG:cU vv with
 |true =>
  rw [hG] at ko;clear hG
  go_enter Tryd.func7,Tryd.ntmps7
  go_upto_region 1 with (fail)
  rw [iw.out,show W.heap.size+1+1=gb from by have:=hO.out;omega,<-g6.out,<-jS.out]
  go_wp2_with fail
  refine (mA.out _ HB.out).mono ?_;rintro e w1 ⟨rfl,b1⟩;have gH:=aa (HV.out.below b1 HV.out.lt);have jj:=aa (HA.out.below b1 HA.out.lt);have jh:=aa (HD.out.below b1 HD.out.lt);have gJ:=aa (HB.out.trans (b1.mono HB.out.size));clear b1;have q0:=gH.out.cell 0 _ rfl;have q1:=gH.out.cell 1 _ rfl;have q2:=gH.out.cell 2 _ rfl;have q3:=gH.out.cell 3 _ rfl;have q4:=gH.out.cell 4 _ rfl;have q5:=gH.out.cell 5 _ rfl;have q6:=gH.out.cell 6 _ rfl
  go_wp2_with fail
  refine (ko.out _ gJ.out).mono ?_;rintro e w2 ⟨rfl,b2⟩;have HF:=aa (gJ.out.trans (b2.mono gJ.out.size));clear b2
  go_wp2_with fail
  refine (mA.out _ HF.out).mono ?_;rintro e w3 ⟨rfl,b3⟩;have j1:=aa (HF.out.trans (b3.mono HF.out.size));clear b3;go_wp2;go_ret;exact ⟨ae,j1.out⟩
 |false =>
  rw [hG] at ko;clear hG
  cases hR:az vv with
  |false =>
   have HT:=aa (show a6 vv a0 a1 b0 b1=[] from by unfold a6;rw [if_neg (by rw [hR];decide)]);rw [hR] at kY;clear hR
   go_enter Tryd.func7,Tryd.ntmps7
   go_upto_region 1 with (fail)
   rw [iw.out,show W.heap.size+1+1=gb from by have:=hO.out;omega,<-g6.out,<-jS.out]
   go_wp2_with fail
   refine (mA.out _ HB.out).mono ?_;rintro e w1 ⟨rfl,b1⟩;have gH:=aa (HV.out.below b1 HV.out.lt);have jj:=aa (HA.out.below b1 HA.out.lt);have jh:=aa (HD.out.below b1 HD.out.lt);have gJ:=aa (HB.out.trans (b1.mono HB.out.size));clear b1;have q0:=gH.out.cell 0 _ rfl;have q1:=gH.out.cell 1 _ rfl;have q2:=gH.out.cell 2 _ rfl;have q3:=gH.out.cell 3 _ rfl;have q4:=gH.out.cell 4 _ rfl;have q5:=gH.out.cell 5 _ rfl;have q6:=gH.out.cell 6 _ rfl
   go_wp2_with fail
   refine (ko.out _ gJ.out).mono ?_;rintro e w2 ⟨rfl,b2⟩;have gV:=aa (gH.out.below b2 gH.out.lt);have iO:=aa (jj.out.below b2 jj.out.lt);have iH:=aa (jh.out.below b2 jh.out.lt);have gX:=aa (gJ.out.trans (b2.mono gJ.out.size));clear b2 q0 q1 q2 q3 q4 q5 q6;have q0:=gV.out.cell 0 _ rfl;have q1:=gV.out.cell 1 _ rfl;have q2:=gV.out.cell 2 _ rfl;have q3:=gV.out.cell 3 _ rfl;have q4:=gV.out.cell 4 _ rfl;have q5:=gV.out.cell 5 _ rfl;have q6:=gV.out.cell 6 _ rfl;have p0:=iO.out.cell 0 _ rfl;have p1:=iO.out.cell 1 _ rfl;have p2:=iH.out.cell 0 _ rfl;have p3:=iH.out.cell 1 _ rfl
   go_wp2_with fail
   refine (kO.out a0 a1 b0 b1 _ gX.out).mono ?_;rintro e w3 ⟨tv,rfl,ho,b3⟩;rw [HT.out] at ho;obtain ⟨xo,xc,etv⟩:=(ho.held (Z:=fun _=>True) (fun _ _ _=>trivial)).len;rw [show ([]:List Int).length=0 from rfl] at etv;subst etv;have ix:=aa (gV.out.below b3 gV.out.lt);have nE:=aa (iO.out.below b3 iO.out.lt);have mX:=aa (iH.out.below b3 iH.out.lt);have jQ:=aa (gX.out.trans (b3.mono gX.out.size));clear b3 ho q0 q1 q2 q3 q4 q5 q6 p0 p1 p2 p3;have q0:=ix.out.cell 0 _ rfl;have q1:=ix.out.cell 1 _ rfl;have q2:=ix.out.cell 2 _ rfl;have q3:=ix.out.cell 3 _ rfl;have q4:=ix.out.cell 4 _ rfl;have q5:=ix.out.cell 5 _ rfl;have q6:=ix.out.cell 6 _ rfl
   go_wp2_with fail
   refine (kY.out _ jQ.out).mono ?_;rintro e w4 ⟨rfl,b4⟩;have HF:=aa (jQ.out.trans (b4.mono jQ.out.size));clear b4;go_wp2;go_ret;exact ⟨ae,HF.out⟩
  |true =>
   obtain ⟨W0,H0,hn⟩:=cA hR;obtain ⟨ra,ji,jM⟩:=aD a0 hn.h1;obtain ⟨ca,it,jq⟩:=aD a1 hn.w1;obtain ⟨rb,jk,jG⟩:=aD b0 hn.h1;obtain ⟨cb,hcb,jr⟩:=aD b1 hn.w1;rw [<-hn.high] at ji jk;rw [<-hn.wide] at it hcb;obtain ⟨r0,c0,r1,c1,j6,hle,hcc,hr1,hc0,hc1,hT⟩:=order52 vv W0 H0 hn hR a0 a1 b0 b1 ra ca rb cb ji it jk hcb jM jq jG jr;have hw:=hn.wide;have hh:=hn.high;have h1:=hn.w1;have h2:=hn.w2;have h3:=hn.h1;have h4:=hn.h2;have nx:=aa (fun w'=>mH.out a0 a1 w' (by omega) (by omega) (by omega) (by omega));have lD:=aa (fun w'=>mH.out b0 b1 w' (by omega) (by omega) (by omega) (by omega));simp only [ji,it] at nx;simp only [jk,hcb] at lD;have nn:=aa (nj.out W0 H0 hn r0 c0 r1 c1 hle hcc hr1 hc0 hc1);rw [<-hT] at nn;have HSW:=aa (eq vv a0 a1 b0 b1);have lJ:=aa j6;rw [hR] at kY;obtain ⟨T,hTT⟩:=ab (a6 vv a0 a1 b0 b1);have HTA:=aa (kO.out a0 a1 b0 b1);have i2:=aa (kO.out b0 b1 a0 a1);simp only [HSW.out] at i2;rw [<-hTT] at HTA i2 nn;clear hR j6 hle hcc hr1 hc0 hc1 hT hTT ji it jk hcb jM jq jG jr hw hh h1 h2 h3 h4 hn kO HSW nj mH
   go_enter Tryd.func7,Tryd.ntmps7
   go_upto_region 1 with (fail)
   rw [iw.out,show W.heap.size+1+1=gb from by have:=hO.out;omega,<-g6.out,<-jS.out]
   go_wp2_with fail
   refine (mA.out _ HB.out).mono ?_;rintro e w1 ⟨rfl,b1⟩;have gH:=aa (HV.out.below b1 HV.out.lt);have jj:=aa (HA.out.below b1 HA.out.lt);have jh:=aa (HD.out.below b1 HD.out.lt);have gJ:=aa (HB.out.trans (b1.mono HB.out.size));clear b1;have q0:=gH.out.cell 0 _ rfl;have q1:=gH.out.cell 1 _ rfl;have q2:=gH.out.cell 2 _ rfl;have q3:=gH.out.cell 3 _ rfl;have q4:=gH.out.cell 4 _ rfl;have q5:=gH.out.cell 5 _ rfl;have q6:=gH.out.cell 6 _ rfl
   go_wp2_with fail
   refine (ko.out _ gJ.out).mono ?_;rintro e w2 ⟨rfl,b2⟩;have gV:=aa (gH.out.below b2 gH.out.lt);have iO:=aa (jj.out.below b2 jj.out.lt);have iH:=aa (jh.out.below b2 jh.out.lt);have gX:=aa (gJ.out.trans (b2.mono gJ.out.size));clear b2 q0 q1 q2 q3 q4 q5 q6;have q0:=gV.out.cell 0 _ rfl;have q1:=gV.out.cell 1 _ rfl;have q2:=gV.out.cell 2 _ rfl;have q3:=gV.out.cell 3 _ rfl;have q4:=gV.out.cell 4 _ rfl;have q5:=gV.out.cell 5 _ rfl;have q6:=gV.out.cell 6 _ rfl;have p0:=iO.out.cell 0 _ rfl;have p1:=iO.out.cell 1 _ rfl;have p2:=iH.out.cell 0 _ rfl;have p3:=iH.out.cell 1 _ rfl
   go_wp2_with fail
   refine (HTA.out _ gX.out).mono ?_;rintro e w3 ⟨tv,rfl,ho,b3⟩;have HTV:=aa (ho.held (Z:=fun _=>True) (fun _ _ _=>trivial));have ix:=aa (gV.out.below b3 gV.out.lt);have nE:=aa (iO.out.below b3 iO.out.lt);have mX:=aa (iH.out.below b3 iH.out.lt);have jQ:=aa (gX.out.trans (b3.mono gX.out.size));clear b3 ho q0 q1 q2 q3 q4 q5 q6 p0 p1 p2 p3;have q0:=ix.out.cell 0 _ rfl;have q1:=ix.out.cell 1 _ rfl;have q2:=ix.out.cell 2 _ rfl;have q3:=ix.out.cell 3 _ rfl;have q4:=ix.out.cell 4 _ rfl;have q5:=ix.out.cell 5 _ rfl;have q6:=ix.out.cell 6 _ rfl
   go_wp2_with fail
   refine (kY.out _ jQ.out).mono ?_;rintro e wq ⟨rfl,b4⟩;have HTQ:=aa (HTV.out.below b4);have lq:=aa (ix.out.below b4 ix.out.lt);have mF:=aa (nE.out.below b4 nE.out.lt);have mL:=aa (mX.out.below b4 mX.out.lt);have HBQ:=aa (jQ.out.trans (b4.mono jQ.out.size));clear b4 q0 q1 q2 q3 q4 q5 q6
   go_upto_region 6 with (fail)
   obtain ⟨gm,gz⟩ : ∃ CC:Array Bool->Value->Value->World->Prop,CC=fun L8 x y w'=>Below wq.heap.size wq w'/\(Mix.one L8 6=1->∃ g,x=.pointer (some ⟨g,0,none⟩)/\wq.heap.size<=g/\(Mix.one L8 8=0->Has w' g [.int .i64 0,.int .i64 0] 66)/\(Mix.one L8 8=1->Has w' g [.int .i64 ra,.int .i64 ca] 66))/\(Mix.one L8 7=1->∃ g,y=.pointer (some ⟨g,0,none⟩)/\wq.heap.size<=g/\(Mix.one L8 9=0->Has w' g [.int .i64 0,.int .i64 0] 66)/\(Mix.one L8 9=1->Has w' g [.int .i64 rb,.int .i64 cb] 66))/\(Mix.one L8 6=1->Mix.one L8 7=1->x≠y):=⟨_,rfl⟩
   obtain ⟨iq,gO,gT,gG⟩:=Reg.xT;obtain ⟨ip,gK,gB,gw,gC,gx,gu,gA,gN,gM,iy,iA,_,_⟩:=Reg.e12 iq
    (fun xx _=>xx=.agg #[.int .i64 vw,.int .i64 vh,.slice lo n lc,.int .i64 r,.int .i64 c,.bool pd,.bool au])
    (fun xx _=>xx=.agg #[.int .i64 a0,.int .i64 a1])
    (fun xx _=>xx=.agg #[.int .i64 ra,.int .i64 ca])
    (fun xx _=>xx=.agg #[.int .i64 vw,.int .i64 vh,.slice lo n lc,.int .i64 r,.int .i64 c,.bool pd,.bool au])
    (fun xx _=>xx=.agg #[.int .i64 b0,.int .i64 b1])
    (fun xx _=>xx=.agg #[.int .i64 rb,.int .i64 cb])
    (fun x w'=>True)
    (fun x w'=>True)
    (fun xx _=>xx=undef)
    (fun xx _=>xx=undef)
    (fun _ _=>True) (fun _ _=>True)
    (s6:=fun x w w1 hx h=>by rw [gO] at hx;exact h)
    (s7:=fun x w w1 hx h=>by rw [gO] at hx;exact h)
   have gI:Hid (∀ i L {x y:Value} w,(i == 6 || i == 7 || i == 8 || i == 9)=false ->  gm L x y w->gm (L.setIfInBounds i true) x y w):=aa (by
    intro i L x y w q h;simp only [Bool.or_eq_false_iff,beq_eq_false_iff_ne] at q;rw [gz] at h ⊢;simp only [Mix.one_ne q.1.1.1,Mix.one_ne q.1.1.2,Mix.one_ne q.1.2,Mix.one_ne q.2];exact h)
   have gW:Hid (∀ L {x y:Value} w w1,gm L x y w->Below w.heap.size w w1->gm L x y w1):=aa (by
    intro L x y w w1 h hb;rw [gz] at h ⊢
    (obtain ⟨q1,q2,q3,q4⟩:=h;exact ⟨q1.trans (hb.mono q1.size),fun e=>by obtain ⟨g,e1,e2,e3,e4⟩:=q2 e;exact ⟨g,e1,e2,fun f=>(e3 f).below hb (e3 f).lt,fun f=>(e4 f).below hb (e4 f).lt⟩,fun e=>by obtain ⟨g,e1,e2,e3,e4⟩:=q3 e;exact ⟨g,e1,e2,fun f=>(e3 f).below hb (e3 f).lt,fun f=>(e4 f).below hb (e4 f).lt⟩,q4⟩))
   have ib:=aa (show ∀ x y,gm (Array.replicate 10 false) x y wq.drew from fun x y=>by rw [gz];exact ⟨(Below.refl _ _).drew,fun e=>absurd e (by decide),fun e=>absurd e (by decide),fun e=>absurd e (by decide)⟩);have gn:=aa (fun (i:Nat) L {x y:Value} w v q (h:gm L x y w) (e:ip i v w)=>Reg.hk (gI.out i L w q h) e (gT.out w));have gj:=aa gz;have gy:=aa gO;clear gz gO
   go_wp2_with fail
   refine RegC.regionF2 6 7 ip gm iq gK.out (by kernel_rfl) (by kernel_rfl) (by kernel_rfl) ib.out (fun mO gk=>?_);simp only [Reg.frame,Reg.dsts,List.map_cons,List.map_nil,Mix.put_lit,Reg.put_none,List.set_cons_succ,List.set_cons_zero,Nat.zero_add,Nat.reduceAdd] at gk;refine ⟨⟨?_,?_,?_,?_,?_,?_,?_,?_,?_,?_,trivial⟩,?_⟩
   ·intro Lq wq xq hh;simp only [gk];refine Reg.go rfl ?_;have hc:gm Lq (xq 6) (xq 7) wq:=hh.cls;rw [gj.out] at hc;have z0:=lq.out.below hc.1 lq.out.lt;have y0:=z0.cell 0 _ rfl;have y1:=z0.cell 1 _ rfl;have y2:=z0.cell 2 _ rfl;have y3:=z0.cell 3 _ rfl;have y4:=z0.cell 4 _ rfl;have y5:=z0.cell 5 _ rfl;have y6:=z0.cell 6 _ rfl;clear z0;clear hc;have HK:=gn.out 0 _ _ _ rfl hh.cls ((gB.out _ _).mpr rfl);go_simp;exact HK.out
   ·intro Lq wq xq hh;simp only [gk];refine Reg.go rfl ?_;have hc:gm Lq (xq 6) (xq 7) wq:=hh.cls;rw [gj.out] at hc;have z0:=mF.out.below hc.1 mF.out.lt;have y0:=z0.cell 0 _ rfl;have y1:=z0.cell 1 _ rfl;clear z0;clear hc;have HK:=gn.out 1 _ _ _ rfl hh.cls ((gw.out _ _).mpr rfl);go_simp;exact HK.out
   ·intro Lq wq xq hh;simp only [gk,(gB.out _ _).mp (hh.v 0),(gw.out _ _).mp (hh.v 1)];refine Reg.go rfl ?_;unfold Reg.upon;have hc:gm Lq (xq 6) (xq 7) wq:=hh.cls;rw [gj.out] at hc;go_simp;refine (nx.out wq).mono ?_;rintro e w2 ⟨rfl,hb⟩;exact ⟨_,rfl,gI.out 2 Lq w2 rfl  (gW.out Lq wq w2 hh.cls hb),(by rw [gC.out];try rfl),gG.out wq w2 hb⟩
   ·intro Lq wq xq hh;simp only [gk];refine Reg.go rfl ?_;have hc:gm Lq (xq 6) (xq 7) wq:=hh.cls;rw [gj.out] at hc;have z0:=lq.out.below hc.1 lq.out.lt;have y0:=z0.cell 0 _ rfl;have y1:=z0.cell 1 _ rfl;have y2:=z0.cell 2 _ rfl;have y3:=z0.cell 3 _ rfl;have y4:=z0.cell 4 _ rfl;have y5:=z0.cell 5 _ rfl;have y6:=z0.cell 6 _ rfl;clear z0;clear hc;have HK:=gn.out 3 _ _ _ rfl hh.cls ((gx.out _ _).mpr rfl);go_simp;exact HK.out
   ·intro Lq wq xq hh;simp only [gk];refine Reg.go rfl ?_;have hc:gm Lq (xq 6) (xq 7) wq:=hh.cls;rw [gj.out] at hc;have z0:=mL.out.below hc.1 mL.out.lt;have y0:=z0.cell 0 _ rfl;have y1:=z0.cell 1 _ rfl;clear z0;clear hc;have HK:=gn.out 4 _ _ _ rfl hh.cls ((gu.out _ _).mpr rfl);go_simp;exact HK.out
   ·intro Lq wq xq hh;simp only [gk,(gx.out _ _).mp (hh.v 3),(gu.out _ _).mp (hh.v 4)];refine Reg.go rfl ?_;unfold Reg.upon;have hc:gm Lq (xq 6) (xq 7) wq:=hh.cls;rw [gj.out] at hc;go_simp;refine (lD.out wq).mono ?_;rintro e w2 ⟨rfl,hb⟩;exact ⟨_,rfl,gI.out 5 Lq w2 rfl  (gW.out Lq wq w2 hh.cls hb),(by rw [gA.out];try rfl),gG.out wq w2 hb⟩
   ·intro Lq wq xq hh;simp only [gk];refine Reg.go rfl ?_;unfold Reg.upon;have hc:gm Lq (xq 6) (xq 7) wq:=hh.cls;rw [gj.out] at hc;have l6:Mix.one Lq 8=0\/Mix.one Lq 8=1:=one_two _ _;have ho9:Mix.one Lq 9=0\/Mix.one Lq 9=1:=one_two _ _;have hn:=Has.new wq [.int .i64 0,.int .i64 0] 66;have hb:=af wq (.cells [Value.int .i64 0,.int .i64 0].toArray 66);have hF:gm (Lq.setIfInBounds 6 true) (.pointer (some ⟨wq.heap.size,0,none⟩)) (xq 7) (wq.alloc (.cells [Value.int .i64 0,.int .i64 0].toArray 66)):=by
     rw [gj.out];obtain ⟨q1,q2,q3,q4⟩:=hc;refine ⟨q1.trans (hb.mono q1.size),?_,?_,?_⟩
     ·exact fun _=>⟨_,rfl,q1.size,fun _=>hn,fun e=>by rw [Mix.one_ne (by decide),Mix.one_un (hh.notYet 8 (by kernel_rfl))] at e;exact absurd e (by decide)⟩
     ·exact fun e=>by rw [Mix.one_ne (by decide)] at e;obtain ⟨g,e1,e2,e3,e4⟩:=q3 e;exact ⟨g,e1,e2,fun f=>(e3 (by rw [Mix.one_ne (by decide)] at f;exact f)).below hb (e3 (by rw [Mix.one_ne (by decide)] at f;exact f)).lt,fun f=>(e4 (by rw [Mix.one_ne (by decide)] at f;exact f)).below hb (e4 (by rw [Mix.one_ne (by decide)] at f;exact f)).lt⟩
     ·exact fun f1 f2=>by
        rw [Mix.one_ne (by decide)] at f2;obtain ⟨g,e1,e2,e3,e4⟩:=q3 f2;rw [e1];intro e9
        cases e9
        rcases ho9 with f | f
        · have:=(e3 f).lt;omega
        · have:=(e4 f).lt;omega
    have hE:ip 6 (.pointer (some ⟨wq.heap.size,0,none⟩)) (wq.alloc (.cells [Value.int .i64 0,.int .i64 0].toArray 66)):=by rw [gN.out];trivial
    have hX:iq wq (wq.alloc (.cells [Value.int .i64 0,.int .i64 0].toArray 66)):=by rw [gy.out];trivial
    go_simp;exact ⟨hF,hE,hX⟩
   ·intro Lq wq xq hh;simp only [gk];refine Reg.go rfl ?_;unfold Reg.upon;have hc:gm Lq (xq 6) (xq 7) wq:=hh.cls;rw [gj.out] at hc;have l6:Mix.one Lq 8=0\/Mix.one Lq 8=1:=one_two _ _;have ho9:Mix.one Lq 9=0\/Mix.one Lq 9=1:=one_two _ _;have hn:=Has.new wq [.int .i64 0,.int .i64 0] 66;have hb:=af wq (.cells [Value.int .i64 0,.int .i64 0].toArray 66);have hF:gm (Lq.setIfInBounds 7 true) (xq 6) (.pointer (some ⟨wq.heap.size,0,none⟩)) (wq.alloc (.cells [Value.int .i64 0,.int .i64 0].toArray 66)):=by
     rw [gj.out];obtain ⟨q1,q2,q3,q4⟩:=hc;refine ⟨q1.trans (hb.mono q1.size),?_,?_,?_⟩
     ·exact fun e=>by rw [Mix.one_ne (by decide)] at e;obtain ⟨g,e1,e2,e3,e4⟩:=q2 e;exact ⟨g,e1,e2,fun f=>(e3 (by rw [Mix.one_ne (by decide)] at f;exact f)).below hb (e3 (by rw [Mix.one_ne (by decide)] at f;exact f)).lt,fun f=>(e4 (by rw [Mix.one_ne (by decide)] at f;exact f)).below hb (e4 (by rw [Mix.one_ne (by decide)] at f;exact f)).lt⟩
     ·exact fun _=>⟨_,rfl,q1.size,fun _=>hn,fun e=>by rw [Mix.one_ne (by decide),Mix.one_un (hh.notYet 9 (by kernel_rfl))] at e;exact absurd e (by decide)⟩
     ·exact fun f1 f2=>by
        rw [Mix.one_ne (by decide)] at f1;obtain ⟨g,e1,e2,e3,e4⟩:=q2 f1;rw [e1];intro e9
        cases e9
        rcases l6 with f | f
        · have:=(e3 f).lt;omega
        · have:=(e4 f).lt;omega
    have hE:ip 7 (.pointer (some ⟨wq.heap.size,0,none⟩)) (wq.alloc (.cells [Value.int .i64 0,.int .i64 0].toArray 66)):=by rw [gM.out];trivial
    have hX:iq wq (wq.alloc (.cells [Value.int .i64 0,.int .i64 0].toArray 66)):=by rw [gy.out];trivial
    go_simp;exact ⟨hF,hE,hX⟩
   ·intro Lq wq xq hh;have d6:=(gN.out _ _).mp (hh.v 6);simp only [gk,(gC.out _ _).mp (hh.v 2)];refine Reg.go rfl ?_;unfold Reg.upon;have hc:gm Lq (xq 6) (xq 7) wq:=hh.cls;rw [gj.out] at hc;obtain ⟨q1,q2,q3,q4⟩:=hc;obtain ⟨g,e1,e2,e3,e4⟩:=q2 (hh.isDone 6 (by kernel_rfl));have hz:=e3 hh.un;have y0:=hz.cell 0 _ rfl;have s0:=hz.free 0;have y1:=hz.cell 1 _ rfl;have s1:=hz.free 1;have hu:=((Upd.refl (fun b=>b=g) wq).setCell (p:=⟨g,0,none⟩) (.inl rfl) (.int .i64 ra)).setCell (p:=⟨g,1,none⟩) (.inl rfl) (.int .i64 ca);have hF:gm (Lq.setIfInBounds 8 true) (xq 6) (xq 7) ((wq.setCell ⟨g,0,none⟩ (.int .i64 ra)).setCell ⟨g,1,none⟩ (.int .i64 ca)):=by
     rw [gj.out];exact ⟨q1.trans (hu.below q1.size fun b e=>by omega),fun _=>⟨g,e1,e2,fun e=>(by rw [Mix.one_set (by rw [hh.size];decide)] at e;exact absurd e (by decide)),fun _=>(hz.set 0 _).set 1 _⟩,fun e=>by rw [Mix.one_ne (by decide)] at e;obtain ⟨g2,d1,d2,d3,d4⟩:=q3 e;exact ⟨g2,d1,d2,fun f=>hu.keep.has (d3 (by rw [Mix.one_ne (by decide)] at f;exact f)) (fun e9=>by subst e9;exact q4 (hh.isDone 6 (by kernel_rfl)) e (by rw [e1,d1])),fun f=>hu.keep.has (d4 (by rw [Mix.one_ne (by decide)] at f;exact f)) (fun e9=>by subst e9;exact q4 (hh.isDone 6 (by kernel_rfl)) e (by rw [e1,d1]))⟩,fun f1 f2=>q4 (by rw [Mix.one_ne (by decide)] at f1;exact f1) (by rw [Mix.one_ne (by decide)] at f2;exact f2)⟩
    have hE:ip 8 undef ((wq.setCell ⟨g,0,none⟩ (.int .i64 ra)).setCell ⟨g,1,none⟩ (.int .i64 ca)):=by rw [iy.out]
    have hX:iq wq ((wq.setCell ⟨g,0,none⟩ (.int .i64 ra)).setCell ⟨g,1,none⟩ (.int .i64 ca)):=by rw [gy.out];trivial
    rw [e1];clear q1 q2 q3 q4 e3 e4 hz hu;go_simp;exact ⟨hF,hE,hX⟩
   ·intro Lq wq xq hh;have d7:=(gM.out _ _).mp (hh.v 7);simp only [gk,(gA.out _ _).mp (hh.v 5)];refine Reg.go rfl ?_;unfold Reg.upon;have hc:gm Lq (xq 6) (xq 7) wq:=hh.cls;rw [gj.out] at hc;obtain ⟨q1,q2,q3,q4⟩:=hc;obtain ⟨g,e1,e2,e3,e4⟩:=q3 (hh.isDone 7 (by kernel_rfl));have hz:=e3 hh.un;have y0:=hz.cell 0 _ rfl;have s0:=hz.free 0;have y1:=hz.cell 1 _ rfl;have s1:=hz.free 1;have hu:=((Upd.refl (fun b=>b=g) wq).setCell (p:=⟨g,0,none⟩) (.inl rfl) (.int .i64 rb)).setCell (p:=⟨g,1,none⟩) (.inl rfl) (.int .i64 cb);have hF:gm (Lq.setIfInBounds 9 true) (xq 6) (xq 7) ((wq.setCell ⟨g,0,none⟩ (.int .i64 rb)).setCell ⟨g,1,none⟩ (.int .i64 cb)):=by
     rw [gj.out];exact ⟨q1.trans (hu.below q1.size fun b e=>by omega),fun e=>by rw [Mix.one_ne (by decide)] at e;obtain ⟨g2,d1,d2,d3,d4⟩:=q2 e;exact ⟨g2,d1,d2,fun f=>hu.keep.has (d3 (by rw [Mix.one_ne (by decide)] at f;exact f)) (fun e9=>by subst e9;exact q4 e (hh.isDone 7 (by kernel_rfl)) (by rw [e1,d1])),fun f=>hu.keep.has (d4 (by rw [Mix.one_ne (by decide)] at f;exact f)) (fun e9=>by subst e9;exact q4 e (hh.isDone 7 (by kernel_rfl)) (by rw [e1,d1]))⟩,fun _=>⟨g,e1,e2,fun e=>(by rw [Mix.one_set (by rw [hh.size];decide)] at e;exact absurd e (by decide)),fun _=>(hz.set 0 _).set 1 _⟩,fun f1 f2=>q4 (by rw [Mix.one_ne (by decide)] at f1;exact f1) (by rw [Mix.one_ne (by decide)] at f2;exact f2)⟩
    have hE:ip 9 undef ((wq.setCell ⟨g,0,none⟩ (.int .i64 rb)).setCell ⟨g,1,none⟩ (.int .i64 cb)):=by rw [iA.out]
    have hX:iq wq ((wq.setCell ⟨g,0,none⟩ (.int .i64 rb)).setCell ⟨g,1,none⟩ (.int .i64 cb)):=by rw [gy.out];trivial
    rw [e1];clear q1 q2 q3 q4 e3 e4 hz hu;go_simp;exact ⟨hF,hE,hX⟩
   intro xq jB gR ik;rw [gj.out] at gR;simp only [gk];clear ik gk gn gI gT gK ib gj gy gW gG gB gw gC gx gu gA gN gM iy iA;obtain ⟨q1,q2,q3,q4⟩:=gR;obtain ⟨g8,e8,l8,_,z8⟩:=q2 (by kernel_rfl);obtain ⟨g9,e9,l9,_,z9⟩:=q3 (by kernel_rfl);have hne:g8≠g9:=fun e=>q4 (by kernel_rfl) (by kernel_rfl) (by rw [e8,e9,e])
   have H8:=aa (z8 (by kernel_rfl));have H9:=aa (z9 (by kernel_rfl));have HL8:=aa l8;have HL9:=aa l9;have kT:=aa hne;have gX:=aa q1;rw [e8,e9];clear q1 q2 q3 q4 e8 l8 z8 e9 l9 z9 hne nx lD
   go_upto_region 7 with (fail)
   obtain ⟨q,hq⟩:=ab (ltP (rb:Int) cb ra ca);have iF:=aa (show (q=true/\r0=rb/\c0=cb/\r1=ra/\c1=ca)\/(q=false/\r0=ra/\c0=ca/\r1=rb/\c1=cb) from by rw [hq];exact lJ.out);have HQ:=aa hq;clear hq lJ
   go_cut [51] from 33 to 51 (fun cv wx=>cv=.bool q/\wx=jB)
   case first =>
    have k0:=H8.out.cell 0 _ rfl;have k1:=H8.out.cell 1 _ rfl;have k2:=H9.out.cell 0 _ rfl;have k3:=H9.out.cell 1 _ rfl;have hq:=HQ.out;clear iF HQ;unfold ltP at hq;generalize (rb:Int)=RB at k2 hq ⊢;generalize (ra:Int)=RA at k0 hq ⊢;generalize (cb:Int)=CB at k3 hq ⊢;generalize (ca:Int)=CA at k1 hq ⊢
    by_cases h1:RB<RA
    ·have d1:decide (RB<RA)=true:=decide_eq_true h1;rw [d1,Bool.true_or] at hq;go_wp2;go_meet
     case rel=>exact ⟨by rw [hq],rfl⟩
    ·have d1:decide (RB<RA)=false:=decide_eq_false h1;rw [d1,Bool.false_or] at hq
     by_cases h2:RB=RA
     ·have d2:(RB == RA)=true:=by rw [beq_iff_eq];exact h2
      rw [d2,Bool.true_and] at hq;have iH:=aa d2;clear h1 h2;go_wp2;go_meet
      case rel=>exact ⟨by rw [hq],rfl⟩
     ·have d2:(RB == RA)=false:=by rw [beq_eq_false_iff_ne];exact h2
      rw [d2,Bool.false_and] at hq;go_wp2;go_meet
      case rel=>exact ⟨by rw [hq],rfl⟩
   case rest =>
    obtain ⟨rfl,rfl⟩:=hcut;obtain ⟨w2,kC⟩:=ab (wc);subst kC
    go_upto_if 51 with (fail)
    go_cut [] from 52 to 53 (fun wx=>Has wx g8 [.int .i64 (r0:Int),.int .i64 (c0:Int)] 66/\Has wx g9 [.int .i64 (r1:Int),.int .i64 (c1:Int)] 66/\Below wq.heap.size wq wx)
    case first =>
     have j6:=iF.out;clear iF HQ
     rcases j6 with ⟨rfl,rfl,rfl,rfl,rfl⟩ | ⟨rfl,rfl,rfl,rfl,rfl⟩
     ·have k0:=H8.out.cell 0 _ rfl;have k1:=H8.out.cell 1 _ rfl;have k2:=H9.out.cell 0 _ rfl;have k3:=H9.out.cell 1 _ rfl
      go_wp2_with (first
       |(refine av rfl 66 (.tmp 8) (.tmp 52) rfl g8 rfl 66 [.int .i64 r1,.int .i64 c1] [.int .i64 r0,.int .i64 c0] 2 rfl H8.out (by kernel_rfl) rfl rfl (by intro v hv;simp at hv;rcases hv with rfl | rfl <;> rfl) ?_;intro w5 h5 b5;have mu:=aa ((KeepZ.but b5).has H9.out (fun e=>kT.out e.symm));have HF:=aa (And.intro h5 (gX.out.trans (b5.below gX.out.size HL8.out)));clear h5 b5 k0 k1 k2 k3)
       |(refine av rfl 66 (.tmp 9) (.tmp 53) rfl g9 rfl 66 [.int .i64 r0,.int .i64 c0] [.int .i64 r1,.int .i64 c1] 2 rfl mu.out (by kernel_rfl) rfl rfl (by intro v hv;simp at hv;rcases hv with rfl | rfl <;> rfl) ?_;intro w6 h6 b6;have j1:=aa (And.intro ((KeepZ.but b6).has HF.out.1 kT.out) (And.intro h6 (HF.out.2.trans (b6.below HF.out.2.size HL9.out))));clear h6 b6 HF mu))
      go_meet
      case rel=>exact j1.out
     ·go_wp2;go_meet
      case rel=>exact ⟨H8.out,H9.out,gX.out⟩
    case rest =>
     obtain ⟨z8,z9,zb⟩:=hcut;obtain ⟨w5,hw5⟩:=ab (wc);subst hw5;have ir:=aa (HBQ.out.trans (zb.mono HBQ.out.size));have jJ:=aa (lq.out.below zb lq.out.lt);have HA5:=aa (mF.out.below zb mF.out.lt);have HD5:=aa (mL.out.below zb mL.out.lt);have HT5:=aa (HTQ.out.below zb);have k0:=z8.cell 0 _ rfl;have k1:=z8.cell 1 _ rfl;have k2:=z9.cell 0 _ rfl;have k3:=z9.cell 1 _ rfl;clear zb z8 z9 iF HQ H8 H9 gX;have q0:=jJ.out.cell 0 _ rfl;have q1:=jJ.out.cell 1 _ rfl;have q2:=jJ.out.cell 2 _ rfl;have q3:=jJ.out.cell 3 _ rfl;have q4:=jJ.out.cell 4 _ rfl;have q5:=jJ.out.cell 5 _ rfl;have q6:=jJ.out.cell 6 _ rfl
     go_wp2_with fail
     refine (nn.out _ ir.out).mono ?_;rintro e w6 ⟨uv,rfl,ho6,b6⟩;have HU6:=aa (ho6.held (Z:=fun _=>True) (fun _ _ _=>trivial));have HT6:=aa (HT5.out.below b6);have HV6:=aa (jJ.out.below b6 jJ.out.lt);have HA6:=aa (HA5.out.below b6 HA5.out.lt);have HD6:=aa (HD5.out.below b6 HD5.out.lt);have jv:=aa (ir.out.trans (b6.mono ir.out.size));clear ho6 b6 k0 k1 k2 k3 q0 q1 q2 q3 q4 q5 q6;have HS6:=aa (cZ tv uv T T w6 HT6.out.ints HU6.out.ints HU6.out.max);rw [cY] at HS6
     go_wp2_with fail
     refine (HS6.out).mono ?_;rintro e w7 ⟨rfl,b7⟩;have li:=aa (HV6.out.below b7 HV6.out.lt);have HA7:=aa (HA6.out.below b7 HA6.out.lt);have HD7:=aa (HD6.out.below b7 HD6.out.lt);have jZ:=aa (jv.out.trans (b7.mono jv.out.size));have HT7:=aa (HT6.out.below b7);clear b7;have q0:=li.out.cell 0 _ rfl;have q1:=li.out.cell 1 _ rfl;have q2:=li.out.cell 2 _ rfl;have q3:=li.out.cell 3 _ rfl;have q4:=li.out.cell 4 _ rfl;have q5:=li.out.cell 5 _ rfl;have q6:=li.out.cell 6 _ rfl;have p0:=HA7.out.cell 0 _ rfl;have p1:=HA7.out.cell 1 _ rfl;have p2:=HD7.out.cell 0 _ rfl;have p3:=HD7.out.cell 1 _ rfl
     go_wp2_with fail
     refine (i2.out _ jZ.out).mono ?_;rintro e w8 ⟨sv,rfl,l6,b8⟩;have HU8:=aa (l6.held (Z:=fun _=>True) (fun _ _ _=>trivial));have HT8:=aa (HT7.out.below b8);have kW:=aa (jZ.out.trans (b8.mono jZ.out.size));clear l6 b8 p0 p1 p2 p3 q0 q1 q2 q3 q4 q5 q6;have HS8:=aa (cZ sv tv T T w8 HU8.out.ints HT8.out.ints HU8.out.max);rw [cY] at HS8
     go_wp2_with fail
     refine (HS8.out).mono ?_;rintro e w9 ⟨rfl,b9⟩;have HF:=aa (kW.out.trans (b9.mono kW.out.size));clear b9;go_wp2;go_ret;exact ⟨ae,HF.out⟩
theorem walk{H:Type}{enc:TypeId × Value->H}(W:World)(x:Value){bs0:Nat}{d0:DataW H}{p0:List MemPlace}(hx:Value.okWide Tryd.prog W .any bs0 26 x)(h0:DataW.Trod enc Tryd.prog W 0 (fun _=>true) true 26 x d0 p0)
  (y:Value) {bs1:Nat} {d1:DataW H} {p1:List MemPlace} (hy:Value.okWide Tryd.prog W .any bs1 64 y) (h1:DataW.Trod enc Tryd.prog W 0 (fun _=>true) true 64 y d1 p1)
  (z:Value) {bs2:Nat} {d2:DataW H} {p2:List MemPlace} (hz:Value.okWide Tryd.prog W .any bs2 64 z) (h2:DataW.Trod enc Tryd.prog W 0 (fun _=>true) true 64 z d2 p2)
  (hL:laidMetH Tryd.prog Rows.regionTextsRow.laid W) (hsz:(DataW.weightsEach Tryd.prog (#[26,64,64].toList++Rows.regionTextsSpec.plain.varTypes Tryd.prog) ([d0,d1,d2]++[])).all (· <= reachBytes)=true):Calls Tryd.prog 7 #[x,y,z] W (Yes W):=by
 obtain ⟨sa,hsa⟩:=dG hL;have hw:∀ z ∈ d0.weights Tryd.prog 26,z<=reachBytes:=by
  simp only [List.all_eq_true,DataW.weightsEach,List.cons_append,List.nil_append] at hsz;intro z hz;exact of_decide_eq_true (hsz z (List.mem_append.2 (.inl hz)))
 obtain ⟨v,lv,rfl,hl,e0,e1,hr⟩:=fm hx h0 hw;obtain ⟨a0,a1,rfl⟩:=place_arg hy h1;obtain ⟨b0,b1,rfl⟩:=place_arg hz h2;exact walkN W sa hsa v lv hl e0 e1 hr a0 a1 b0 b1
theorem door_met(os:Os):laidMetH Tryd.prog Rows.regionTextsRow.laid ((World.doorLaid Tryd.prog 400 os).forCall (fun _ _=>0) ⟨#[],#[.agg #[.int .i64 0,.int .i64 0,.slice none 0 0,.int .i64 0,.int .i64 0,.bool false,.bool false],.agg #[.int .i64 0,.int .i64 0],.agg #[.int .i64 0,.int .i64 0]],[]⟩).memory :=
 laidMetH_of_parts3 (fuel:=8) (laidMet_of_run' 8 (by kernel_rfl) (by kernel_rfl)) (by kernel_rfl) (by kernel_rfl)
theorem lifted(os:Os)(started:os.Started)(H:Type)(enc:TypeId × Value->H) :
  ReturnsInHanded {} Tryd.checked os 7 .any (fun w args=>(Rows.regionTextsSpec.pre enc Tryd.prog Tryd.f7 [] false w args/\laidMetH Tryd.prog Rows.regionTextsRow.laid w)/\sizedMet enc Tryd.prog Tryd.f7 (OpenSpec.ofChange Rows.regionTextsSpec) false w args)
   (Rows.regionTextsSpec.post enc Tryd.prog Tryd.f7 false true false false):=by
 refine fh (C:=Tryd.checked) (tb:=4) (by kernel_rfl) started (by kernel_rfl) Tryd.func7 (by kernel_rfl) (by kernel_rfl) Tryd.underlying4 rfl
  (by rw [Tryd.params7];intro t ht;simp at ht;rcases ht with rfl | rfl <;> exact ⟨by kernel_rfl,of_decide_eq_true (by kernel_rfl)⟩)
  (by rw [Tryd.params7];intro ds hd;match ds,hd with | [_,_,_],_=>rfl)
  (ChangeSpec.witness_shaped (enc:=enc) (C:=Tryd.checked) (os:=os) (X:=fun w _=>laidMetH Tryd.prog Rows.regionTextsRow.laid w) false (World.doorLaid Tryd.prog 400 os) #[.agg #[.int .i64 0,.int .i64 0,.slice none 0 0,.int .i64 0,.int .i64 0,.bool false,.bool false],.agg #[.int .i64 0,.int .i64 0],.agg #[.int .i64 0,.int .i64 0]] 8 rfl (World.shaped_of_RefB (by kernel_rfl) (by kernel_rfl)) (by kernel_rfl) (by kernel_rfl) (by kernel_rfl) (door_met os)) ?_
 intro W base args ds before hval hA hsz hL;rw [Tryd.params7] at hA hval hsz;obtain ⟨v0,vs0,d0,ds0,p0,q0,hargs,rfl,rfl,h0,r0⟩:=trodAll_cons hA;obtain ⟨v1,vs1,d1,ds1,p1,q1,rfl,rfl,rfl,h1,r1⟩:=trodAll_cons r0;obtain ⟨v2,vs2,d2,ds2,p2,q2,rfl,rfl,rfl,h2,r2⟩:=trodAll_cons r1;obtain ⟨rfl,rfl,rfl⟩:=trodAll_nil r2;obtain rfl:args=#[v0,v1,v2]:=by cases args;simp_all
 exact walk W v0 (hval 0 26 v0 rfl rfl) h0 v1 (hval 1 64 v1 rfl rfl) h1 v2 (hval 2 64 v2 rfl rfl) h2 hL hsz
theorem and_two{a b:Bool}(ha:a=true)(hb:b=true):(a && b)=true:=by rw [ha,hb];rfl
theorem joined:joinedFacts Tryd.pinned.checked.prog 7 Tryd.f7 Rows.regionTextsSpec Rows.regionTextsRow=true:=by
 unfold joinedFacts
 repeat' (with_reducible refine and_two ?_ ?_)
 all_goals (as_aux_lemma=>kernel_rfl)
theorem said:Rows.RegionTextsSaid :=
 OpenClaim.holds_of_wide 7 Tryd.f7 rfl rfl rfl rfl rfl rfl rfl ⟨rfl,rfl,rfl,rfl,rfl⟩ rfl rfl rfl rfl rfl (by kernel_rfl) Tryd.func7 joined
  (of_decide_eq_true (by kernel_rfl)) (by unfold Func.isWrapper;first | (rw [if_pos (by decide +kernel)];kernel_rfl) | (rw [if_neg (by decide +kernel)];exact ⟨rfl,rfl⟩))
  (fun os started H enc _=>lifted os started H enc)
theorem plain (f : FuncId) (fn : Func) (hf : Tryd.pinned.checked.prog.funcNamed "linotype/linotypelaw52.RegionTexts" = some f) (hfn : Tryd.pinned.checked.prog.funcs[f]? = some fn) :
  true=Tryd.pinned.checked.prog.looks []/\∀ (j:Nat) t,fn.params[j]? = some t->Tryd.pinned.checked.prog.wantsStandIn t=false:=by
 obtain rfl : f = 7 := Option.some.inj ((show Tryd.prog.funcNamed "linotype/linotypelaw52.RegionTexts" = some 7 by kernel_rfl).symm.trans hf) |>.symm
 obtain rfl:fn=Tryd.f7:=(Option.some.inj (Tryd.func7.symm.trans hfn)).symm;refine ⟨by kernel_rfl,fun j t ht=>?_⟩;rw [Tryd.params7] at ht;have hm:t ∈ [26,64,64]:=by simpa using Array.mem_of_getElem? ht
 have hall:([26,64,64].all fun u=>!Tryd.prog.wantsStandIn u)=true:=by kernel_rfl
 exact (show Tryd.prog.wantsStandIn t=false by simpa using List.all_eq_true.1 hall t hm)
theorem card:Rows.RegionTextsCardSaid :=
 Claim7.holds_tied_plain_at .later [] _ _ _ _ said (fun _ h=>by cases h) (by kernel_rfl) (fun _ h=>by cases h) regionTexts_row_tie rfl ⟨rfl,rfl⟩ (by kernel_rfl) rfl plain (by kernel_rfl)
#print axioms card
end Go.Proofs.YthdphijabffpiaaDoor.lawRegionTexts
