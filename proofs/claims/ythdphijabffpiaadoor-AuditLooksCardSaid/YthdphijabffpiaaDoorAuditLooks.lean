import Derived.Test.YthdphijabffpiaaDoorZ0
import Derived.Test.YthdphijabffpiaaDoorMg5
import Derived.Test.YthdphijabffpiaaDoorAudR
import Derived.Test.YthdphijabffpiaaDoorMg4
import Derived.Test.YthdphijabffpiaaDoorMg1
import Derived.Test.YthdphijabffpiaaDoorCards
import Derived.Test.YthdphijabffpiaaDoorTie
import Derived.ProofKit
import Derived.Lib.MinMax
import Derived.Deep.Cut
set_option maxRecDepth 100000
set_option linter.unusedVariables false
set_option linter.unusedSimpArgs false
set_option maxHeartbeats 8000000
namespace Go.Proofs.YthdphijabffpiaaDoor.lawAuditLooks
open Go.ChangeShapes Go.WideShapes Go.ChangeAt Go.RowKit
theorem room_law{W:World}{v:Vw}{lv:Value}(hv:HeldE lineE (fun _=>True) W lv v.L)(h0:(Lit.int .i64 v.w).wf=true)(h1:(Lit.int .i64 v.h).wf=true):ViewAt W v lv:=by
 simp [Lit.wf] at h0 h1
 exact ⟨hv,h0.1,h0.2,h1.1,h1.2⟩
theorem linesF_len(w:Int)(Ls:List Ln):∀ k,(∀ i,i<k->(Ls.getD i zl).1.length<=3000)->(aj w Ls k).length<=3001 * k
 |0,_=>by rw [bY];simp
 |k+1,h=>by
  have h1:=linesF_len w Ls k fun i hi=>h i (by omega)
  have h2:=dP w (Ls.getD k zl).1;have h3:=h k (by omega);rw [aG,List.length_append];unfold aC;rw [List.length_map];omega
theorem all_small(v:Vw)(h:v.L.length<=200)(hl:∀ i,i<v.L.length->(v.L.getD i zl).1.length<=3000):(ay v).length<=700000/\dB v 1000000000:=by
 have h1:=dQ v;have h2:=dR v;have h3:=linesF_len v.w v.L v.L.length hl;refine ⟨?_,fun i hi=>?_⟩
 ·unfold ay;rw [List.length_append,List.length_append];omega
 ·have h4:=linesF_len v.w v.L i fun j hj=>hl j (by omega)
  have h5:=hl i hi;rw [List.length_append];omega
theorem founds_at{Z:al}{w:World}{x:Value}{t:List Fnd}(h:HeldE foundE Z w x (t.map aF)):∃ ao cap,x=.slice ao t.length cap/\t.length<=cap/\∀ i,i<t.length->∃ b off,ao=some ⟨b,off,none⟩/\b<w.heap.size/\w.cell? ⟨b,off+i * 3,none⟩=some (.int .i64 ((t.getD i ([],0)).1.headD (-1))) /\
  w.cell? ⟨b,off+i * 3+1,none⟩=some (.int .i64 ((t.getD i ([],0)).1.tail.headD (-1)))/\w.cell? ⟨b,off+i * 3+2,none⟩=some (.int .i64 ((t.getD i ([],0)).2:Nat)):=by
 obtain ⟨ao,cap,rfl,hc,_,_,h3⟩:=h;rw [List.length_map] at hc h3;refine ⟨ao,cap,by rw [List.length_map],hc,fun i hi=>?_⟩;obtain ⟨b,off,rfl,hb,_,C,hC,C1,C2,rfl,e1,C3,C4,rfl,e3,e4⟩:=h3 i hi;have hg:(t.map aF).getD i foundE.zero=aF (t.getD i ([],0)):=by
  rw [List.getD_eq_getElem?_getD,List.getD_eq_getElem?_getD,List.getElem?_map,List.getElem?_eq_getElem hi];rfl
 rw [hg] at e1 e3 e4
 cases e1;cases e3;cases e4
 exact ⟨b,off,rfl,hb,hC 0 (by decide),hC 1 (by decide),hC 2 (by decide)⟩
theorem errs_len{sa:Nat->Addr}{w:World}{x:Value}{t:List Fnd}(h:ErrsAt sa w x t):∃ ao cap,x=.slice ao t.length cap/\t.length<=cap:=by
 obtain ⟨ao,cap,e,h1,_⟩:=h;exact ⟨ao,cap,e,h1⟩
theorem walkN(W:World)(sa:Nat->Addr)(hs:F.Sents W sa)(hh:F.Handle W)(v:Vw)(lv:Value)(fP:HeldE lineE (fun _=>True) W lv v.L)(h0:(Lit.int .i64 v.w).wf=true)(h1:(Lit.int .i64 v.h).wf=true)(hr:∀ l ∈ v.L,l.1.length * 32<=reachBytes):Calls Tryd.prog 3 #[.agg #[.int .i64 v.w,.int .i64 v.h,lv,.int .i64 v.r,.int .i64 v.c,.bool v.pd,.bool v.au]] W (Yes W):=by
 obtain ⟨vw,vh,Ls,r,c,pd,au⟩:=v;simp only at fP h0 h1 hr;simp only;obtain ⟨lo,lc,rfl⟩:=fP.len;have hlc:=(aW fP).2.1;have hZ:=aa (aW fP).2.2;have HR:=aa (show ∀ k,k<Ls.length->(Ls.getD k zl).1.length<=4398046511104 from fun k hk=>by
  have h:=hr (Ls.getD k zl) (by rw [List.getD_eq_getElem?_getD,List.getElem?_eq_getElem hk];exact List.getElem_mem hk);have hq:reachBytes=140737488351232:=rfl;rw [hq] at h;omega)
 have HS:=aa hs;have HH:=aa hh;have HVA:=aa (room_law (v:=⟨vw,vh,Ls,r,c,pd,au⟩) fP h0 h1);obtain ⟨n,hn⟩:=ab (Ls.length);have fD:=aa hn;rw [<-hn] at hlc hZ HVA HR ⊢;obtain ⟨W1,hW1⟩:=ab (W.alloc (.cells [Value.int .i64 vw,.int .i64 vh,.slice lo n lc,.int .i64 r,.int .i64 c,.bool pd,.bool au].toArray 26));obtain ⟨gv,gN⟩:=ab (W.heap.size);have hb1:Below W.heap.size W W1:=by rw [hW1];exact af _ _
 have fO:Has W1 gv [.int .i64 vw,.int .i64 vh,.slice lo n lc,.int .i64 r,.int .i64 c,.bool pd,.bool au] 26:=by rw [hW1,gN];exact Has.new W _ _
 have HV:=aa fO;have HB:=aa hb1;have fB:W.alloc (.cells #[Value.int .i64 vw,.int .i64 vh,.slice lo n lc,.int .i64 r,.int .i64 c,.bool pd,.bool au] 26)=W1:=hW1.symm;have jt:=aa gN;clear hW1 hb1 fO gN hn fP h0 h1 hs hh hr
 by_cases j5:200<n
 ·have d2:decide ((200:Int)<n)=true:=ag (by omega)
  go_enter Tryd.func3,Tryd.ntmps3
  go_upto_region 1 with (fail)
  rw [<-jt.out];clear fB;have q2:=HV.out.cell 2 _ rfl
  go_wp2_with fail
  refine (bl sa _ (HS.out.below HB.out) (HH.out.keep HB.out)).mono ?_;rintro e w1 ⟨rfl,b1⟩;have g5:=aa (HB.out.trans (b1.mono HB.out.size));have q2:=(HV.out.below b1 HV.out.lt).cell 2 _ rfl;clear b1
  go_wp2_with fail
  refine (bl sa _ (HS.out.below g5.out) (HH.out.keep g5.out)).mono ?_;rintro e w2 ⟨rfl,b2⟩;have fs:=aa (g5.out.trans (b2.mono g5.out.size));clear b2;go_wp2;go_ret;exact ⟨ae,fs.out⟩
 have d2:decide ((200:Int)<n)=false:=ah (by omega)
 go_enter Tryd.func3,Tryd.ntmps3
 go_upto_region 1 with (fail)
 rw [<-jt.out];clear fB
 go_wp2_with fail
 refine (bl sa _ (HS.out.below HB.out) (HH.out.keep HB.out)).mono ?_;rintro e w1 ⟨rfl,b1⟩;have g5:=aa (HB.out.trans (b1.mono HB.out.size));have HV1:=aa (HV.out.below b1 HV.out.lt);have q2:=HV1.out.cell 2 _ rfl;clear b1;go_wp2
 go_loopw [3,4] (fun nv iv wr=>∃ (k:Nat) (s:Int),k<=n/\0<=s/\s<=3000/\(∀ i,i<k->(Ls.getD i zl).1.length<=3000)/\nv=.int .i64 s/\iv=.int .i64 k/\Below W.heap.size W wr/\Has wr gv [.int .i64 vw,.int .i64 vh,.slice lo n lc,.int .i64 r,.int .i64 c,.bool pd,.bool au] 26) (fun _ iv _=>n - (intOf iv).toNat)
 case atStart=>exact ⟨0,0,Nat.zero_le _,Int.le_refl _,by decide,fun i hi=>absurd hi (Nat.not_lt_zero _),rfl,rfl,g5.out,HV1.out⟩
 case round =>
  obtain ⟨k,s,hk,hs0,hs1,hli,rfl,rfl,hb,hP⟩:=hrel;have ia:=aa hli;clear hli;obtain ⟨wq,gL⟩:=ab (wr);subst gL;have fd:=aa hb;have HVW:=aa hP;have q2:=hP.cell 2 _ rfl;clear hb hP
  by_cases hlt:k<n
  ·obtain ⟨b,off,cv,eo,hb,_,hc0,hc1,hcv⟩:=hZ.out k hlt;subst eo;have c0:=(fd.out.cell (p:=⟨b,off+k * 2,none⟩) hb).trans hc0;obtain ⟨co,cc,ecv⟩:=hcv.len;obtain ⟨nk,gq⟩:=ab ((Ls.getD k zl).1.length);rw [<-gq] at ecv;subst ecv;have ig:(k:Int)<(n:Int):=by omega
   have iy:IntKind.i64.wrap ((k:Int)+1)=(k:Int)+1:=by rw [IntKind.wrap_i64];omega
   have hnr:nk<=4398046511104:=by rw [gq];exact HR.out k hlt
   have hnk2:=aa gq;obtain ⟨s2,hs2⟩:=ab (s+(nk:Int));have hws:IntKind.i64.wrap (s+(nk:Int))=s2:=by rw [hs2,IntKind.wrap_i64];omega
   have HS2:=aa hs2;have jJ:k<lc:=by omega
   clear hc0 hc1 hb gq hs2 hcv
   by_cases hg:3000<s2
   ·have dg:decide (3000<s2)=true:=ag (by omega);go_wp2;go_ret;exact ⟨ae,fd.out⟩
   ·have dg:decide (3000<s2)=false:=ah (by omega);go_wp2
    go_roundw
    case rel=>exact ⟨k+1,s2,by omega,by have:=HS2.out;omega,by omega,fun i hi=>by
     rcases Nat.lt_or_ge i k with h | h
     ·exact ia.out i h
     ·obtain rfl:i=k:=by omega
      have:=HS2.out;rw [<-hnk2.out];omega,by go_num,by go_num,fd.out,HVW.out⟩
    case measure=>simp [intOf] <;> omega
  ·obtain rfl:k=n:=by omega
   obtain ⟨v,jc⟩ : ∃ v:Vw,v=⟨vw,vh,Ls,r,c,pd,au⟩:=⟨_,rfl⟩;obtain ⟨t,ht⟩:=ab (ay v);have jK:Hid (ViewAt W v (.slice lo k lc)):=aa (by rw [jc];exact HVA.out);have hsm:=all_small v (by rw [jc];show Ls.length<=200;have:=fD.out;omega) (by rw [jc];show ∀ i,i<Ls.length->_;rw [<-fD.out];exact ia.out);have HA:=aa (fun (w':World) (b:Below W.heap.size W w')=>cC sa v _ w' (HS.out.below b) (jK.out.below b) (by have:=hsm.1;omega) hsm.2);have HM:=aa (fun (w':World) (b:Below W.heap.size W w')=>ea v _ w' (jK.out.below b) (by have:=hsm.1;omega));have gw:=aa (fun (w':World) (b:Below W.heap.size W w')=>cj sa v _ w' (HS.out.below b) (jK.out.below b));have iQ:=aa (fun (w':World) (b:Below W.heap.size W w')=>dm sa v _ w' (HS.out.below b) (jK.out.below b));have hlt7:t.length<=700000:=by rw [ht];exact hsm.1
   have hrt:bT v=t.isEmpty:=by rw [ht];rfl
   unfold cB at HA;unfold ci at gw;rw [<-ht] at HA HM gw;rw [hrt] at iQ;have hvV:bh v (.slice lo k lc)=.agg #[.int .i64 vw,.int .i64 vh,.slice lo k lc,.int .i64 r,.int .i64 c,.bool pd,.bool au]:=by rw [jc];rfl
   rw [hvV] at HA HM gw iQ;clear hvV hrt hsm jc ht
   go_upto_region 10 with (fail)
   clear q2;clear fD ia HR;obtain ⟨ff,fp⟩ : ∃ CC:Array Bool->World->Prop,CC=fun L w'=>Has w' gv [.int .i64 vw,.int .i64 vh,.slice lo k lc,.int .i64 r,.int .i64 c,.bool pd,.bool au] 26/\Below W.heap.size W w':=⟨_,rfl⟩
   obtain ⟨it,fw,fJ,fv⟩:=Reg.xB;obtain ⟨iu,fA,fj,fo,fq,fa,fg,fh,_,_⟩:=Reg.e8 it
    (fun xx _=>xx=.agg #[.int .i64 vw,.int .i64 vh,.slice lo k lc,.int .i64 r,.int .i64 c,.bool pd,.bool au])
    (fun x w'=>ErrsAt sa w' x t)
    (fun xx _=>xx=.agg #[.int .i64 vw,.int .i64 vh,.slice lo k lc,.int .i64 r,.int .i64 c,.bool pd,.bool au])
    (fun x w'=>HeldE foundE (fun _=>True) w' x (t.map aF))
    (fun x w'=>ErrsAt sa w' x t)
    (fun x w'=>HeldE foundE (fun _=>True) w' x (t.map aF))
    (fun _ _=>True) (fun _ _=>True)
    (s1:=fun x w w1 hx h=>by rw [fw] at hx;first | exact ErrsAt.below h hx | exact HeldE.below h hx)
    (s3:=fun x w w1 hx h=>by rw [fw] at hx;first | exact ErrsAt.below h hx | exact HeldE.below h hx)
    (s4:=fun x w w1 hx h=>by rw [fw] at hx;first | exact ErrsAt.below h hx | exact HeldE.below h hx)
    (s5:=fun x w w1 hx h=>by rw [fw] at hx;first | exact ErrsAt.below h hx | exact HeldE.below h hx)
   have fu:Hid (∀ i L w, ff L w->ff (L.setIfInBounds i true) w):=aa (by
    intro i L w h;rw [fp] at h ⊢;exact h)
   have fN:Hid (∀ L w w1,ff L w->Below w.heap.size w w1->ff L w1):=aa (by
    intro L w w1 h hb;rw [fp] at h ⊢;exact ⟨Has.below h.1 hb h.1.lt,h.2.trans (hb.mono h.2.size)⟩)
   have fU:=aa (show ff (Array.replicate 6 false) wq.drew from by rw [fp];exact ⟨HVW.out,fd.out.drew⟩);have fc:=aa (fun (i:Nat) L w v (h:ff L w) (e:iu i v w)=>Reg.hk (fu.out i L w h) e (fJ.out w));have e9:=aa fp;have fG:=aa fw;clear fp fw
   go_wp2_with fail
   refine Reg.regionF iu ff it fA.out (by kernel_rfl) (by kernel_rfl) (by kernel_rfl) fU.out (fun Frg e7=>?_);simp only [Reg.frame,Reg.dsts,List.map_cons,List.map_nil,Mix.put_lit,List.set_cons_succ,List.set_cons_zero,Nat.zero_add,Nat.reduceAdd] at e7;refine ⟨⟨?_,?_,?_,?_,?_,?_,trivial⟩,?_⟩
   ·intro Lq wq xq hh;simp only [e7];refine Reg.go rfl ?_;have hc:ff Lq wq:=hh.cls;rw [e9.out] at hc;have z0:=hc.1;have q0:=z0.cell 0 _ rfl;have q1:=z0.cell 1 _ rfl;have q2:=z0.cell 2 _ rfl;have q3:=z0.cell 3 _ rfl;have q4:=z0.cell 4 _ rfl;have q5:=z0.cell 5 _ rfl;have q6:=z0.cell 6 _ rfl;clear z0;clear hc;have HK:=fc.out 0 _ _ _ hh.cls ((fj.out _ _).mpr rfl);go_simp;exact HK.out
   ·intro Lq wq xq hh;simp only [e7,(fj.out _ _).mp (hh.v 0)];refine Reg.go rfl ?_;unfold Reg.upon;have hc:ff Lq wq:=hh.cls;rw [e9.out] at hc;go_simp;refine (HA.out wq hc.2).mono ?_;rintro e w4 ⟨u,rfl,he,hb4⟩;exact ⟨_,rfl,fu.out 1 Lq w4 (fN.out Lq wq w4 hh.cls hb4),(by rw [fo.out];exact he),fv.out wq w4 hb4⟩
   ·intro Lq wq xq hh;simp only [e7];refine Reg.go rfl ?_;have hc:ff Lq wq:=hh.cls;rw [e9.out] at hc;have z0:=hc.1;have q0:=z0.cell 0 _ rfl;have q1:=z0.cell 1 _ rfl;have q2:=z0.cell 2 _ rfl;have q3:=z0.cell 3 _ rfl;have q4:=z0.cell 4 _ rfl;have q5:=z0.cell 5 _ rfl;have q6:=z0.cell 6 _ rfl;clear z0;clear hc;have HK:=fc.out 2 _ _ _ hh.cls ((fq.out _ _).mpr rfl);go_simp;exact HK.out
   ·intro Lq wq xq hh;simp only [e7,(fq.out _ _).mp (hh.v 2)];refine Reg.go rfl ?_;unfold Reg.upon;have hc:ff Lq wq:=hh.cls;rw [e9.out] at hc;go_simp;refine (HM.out wq hc.2).mono ?_;rintro e w4 ⟨u,rfl,he,hb4⟩;exact ⟨_,rfl,fu.out 3 Lq w4 (fN.out Lq wq w4 hh.cls hb4),(by rw [fa.out];exact he.held (fun _ _ _=>trivial)),fv.out wq w4 hb4⟩
   ·intro Lq wq xq hh;have d1:=(fo.out _ _).mp (hh.v 1);simp only [e7];refine Reg.go rfl ?_;unfold Reg.upon;go_simp;exact ⟨fu.out 4 Lq wq hh.cls,(by rw [fg.out];exact d1),fJ.out _⟩
   ·intro Lq wq xq hh;have d3:=(fa.out _ _).mp (hh.v 3);simp only [e7];refine Reg.go rfl ?_;unfold Reg.upon;go_simp;exact ⟨fu.out 5 Lq wq hh.cls,(by rw [fh.out];exact d3),fJ.out _⟩
   intro xq ir fM fL;rw [e9.out] at fM;simp only [e7];have vrg4:=(fg.out _ _).mp (fL 4 (by decide));have vrg5:=(fh.out _ _).mp (fL 5 (by decide));clear fL e7 fc fu fJ fA fU e9 fG fN fv fj fo fq fa fg fh;obtain ⟨hv10,hb10⟩:=fM;obtain ⟨eo,ec,e4,hec,hE⟩:=vrg4;obtain ⟨mo,mc,e5,hmc,hM⟩:=founds_at vrg5;rw [e4,e5];obtain ⟨n,hn⟩:=ab (t.length);have HN:=aa hn;rw [<-hn] at hec hmc hE hM hlt7 ⊢;have HE:=aa hE;have jo:=aa hM;have fC:=aa hv10;have fz:=aa hb10;clear e4 e5 hE hM vrg5 hv10 hb10 hn;have k0:=fC.out.cell 0 _ rfl;have k1:=fC.out.cell 1 _ rfl;have k2:=fC.out.cell 2 _ rfl;have k3:=fC.out.cell 3 _ rfl;have k4:=fC.out.cell 4 _ rfl;have k5:=fC.out.cell 5 _ rfl;have k6:=fC.out.cell 6 _ rfl
   go_wp2_with fail
   refine (gw.out _ fz.out).mono ?_;rintro e w11 ⟨u,rfl,hu,b11⟩;have hb11:=fz.out.trans (b11.mono fz.out.size);have gh:=aa (fC.out.below b11 fC.out.lt);have HB11:=aa hb11;have hY:=aa b11;clear k0 k1 k2 k3 k4 k5 k6 hb11 b11;have k0:=gh.out.cell 0 _ rfl;have k1:=gh.out.cell 1 _ rfl;have k2:=gh.out.cell 2 _ rfl;have k3:=gh.out.cell 3 _ rfl;have k4:=gh.out.cell 4 _ rfl;have k5:=gh.out.cell 5 _ rfl;have k6:=gh.out.cell 6 _ rfl
   rcases hu with ⟨fT,rfl⟩ | ⟨ps,cd,t',fT,he0⟩
   ·obtain rfl:n=0:=by rw [HN.out,fT];rfl
    have jz:t.isEmpty=true:=by rw [fT];rfl
    rw [jz] at iQ
    go_wp2_with fail
    refine (iQ.out _ HB11.out).mono ?_;rintro e w12 ⟨rfl,b12⟩;have iK:=aa (hY.out.trans (b12.mono hY.out.size));clear b12 k0 k1 k2 k3 k4 k5 k6;go_wp2
    go_loopw [7] (fun iv wr=>iv=.int .i64 0/\Below ir.heap.size ir wr) (fun _ _=>0)
    case atStart=>exact ⟨rfl,iK.out⟩
    case round =>
     obtain ⟨rfl,hb⟩:=hrel;have i8:=fz.out.trans (hb.mono fz.out.size);have HX4:=aa (fun (u:Growth wr)=>aI i8 u);clear hb i8
     go_upto_region 18 with (fail)
     refine aT (by kernel_rfl) (by kernel_rfl) ?_
     repeat (go_big_quiet_step ((fail)))
     refine wpQuiet_nil ?_;intro _ hw';obtain ⟨u,hw''⟩:=hw';subst hw'';have HF:=aa (HX4.out u);go_wp2;go_ret;exact ⟨ae,HF.out⟩
   ·have jF:0<n:=by rw [HN.out,fT];simp
    have jz:t.isEmpty=false:=by rw [fT];rfl
    have hd0:decide ((n:Int)=0)=false:=ah (by omega);obtain ⟨T,y,rfl⟩:=he0.iface;rw [jz] at iQ;clear jz he0
    go_wp2_with fail
    refine (iQ.out _ HB11.out).mono ?_;rintro e w12 ⟨rfl,b12⟩;have iK:=aa (hY.out.trans (b12.mono hY.out.size));clear b12 k0 k1 k2 k3 k4 k5 k6;go_wp2
    go_loopw [7] (fun iv wr=>∃ q:Nat,q<=n/\iv=.int .i64 q/\Below ir.heap.size ir wr) (fun iv _=>n - (intOf iv).toNat)
    case atStart=>exact ⟨0,Nat.zero_le _,rfl,iK.out⟩
    case round =>
     obtain ⟨q,hq,rfl,hb⟩:=hrel;have HB:=aa hb;clear hb
     by_cases hlt:q<n
     ·obtain ⟨eb,x,rfl,heb,ce,he⟩:=HE.out q hlt;obtain ⟨mb,mf,rfl,hG,m0,m1,m2⟩:=jo.out q hlt;have k0:=ar ((HB.out.cell (p:=⟨eb,q,none⟩) heb).trans ce);have k1:=ar ((HB.out.cell (p:=⟨mb,mf+q * 3,none⟩) hG).trans m0);have k2:=ar ((HB.out.cell (p:=⟨mb,mf+q * 3+1,none⟩) hG).trans m1);have k3:=ar ((HB.out.cell (p:=⟨mb,mf+q * 3+2,none⟩) hG).trans m2);have jM:=aa (fun (u:Growth wr)=>F.at_any sa (ext wr u) (HH.out.keep (aI (fz.out.trans (HB.out.mono fz.out.size)) u)) _ _ _ (Or.inr (he.keep (aI HB.out u)).err));have HX2:=aa (fun (u:Growth wr)=>F.within_any sa (ext wr u) (HH.out.keep (aI (fz.out.trans (HB.out.mono fz.out.size)) u)) _ _ _ (Or.inr (he.keep (aI HB.out u)).err));have HX3:=aa (fun (u:Growth wr)=>F.code_any sa (ext wr u) (HS.out.below (aI (fz.out.trans (HB.out.mono fz.out.size)) u)) _ _ _ (Or.inr (he.keep (aI HB.out u)).err));clear ce he m0 m1 m2 heb hG;generalize (t.getD q ([],0)).1.headD (-1)=a1 at k1 jM;generalize (t.getD q ([],0)).1.tail.headD (-1)=a2 at k2 HX2;generalize (((t.getD q ([],0)).2:Nat):Int)=a3 at k3 HX3;have z1:(a1 == a1)=true:=by simp
      have z2:(a2 == a2)=true:=by simp
      have z3:(a3 == a3)=true:=by simp
      have hqi:(q:Int)<(n:Int):=by omega
      have hqe:q<ec:=by omega
      have hqm:q<mc:=by omega
      have iy:IntKind.i64.wrap ((q:Int)+1)=(q:Int)+1:=by rw [IntKind.wrap_i64];omega
      have HBU:=aa (fun (u:Growth wr)=>aI HB.out u)
      go_upto_region 16 with (fail)
      refine aT (by kernel_rfl) (by kernel_rfl) ?_
      repeat (go_big_quiet_step ((first | (go_at_call 15;exact eu (jM.out _)) | (go_at_call 16;exact eu (HX2.out _)) | (go_at_call 17;exact bg (HX3.out _)))))
      refine wpQuiet_nil ?_;intro _ hw';obtain ⟨u,hw''⟩:=hw';subst hw'';have HBN:=aa (HBU.out u);clear k0 k1 k2 k3;go_wp2
      go_roundw
      case rel=>exact ⟨q+1,by omega,by go_num,HBN.out⟩
      case measure=>simp [intOf] <;> omega
     ·obtain rfl:q=n:=by omega
      obtain ⟨mb,mf,rfl,hG,m0,_,m2⟩:=jo.out 0 jF;have hg0:t.getD 0 ([],0)=(ps,cd):=by rw [fT];rfl
      rw [hg0] at m0 m2;have g8:=aa fT;have jW:=(HB.out.cell (p:=⟨mb,mf+0 * 3,none⟩) hG).trans m0;have iS:=(HB.out.cell (p:=⟨mb,mf+0 * 3+2,none⟩) hG).trans m2;have i8:=fz.out.trans (HB.out.mono fz.out.size);have hvw:=fC.out.below HB.out fC.out.lt;have hqm:0<mc:=by omega
      have hni:(0:Int)<(q:Int):=by omega
      simp only [Nat.zero_mul,Nat.add_zero] at jW iS;have HZ:=aa (And.intro jW (And.intro iS (And.intro i8 hvw)));clear hg0 fT m0 m2 hG jW iS i8 hvw;have HAT:=aa (fun (w':World) (b:Below W.heap.size W w') (x:Value) (he:ErrT sa w' x ps cd)=>F.at_any sa w' (HH.out.keep b) x ps cd (Or.inr he.err));generalize ps.headD (-1)=g1 at HAT HZ
      go_upto_region 18 with (fail)
      obtain ⟨ff,fp⟩ : ∃ CC:Array Bool->World->Prop,CC=fun L w'=>Has w' gv [.int .i64 vw,.int .i64 vh,.slice lo k lc,.int .i64 r,.int .i64 c,.bool pd,.bool au] 26/\Below W.heap.size W w'/\w'.cell? ⟨mb,mf,none⟩=some (.int .i64 g1)/\w'.cell? ⟨mb,mf+2,none⟩=some (.int .i64 (cd:Nat)):=⟨_,rfl⟩
      obtain ⟨it,fw,fJ,fv⟩:=Reg.xB;obtain ⟨iu,fA,fj,fo,fq,fa,fg,fh,gK,gR,gS,g6,fW,gi,fe,ga,gb,f9,gm,fX,f5,gj,fZ,ge,f8,gn⟩:=Reg.e24 it
       (fun xx _=>xx=.slice (some ⟨mb,mf,none⟩) q mc)
       (fun xx _=>xx=.int .i64 q)
       (fun xx _=>xx=.bool false)
       (fun xx _=>xx=.bool false)
       (fun xx _=>xx=.agg #[.int .i64 vw,.int .i64 vh,.slice lo k lc,.int .i64 r,.int .i64 c,.bool pd,.bool au])
       (fun x w'=>ErrT sa w' x ps cd)
       (fun xx _=>xx=.int .i64 (cd:Nat))
       (fun xx _=>xx=.slice (some ⟨mb,mf,none⟩) q mc)
       (fun xx _=>xx=.pointer (some ⟨mb,mf,none⟩))
       (fun xx _=>xx=.pointer (some ⟨mb,mf+2,none⟩))
       (fun xx _=>xx=.int .i64 (cd:Nat))
       (fun xx _=>xx=.bool true)
       (fun xx _=>xx=.bool true)
       (fun xx _=>xx=.agg #[.int .i64 vw,.int .i64 vh,.slice lo k lc,.int .i64 r,.int .i64 c,.bool pd,.bool au])
       (fun x w'=>ErrT sa w' x ps cd)
       (fun xx _=>xx=.int .i64 g1)
       (fun xx _=>xx=.slice (some ⟨mb,mf,none⟩) q mc)
       (fun xx _=>xx=.pointer (some ⟨mb,mf,none⟩))
       (fun xx _=>xx=.pointer (some ⟨mb,mf,none⟩))
       (fun xx _=>xx=.int .i64 g1)
       (fun xx _=>xx=.bool true)
       (fun xx _=>xx=.bool true)
       (fun xx _=>xx=.bool true)
       (fun xx _=>xx=.bool true)
       (s5:=fun x w w1 hx h=>by rw [fw] at hx;exact ErrT.keep h hx)
       (s14:=fun x w w1 hx h=>by rw [fw] at hx;exact ErrT.keep h hx)
      have fu:Hid (∀ i L w, ff L w->ff (L.setIfInBounds i true) w):=aa (by
       intro i L w h;rw [fp] at h ⊢;exact h)
      have fN:Hid (∀ L w w1,ff L w->Below w.heap.size w w1->ff L w1):=aa (by
       intro L w w1 h hb;rw [fp] at h ⊢;exact ⟨Has.below h.1 hb h.1.lt,h.2.1.trans (hb.mono h.2.1.size),(hb.cell (World.block_lt_of_cell? _ _ h.2.2.1)).trans h.2.2.1,(hb.cell (World.block_lt_of_cell? _ _ h.2.2.2)).trans h.2.2.2⟩)
      have fU:=aa (show ff (Array.replicate 24 false) wr.drew from by rw [fp];exact ⟨HZ.out.2.2.2,HZ.out.2.2.1.drew,HZ.out.1,HZ.out.2.1⟩);have fc:=aa (fun (i:Nat) L w v (h:ff L w) (e:iu i v w)=>Reg.hk (fu.out i L w h) e (fJ.out w));have e9:=aa fp;have fG:=aa fw;clear fp fw
      go_wp2_with fail
      refine Reg.regionF iu ff it fA.out (by kernel_rfl) (by kernel_rfl) (by kernel_rfl) fU.out (fun Frg e7=>?_);simp only [Reg.frame,Reg.dsts,List.map_cons,List.map_nil,Mix.put_lit,List.set_cons_succ,List.set_cons_zero,Nat.zero_add,Nat.reduceAdd] at e7;refine ⟨⟨?_,?_,?_,?_,?_,?_,?_,?_,?_,?_,?_,?_,?_,?_,?_,?_,?_,?_,?_,?_,?_,?_,?_,?_,trivial⟩,?_⟩
      ·intro Lq wq xq hh;simp only [e7];refine Reg.go rfl ?_;have HK:=fc.out 0 _ _ _ hh.cls ((fj.out _ _).mpr rfl);go_simp;exact HK.out
      ·intro Lq wq xq hh;simp only [e7,(fj.out _ _).mp (hh.v 0)];refine Reg.go rfl ?_;have HK:=fc.out 1 _ _ _ hh.cls ((fo.out _ _).mpr rfl);go_simp;exact HK.out
      ·intro Lq wq xq hh;simp only [e7,(fo.out _ _).mp (hh.v 1)];refine Reg.go rfl ?_;have HK:=fc.out 2 _ _ _ hh.cls ((fq.out _ _).mpr rfl);go_simp;exact HK.out
      ·intro Lq wq xq hh;simp only [e7,(fq.out _ _).mp (hh.v 2)];refine Reg.go rfl ?_;have HK:=fc.out 3 _ _ _ hh.cls ((fa.out _ _).mpr rfl);go_simp;exact HK.out
      ·intro Lq wq xq hh;simp only [e7,(fa.out _ _).mp (hh.v 3)];refine Reg.go rfl ?_;have hc:ff Lq wq:=hh.cls;rw [e9.out] at hc;have z0:=hc.1;have q0:=z0.cell 0 _ rfl;have q1:=z0.cell 1 _ rfl;have q2:=z0.cell 2 _ rfl;have q3:=z0.cell 3 _ rfl;have q4:=z0.cell 4 _ rfl;have q5:=z0.cell 5 _ rfl;have q6:=z0.cell 6 _ rfl;clear z0;clear hc;have HK:=fc.out 4 _ _ _ hh.cls ((fg.out _ _).mpr rfl);go_simp;exact HK.out
      ·intro Lq wq xq hh;simp only [e7,(fa.out _ _).mp (hh.v 3),(fg.out _ _).mp (hh.v 4)];refine Reg.go rfl ?_;unfold Reg.upon;have hc:ff Lq wq:=hh.cls;rw [e9.out] at hc;go_simp;refine (gw.out wq hc.2.1).mono ?_;rintro e w4 ⟨u,rfl,he,hb4⟩;refine ⟨_,rfl,fu.out 5 Lq w4 (fN.out Lq wq w4 hh.cls hb4),?_,fv.out wq w4 hb4⟩
       rcases he with ⟨e0,_⟩ | ⟨p9,c9,t9,e0,he⟩
       ·rw [g8.out] at e0;cases e0
       ·rw [g8.out] at e0;cases e0;rw [fh.out];exact he
      ·intro Lq wq xq hh;have d5:=(fh.out _ _).mp (hh.v 5);simp only [e7,(fa.out _ _).mp (hh.v 3)];refine Reg.go rfl ?_;unfold Reg.upon;have hc:ff Lq wq:=hh.cls;rw [e9.out] at hc;go_simp;refine (F.code_any sa wq (HS.out.below hc.2.1) _ _ _ (Or.inr d5.err)).mono ?_;rintro e w2 ⟨rfl,rfl⟩;exact ⟨_,rfl,fu.out 6 Lq wq  hh.cls,(by rw [gK.out];try rfl),fJ.out _⟩
      ·intro Lq wq xq hh;simp only [e7,(fa.out _ _).mp (hh.v 3)];refine Reg.go rfl ?_;have HK:=fc.out 7 _ _ _ hh.cls ((gR.out _ _).mpr rfl);go_simp;exact HK.out
      ·intro Lq wq xq hh;simp only [e7,(fa.out _ _).mp (hh.v 3),(gR.out _ _).mp (hh.v 7)];refine Reg.go rfl ?_;have HK:=fc.out 8 _ _ _ hh.cls ((gS.out _ _).mpr rfl);go_simp;exact HK.out
      ·intro Lq wq xq hh;simp only [e7,(fa.out _ _).mp (hh.v 3),(gS.out _ _).mp (hh.v 8)];refine Reg.go rfl ?_;have HK:=fc.out 9 _ _ _ hh.cls ((g6.out _ _).mpr rfl);go_simp;exact HK.out
      ·intro Lq wq xq hh;simp only [e7,(fa.out _ _).mp (hh.v 3),(g6.out _ _).mp (hh.v 9)];refine Reg.go rfl ?_;have hc:ff Lq wq:=hh.cls;rw [e9.out] at hc;have z0:=hc.2.2.2;clear hc;have HK:=fc.out 10 _ _ _ hh.cls ((fW.out _ _).mpr rfl);go_simp;exact HK.out
      ·intro Lq wq xq hh;simp only [e7,(fa.out _ _).mp (hh.v 3),(gK.out _ _).mp (hh.v 6),(fW.out _ _).mp (hh.v 10)];refine Reg.go rfl ?_;have HK:=fc.out 11 _ _ _ hh.cls ((gi.out _ _).mpr rfl);go_simp;exact HK.out
      ·intro Lq wq xq hh;simp only [e7,(fa.out _ _).mp (hh.v 3),(gi.out _ _).mp (hh.v 11)];refine Reg.go rfl ?_;have HK:=fc.out 12 _ _ _ hh.cls ((fe.out _ _).mpr rfl);go_simp;exact HK.out
      ·intro Lq wq xq hh;simp only [e7,(fe.out _ _).mp (hh.v 12)];refine Reg.go rfl ?_;have hc:ff Lq wq:=hh.cls;rw [e9.out] at hc;have z0:=hc.1;have q0:=z0.cell 0 _ rfl;have q1:=z0.cell 1 _ rfl;have q2:=z0.cell 2 _ rfl;have q3:=z0.cell 3 _ rfl;have q4:=z0.cell 4 _ rfl;have q5:=z0.cell 5 _ rfl;have q6:=z0.cell 6 _ rfl;clear z0;clear hc;have HK:=fc.out 13 _ _ _ hh.cls ((ga.out _ _).mpr rfl);go_simp;exact HK.out
      ·intro Lq wq xq hh;simp only [e7,(fe.out _ _).mp (hh.v 12),(ga.out _ _).mp (hh.v 13)];refine Reg.go rfl ?_;unfold Reg.upon;have hc:ff Lq wq:=hh.cls;rw [e9.out] at hc;go_simp;refine (gw.out wq hc.2.1).mono ?_;rintro e w4 ⟨u,rfl,he,hb4⟩;refine ⟨_,rfl,fu.out 14 Lq w4 (fN.out Lq wq w4 hh.cls hb4),?_,fv.out wq w4 hb4⟩
       rcases he with ⟨e0,_⟩ | ⟨p9,c9,t9,e0,he⟩
       ·rw [g8.out] at e0;cases e0
       ·rw [g8.out] at e0;cases e0;rw [gb.out];exact he
      ·intro Lq wq xq hh;have d14:=(gb.out _ _).mp (hh.v 14);simp only [e7,(fe.out _ _).mp (hh.v 12)];refine Reg.go rfl ?_;unfold Reg.upon;have hc:ff Lq wq:=hh.cls;rw [e9.out] at hc;go_simp;refine (HAT.out wq hc.2.1 _ d14).mono ?_;rintro e w2 ⟨rfl,hb⟩;exact ⟨_,rfl,fu.out 15 Lq w2  (fN.out Lq wq w2 hh.cls hb),(by rw [f9.out];try rfl),fv.out wq w2 hb⟩
      ·intro Lq wq xq hh;simp only [e7,(fe.out _ _).mp (hh.v 12)];refine Reg.go rfl ?_;have HK:=fc.out 16 _ _ _ hh.cls ((gm.out _ _).mpr rfl);go_simp;exact HK.out
      ·intro Lq wq xq hh;simp only [e7,(fe.out _ _).mp (hh.v 12),(gm.out _ _).mp (hh.v 16)];refine Reg.go rfl ?_;have HK:=fc.out 17 _ _ _ hh.cls ((fX.out _ _).mpr rfl);go_simp;exact HK.out
      ·intro Lq wq xq hh;simp only [e7,(fe.out _ _).mp (hh.v 12),(fX.out _ _).mp (hh.v 17)];refine Reg.go rfl ?_;have HK:=fc.out 18 _ _ _ hh.cls ((f5.out _ _).mpr rfl);go_simp;exact HK.out
      ·intro Lq wq xq hh;simp only [e7,(fe.out _ _).mp (hh.v 12),(f5.out _ _).mp (hh.v 18)];refine Reg.go rfl ?_;have hc:ff Lq wq:=hh.cls;rw [e9.out] at hc;have z0:=hc.2.2.1;clear hc;have HK:=fc.out 19 _ _ _ hh.cls ((gj.out _ _).mpr rfl);go_simp;exact HK.out
      ·intro Lq wq xq hh;simp only [e7,(fe.out _ _).mp (hh.v 12),(f9.out _ _).mp (hh.v 15),(gj.out _ _).mp (hh.v 19)];refine Reg.go rfl ?_;have HK:=fc.out 20 _ _ _ hh.cls ((fZ.out _ _).mpr rfl);go_simp;exact HK.out
      ·intro Lq wq xq hh;simp only [e7,(fa.out _ _).mp (hh.v 3),(fe.out _ _).mp (hh.v 12),(fZ.out _ _).mp (hh.v 20)];refine Reg.go rfl ?_;have HK:=fc.out 21 _ _ _ hh.cls ((ge.out _ _).mpr rfl);go_simp;exact HK.out
      ·intro Lq wq xq hh;simp only [e7,(fa.out _ _).mp (hh.v 3),(ge.out _ _).mp (hh.v 21)];refine Reg.go rfl ?_;have HK:=fc.out 22 _ _ _ hh.cls ((f8.out _ _).mpr rfl);go_simp;exact HK.out
      ·intro Lq wq xq hh;simp only [e7,(f8.out _ _).mp (hh.v 22)];refine Reg.go rfl ?_;have HK:=fc.out 23 _ _ _ hh.cls ((gn.out _ _).mpr rfl);go_simp;exact HK.out
      intro xq ir fM fL;rw [e9.out] at fM;simp only [e7];have vrg23:=(gn.out _ _).mp (fL 23 (by decide));rw [vrg23];clear fL e7 fc fu fJ fA fU e9 fG fN fv fj fo fq fa fg fh gK gR gS g6 fW gi fe ga gb f9 gm fX f5 gj fZ ge f8 gn;have HF:=aa fM.2.1;clear fM;go_wp2;go_ret;exact ⟨ae,HF.out⟩
theorem walk{H:Type}{enc:TypeId × Value->H}(W:World)(x:Value){base:Nat}{d:DataW H}{p:List MemPlace}(hv:Value.okWide Tryd.prog W .any base 26 x)(h:DataW.Trod enc Tryd.prog W 0 (fun _=>true) true 26 x d p)(hL:laidMetH Tryd.prog Rows.auditLooksRow.laid W)(hsz:(DataW.weightsEach Tryd.prog (#[26].toList++Rows.auditLooksSpec.plain.varTypes Tryd.prog) ([d]++[])).all (· <= reachBytes)=true):Calls Tryd.prog 3 #[x] W (Yes W):=by
 obtain ⟨hhd,sa,hsa⟩:=F.errs_of_laid hL;have hz:∀ z ∈ d.weights Tryd.prog 26,z<=reachBytes:=by
  simp only [List.all_eq_true,DataW.weightsEach,List.cons_append,List.nil_append] at hsz;intro z hz;exact of_decide_eq_true (hsz z (List.mem_append.2 (.inl hz)))
 obtain ⟨v,lv,rfl,hl,h0,h1,hr⟩:=ed hv h hz;exact walkN W sa hsa hhd v lv hl h0 h1 hr
theorem door_met(os:Os):laidMetH Tryd.prog Rows.auditLooksRow.laid ((World.doorLaid Tryd.prog 400 os).forCall (fun _ _=>0) ⟨#[],#[.agg #[.int .i64 0,.int .i64 0,.slice none 0 0,.int .i64 0,.int .i64 0,.bool false,.bool false]],[]⟩).memory :=
 laidMetH_of_parts3 (fuel:=8) (laidMet_of_run' 8 (by kernel_rfl) (by kernel_rfl)) (by kernel_rfl) (by kernel_rfl)
theorem lifted(os:Os)(started:os.Started)(H:Type)(enc:TypeId × Value->H) :
  ReturnsInHanded {} Tryd.checked os 3 .any (fun w args=>(Rows.auditLooksSpec.pre enc Tryd.prog Tryd.f3 [] false w args/\laidMetH Tryd.prog Rows.auditLooksRow.laid w)/\sizedMet enc Tryd.prog Tryd.f3 (OpenSpec.ofChange Rows.auditLooksSpec) false w args)
   (Rows.auditLooksSpec.post enc Tryd.prog Tryd.f3 false true false false):=by
 refine d8 (C:=Tryd.checked) (tb:=4) (by kernel_rfl) started (by kernel_rfl) Tryd.func3 (by kernel_rfl) (by kernel_rfl) Tryd.underlying4 rfl
  (by rw [Tryd.params3];intro t ht;simp at ht;subst ht <;> exact ⟨by kernel_rfl,of_decide_eq_true (by kernel_rfl)⟩)
  (by rw [Tryd.params3];intro ds hd;match ds,hd with | [_],_=>rfl)
  (ChangeSpec.witness_shaped (enc:=enc) (C:=Tryd.checked) (os:=os) (X:=fun w _=>laidMetH Tryd.prog Rows.auditLooksRow.laid w) false (World.doorLaid Tryd.prog 400 os) #[.agg #[.int .i64 0,.int .i64 0,.slice none 0 0,.int .i64 0,.int .i64 0,.bool false,.bool false]] 8 rfl (World.shaped_of_RefB (by kernel_rfl) (by kernel_rfl)) (by kernel_rfl) (by kernel_rfl) (by kernel_rfl) (door_met os)) ?_
 intro W base args ds before hval hA hsz hL;rw [Tryd.params3] at hA hval hsz;obtain ⟨v0,vs0,d0,ds0,p0,q0,hargs,rfl,rfl,h0,r0⟩:=trodAll_cons hA;obtain ⟨rfl,rfl,rfl⟩:=trodAll_nil r0;obtain rfl:args=#[v0]:=by cases args;simp_all
 exact walk W v0 (hval 0 26 v0 rfl rfl) h0 hL hsz
theorem and_two{a b:Bool}(ha:a=true)(hb:b=true):(a && b)=true:=by rw [ha,hb];rfl
theorem joined:joinedFacts Tryd.pinned.checked.prog 3 Tryd.f3 Rows.auditLooksSpec Rows.auditLooksRow=true:=by
 unfold joinedFacts
 repeat' (with_reducible refine and_two ?_ ?_)
 all_goals (as_aux_lemma=>kernel_rfl)
theorem said:Rows.AuditLooksSaid :=
 OpenClaim.holds_of_wide 3 Tryd.f3 rfl rfl rfl rfl rfl rfl rfl ⟨rfl,rfl,rfl,rfl,rfl⟩ rfl rfl rfl rfl rfl (by kernel_rfl) Tryd.func3 joined
  (of_decide_eq_true (by kernel_rfl)) (by unfold Func.isWrapper;first | (rw [if_pos (by decide +kernel)];kernel_rfl) | (rw [if_neg (by decide +kernel)];exact ⟨rfl,rfl⟩))
  (fun os started H enc _=>lifted os started H enc)
theorem plain (f : FuncId) (fn : Func) (hf : Tryd.pinned.checked.prog.funcNamed "linotype/linotypelaw47.AuditLooks" = some f) (hfn : Tryd.pinned.checked.prog.funcs[f]? = some fn) :
  true=Tryd.pinned.checked.prog.looks []/\∀ (j:Nat) t,fn.params[j]? = some t->Tryd.pinned.checked.prog.wantsStandIn t=false:=by
 obtain rfl : f = 3 := Option.some.inj ((show Tryd.prog.funcNamed "linotype/linotypelaw47.AuditLooks" = some 3 by kernel_rfl).symm.trans hf) |>.symm
 obtain rfl:fn=Tryd.f3:=(Option.some.inj (Tryd.func3.symm.trans hfn)).symm;refine ⟨by kernel_rfl,fun j t ht=>?_⟩;rw [Tryd.params3] at ht;have hm:t ∈ [26]:=by simpa using Array.mem_of_getElem? ht
 have hall:([26].all fun u=>!Tryd.prog.wantsStandIn u)=true:=by kernel_rfl
 exact (show Tryd.prog.wantsStandIn t=false by simpa using List.all_eq_true.1 hall t hm)
theorem card:Rows.AuditLooksCardSaid :=
 Claim7.holds_tied_plain_at .later [] _ _ _ _ said (fun _ h=>by cases h) (by kernel_rfl) (fun _ h=>by cases h) auditLooks_row_tie rfl ⟨rfl,rfl⟩ (by kernel_rfl) rfl plain (by kernel_rfl)
#print axioms card
end Go.Proofs.YthdphijabffpiaaDoor.lawAuditLooks
