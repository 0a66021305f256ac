import Derived.Test.YthdphijabffpiaaDoorZ0
import Derived.Test.YthdphijabffpiaaDoorRgnC
import Derived.Test.YthdphijabffpiaaDoorRgnX
import Derived.Test.YthdphijabffpiaaDoorMg1
import Derived.Lib.MinMax
import Derived.Deep.Cut
set_option maxRecDepth 100000
set_option linter.unusedVariables false
set_option linter.unusedSimpArgs false
set_option maxHeartbeats 3000000
namespace Go.Proofs.YthdphijabffpiaaDoor
open Go.RowKit Go.ChangeShapes Go.WideShapes
def w52:Vw:=⟨2,2,[([(1,[97]),(1,[98])],false),([(1,[99]),(1,[32])],false)],0,0,false,false⟩
theorem eW:aB w52=true:=by decide +kernel
theorem dO(sa:Nat->Addr)(lv:Value)(w:World)(hs:Five w sa)(hv:ViewAt w w52 lv):Calls Tryd.prog 68 #[aK w52 lv,.agg #[.int .i64 0,.int .i64 0]] w (Gives w (.tuple #[.int .i64 0,.int .i64 2])):=by
 have ja:=aa (fun (w':World) (b:Below w.heap.size w w')=>cd sa w52 lv w' (hs.below b) (hv.below b));have iX:=aa (fun (w':World)=>bU w52 lv 0 0 w' (by decide) (by decide) (by decide) (by decide));rw [show ap w52.h 0=0 from by decide,show ap w52.w 0=0 from by decide] at iX;rw [eW] at ja;obtain ⟨lo,lc,elv⟩:=hv.1.len;rw [show w52.L.length=2 from rfl] at elv;subst elv;have hlc:=(aM hv.1).2.1;obtain ⟨lb,off,cv,rfl,jn,_,l0,_,hcv⟩:=(aM hv.1).2.2 0 (by decide);rw [show (w52.L.getD 0 zl).1=[(1,[97]),(1,[98])] from rfl] at hcv;obtain ⟨co,cc,ecv⟩:=hcv.len;rw [show ([(1,[97]),(1,[98])]:List Cl).length=2 from rfl] at ecv;subst ecv;obtain ⟨_,hcc,iL⟩:=aP hcv;obtain ⟨cb,coff,t0,rfl,hcb,_,x0,x1,nT⟩:=iL 0 (by decide);obtain ⟨cb2,coff2,t1,e2,_,_,y0,y1,j7⟩:=iL 1 (by decide)
 cases e2
 rw [show ([(1,[97]),(1,[98])]:List Cl).getD 0 zc=(1,[97]) from rfl] at x0 nT;rw [show ([(1,[97]),(1,[98])]:List Cl).getD 1 zc=(1,[98]) from rfl] at y0 j7;simp only [Nat.zero_mul,Nat.add_zero,Nat.one_mul] at l0 x0 x1 y0 y1 nT j7;have lU:=aa (fun (w':World) (b:Below w.heap.size w w')=>(b.cell (p:=⟨lb,off,none⟩) jn).trans l0);have HX0:=aa (fun (w':World) (b:Below w.heap.size w w')=>(b.cell (p:=⟨cb,coff,none⟩) hcb).trans x0);have HX1:=aa (fun (w':World) (b:Below w.heap.size w w')=>(b.cell (p:=⟨cb,coff+1,none⟩) hcb).trans x1);have HY0:=aa (fun (w':World) (b:Below w.heap.size w w')=>(b.cell (p:=⟨cb,coff+2,none⟩) hcb).trans y0);have HY1:=aa (fun (w':World) (b:Below w.heap.size w w')=>(b.cell (p:=⟨cb,coff+2+1,none⟩) hcb).trans y1);have lK:=aa (fun (w':World) (b:Below w.heap.size w w')=>dA (fun _=>True) 1 t0 [97] w' (nT.below b));have lM:=aa (fun (w':World) (b:Below w.heap.size w w')=>dA (fun _=>True) 1 t1 [98] w' (j7.below b));rw [show f6 (1,[97])=false from by decide] at lK;rw [show f6 (1,[98])=false from by decide] at lM;unfold aK w52 at ja iX ⊢;simp only at ja iX ⊢;obtain ⟨Wa,gM⟩:=ab (w.alloc (.cells [Value.int .i64 2,.int .i64 2,.slice (some ⟨lb,off,none⟩) 2 lc,.int .i64 0,.int .i64 0,.bool false,.bool false].toArray 26));obtain ⟨Wb,gN⟩:=ab (Wa.alloc (.cells [Value.int .i64 0,.int .i64 0].toArray 64));have ba:Below w.heap.size w Wa:=by rw [gM];exact af _ _
 have bb:Below Wa.heap.size Wa Wb:=by rw [gN];exact af _ _
 have sa':Wa.heap.size=w.heap.size+1:=by rw [gM];exact Array.size_push _
 have gva:Has Wa w.heap.size [.int .i64 2,.int .i64 2,.slice (some ⟨lb,off,none⟩) 2 lc,.int .i64 0,.int .i64 0,.bool false,.bool false] 26:=by rw [gM];exact Has.new w _ _
 have gpa:Has Wb Wa.heap.size [.int .i64 0,.int .i64 0] 64:=by rw [gN];exact Has.new Wa _ _
 have gva:=Has.below gva bb gva.lt;have HB:=aa (ba.trans (bb.mono ba.size));rw [sa'] at gpa;obtain ⟨gp,oc⟩:=ab (w.heap.size+1);rw [<-oc] at gpa;have oq:=aa oc;have HV:=aa gva;have HP:=aa gpa;have iP:=aa (show (w.alloc (.cells #[Value.int .i64 2,.int .i64 2,.slice (some ⟨lb,off,none⟩) 2 lc,.int .i64 0,.int .i64 0,.bool false,.bool false] 26)).alloc (.cells #[Value.int .i64 0,.int .i64 0] 64)=Wb from by rw [gN,gM]);have q0:=gva.cell 0 _ rfl;have q1:=gva.cell 1 _ rfl;have q2:=gva.cell 2 _ rfl;have q3:=gva.cell 3 _ rfl;have q4:=gva.cell 4 _ rfl;have q5:=gva.cell 5 _ rfl;have q6:=gva.cell 6 _ rfl;clear gM gN gva gpa ba bb sa' oc hs hv iL hcv nT j7 l0 x0 x1 y0 y1 jn hcb
 go_enter Tryd.func68,Tryd.ntmps68
 go_upto_region 1 with (fail)
 rw [iP.out,<-oq.out]
 go_wp2_with fail
 refine (ja.out _ HB.out).mono ?_;rintro e w1 ⟨rfl,b1⟩;have gR:=aa (HV.out.below b1 HV.out.lt);have lj:=aa (HP.out.below b1 HP.out.lt);have gU:=aa (HB.out.trans (b1.mono HB.out.size));clear b1 q0 q1 q2 q3 q4 q5 q6;have q0:=gR.out.cell 0 _ rfl;have q1:=gR.out.cell 1 _ rfl;have q2:=gR.out.cell 2 _ rfl;have q3:=gR.out.cell 3 _ rfl;have q4:=gR.out.cell 4 _ rfl;have q5:=gR.out.cell 5 _ rfl;have q6:=gR.out.cell 6 _ rfl;have p0:=lj.out.cell 0 _ rfl;have p1:=lj.out.cell 1 _ rfl
 go_wp2_with fail
 refine (iX.out _).mono ?_;rintro e w2 ⟨rfl,b2⟩;have io:=aa (gR.out.below b2 gR.out.lt);have nQ:=aa (lj.out.below b2 lj.out.lt);have ii:=aa (gU.out.trans (b2.mono gU.out.size));clear b2 q0 q1 q2 q3 q4 q5 q6 p0 p1
 go_wp2_with (refine aG rfl 64 (.tmp 3) (.tmp 12) rfl gp rfl 64 [.int .i64 0,.int .i64 0] [.int .i64 0,.int .i64 0] 2 rfl nQ.out (by kernel_rfl) rfl rfl (by intro v hv;simp at hv;rcases hv with rfl | rfl <;> rfl) ?_;intro w5 h5 b5;have nO:=aa h5;have HV5:=aa ((KeepZ.but b5).has io.out (fun e=>by have:=oq.out;omega));have iY:=aa (ii.out.trans (b5.below ii.out.size (by have:=oq.out;omega)));have q2:=HV5.out.cell 2 _ rfl;have p0:=nO.out.cell 0 _ rfl;have p1:=nO.out.cell 1 _ rfl;have l0:=lU.out _ iY.out;have x0:=HX0.out _ iY.out;have x1:=HX1.out _ iY.out;clear h5 b5)
 refine (lK.out _ iY.out).mono ?_;rintro e w6 ⟨rfl,b6⟩;have HP6:=aa (nO.out.below b6 nO.out.lt);have kn:=aa (iY.out.trans (b6.mono iY.out.size));clear b6 q2 p0 p1 l0 x0 x1;have p1:=HP6.out.cell 1 _ rfl
 go_upto_region 7 with (fail)
 go_quiet (fail)
 obtain ⟨wq,iS⟩:=ab (w6.drewN nq);have mx:=aa (show Below w.heap.size w wq from by rw [iS];exact kn.out.trans ((Below.refl _ _).drewN nq));rw [<-iS];clear iS p1;go_wp2
 go_loopw [4] (fun i wr=>i=.int .i64 0/\wr=wq) (fun _ _=>0)
 case atStart=>exact ⟨rfl,rfl⟩
 case round =>
  obtain ⟨rfl,rfl⟩:=hrel;obtain ⟨wo,lw⟩:=ab (wr);subst lw;go_wp2
  go_loopw [5] (fun i wr=>∃ k:Nat,(k=1\/k=2)/\i=.int .i64 k/\Below wo.heap.size wo wr) (fun i _=>2 - (intOf i).toNat)
  case atStart=>exact ⟨1,.inl rfl,rfl,Below.refl _ _⟩
  case round =>
   obtain ⟨k,hk,rfl,hb⟩:=hrel;have mB:=aa (mx.out.trans (hb.mono mx.out.size));have kL:=aa hb;clear hb
   rcases hk with rfl | rfl
   ·have y0:=HY0.out _ mB.out;have y1:=HY1.out _ mB.out;obtain ⟨t,ht⟩:=ab (t1);obtain ⟨ws,my⟩:=ab (wr);subst my
    go_wp2_with fail
    refine (lM.out _ mB.out).mono ?_;rintro e w9 ⟨rfl,b9⟩;have HB9:=aa (kL.out.trans (b9.mono kL.out.size));clear b9 y0 y1;go_wp2
    go_roundw
    case rel=>exact ⟨2,.inr rfl,rfl,HB9.out⟩
    case measure=>simp [intOf]
   ·go_wp2;exact bodyPost_ret (v:=.tuple #[.int .i64 0,.int .i64 2]) (by simp [results,Tryd.results68,go_sem]) rfl ⟨rfl,mB.out⟩
theorem cj(r:Int)(w:World):Calls Tryd.prog 67 #[.int .i32 r] w (fun e w'=>∃ a k,e=.returned (.agg #[.int .i64 1,.slice a 1 k])/\HeldE (aA .i32) (fun _=>True) w' (.slice a 1 k) [r]/\Below w.heap.size w w'):=by
 obtain ⟨Wa,gM⟩:=ab (w.alloc (.cells [Value.int .i64 0,.slice none 0 0].toArray 74));obtain ⟨Wb,gN⟩:=ab (Wa.alloc (.cells [Value.int .i32 r].toArray 21));have ba:Below w.heap.size w Wa:=by rw [gM];exact af _ _
 have bb:Below Wa.heap.size Wa Wb:=by rw [gN];exact af _ _
 have sa':Wa.heap.size=w.heap.size+1:=by rw [gM];exact Array.size_push _
 have ga:Has Wa w.heap.size [.int .i64 0,.slice none 0 0] 74:=by rw [gM];exact Has.new w _ _
 have ht:HeldE (aA .i32) (fun b=>b≠w.heap.size) Wb (.slice (some ⟨Wa.heap.size,0,none⟩) 1 1) [r]:=by rw [gN];exact a9 (Y:=fun _=>False) [.int .i32 r] r rfl (fun _ _ h=>h.elim) (by omega)
 have ga:=Has.below ga bb ga.lt;rw [sa'] at ht;have HA:=aa ga;have HT:=aa ht;have HB:=aa (ba.trans (bb.mono ba.size));have HW:=aa (show (w.alloc (.cells #[Value.int .i64 0,.slice none 0 0] 74)).alloc (.cells #[Value.int .i32 r] 21)=Wb from by rw [gN,gM]);clear gM gN ba bb sa' ga ht;obtain ⟨g,hg⟩:=ab (w.heap.size);have HG:=aa hg;rw [<-hg] at HA HT;clear hg
 go_enter Tryd.func67,Tryd.ntmps67
 go_wp2_with (rw [HW.out,<-HG.out];refine aG rfl 74 (.tmp 2) (.tmp 5) rfl g rfl 74 [.int .i64 0,.slice none 0 0] [.int .i64 1,.slice (some ⟨g+1,0,none⟩) 1 1] 2 rfl HA.out (by kernel_rfl) rfl rfl (by intro v hv;simp at hv;rcases hv with rfl | rfl <;> rfl) ?_;intro w5 h5 b5;have HF:=aa (And.intro h5 (And.intro (HT.out.kept (KeepZ.but b5)) (HB.out.trans (b5.below HB.out.size (by have:=HG.out;omega)))));clear h5 b5)
 exact bodyPost_ret (v:=.agg [Value.int .i64 1,.slice (some ⟨g+1,0,none⟩) 1 1].toArray) (ce Tryd.results67 _ _ g 74 _ _ 2 rfl HF.out.1 Tryd.underlying74 rfl (by kernel_rfl) rfl) rfl ⟨_,_,rfl,HF.out.2.1.zone (fun _ _ _=>trivial),HF.out.2.2⟩
theorem f9(w:World)(a b:Int){o1 o2:Option Addr}{k1 k2:Nat}(h1:HeldE (aA .i32) (fun _=>True) w (.slice o1 1 k1) [a])(h2:HeldE (aA .i32) (fun _=>True) w (.slice o2 1 k2) [b]):HeldE cellE (fun _=>True) (w.alloc (.cells #[Value.int .i64 1,.slice o1 1 k1,.int .i64 1,.slice o2 1 k2] 74)) (.slice (some ⟨w.heap.size,0,none⟩) 2 2) [(1,[a]),(1,[b])]:=by
 refine (OwnE.lit (Z:=fun _=>True) (B:=0) (ty:=74) w cellE [[.int .i64 1,.slice o1 1 k1],[.int .i64 1,.slice o2 1 k2]] [(1,[a]),(1,[b])] 2 rfl rfl (Nat.zero_le _) (by decide) (fun i hi=>?_) _ rfl).held (fun _ _ _=>trivial)
 match i,hi with
 | 0,_=>exact cell_rep.2 ⟨_,rfl,h1⟩
 | 1,_=>exact cell_rep.2 ⟨_,rfl,h2⟩
theorem dP(sa:Nat->Addr)(w:World)(hs:Five w sa):Calls Tryd.prog 33 #[] w (Yes w):=by
 have HS:=aa hs;clear hs
 go_enter Tryd.func33,Tryd.ntmps33
 go_wp2_with fail
 refine (cj 97 _).mono ?_;rintro e w1 ⟨a1,k1,rfl,h1,b1⟩;have H1:=aa h1;have B1:=aa b1;clear h1 b1
 go_wp2_with fail
 refine (cj 98 _).mono ?_;rintro e w2 ⟨a2,k2,rfl,h2,b2⟩;have B2:=aa (B1.out.trans (b2.mono B1.out.size));have hr:=f9 w2 97 98 (H1.out.below b2) h2;obtain ⟨V3,lG⟩:=ab (w2.alloc (.cells #[Value.int .i64 1,.slice a1 1 k1,.int .i64 1,.slice a2 1 k2] 74));rw [<-lG] at hr;have HR:=aa hr;have B3:=aa (show Below w.heap.size w V3 from by rw [lG];exact B2.out.alloc B2.out.size _);have iW:=aa lG.symm;obtain ⟨g2,hg2⟩:=ab (w2.heap.size);have HG2:=aa hg2;rw [<-hg2] at HR;clear h2 b2 hr lG hg2
 go_wp2_with fail
 rw [iW.out,<-HG2.out];refine (cj 99 V3).mono ?_;rintro e w4 ⟨a3,k3,rfl,h3,b3⟩;have H3:=aa h3;have HR4:=aa (HR.out.below b3);have B4:=aa (B3.out.trans (b3.mono B3.out.size));clear h3 b3
 go_wp2_with fail
 refine (cj 32 _).mono ?_;rintro e w5 ⟨a4,k4,rfl,h4,b4⟩;have B5:=aa (B4.out.trans (b4.mono B4.out.size));have hr:=f9 w5 99 32 (H3.out.below b4) h4;have hr4:=HR4.out.below b4;obtain ⟨V6,nn⟩:=ab (w5.alloc (.cells #[Value.int .i64 1,.slice a3 1 k3,.int .i64 1,.slice a4 1 k4] 74));have b6:Below w5.heap.size w5 V6:=by rw [nn];exact af _ _
 rw [<-nn] at hr;obtain ⟨g5,nX⟩:=ab (w5.heap.size);rw [<-nX] at hr;have s6:V6.heap.size=g5+1:=by rw [nn,nX];exact Array.size_push _
 obtain ⟨V7,mW⟩:=ab (V6.alloc (.cells [Value.slice (some ⟨g2,0,none⟩) 2 2,.bool false,.slice (some ⟨g5,0,none⟩) 2 2,.bool false].toArray 30));have b7:Below V6.heap.size V6 V7:=by rw [mW];exact af _ _
 have d1:HeldE lineE (fun _=>True) V7 (.slice (some ⟨V6.heap.size,0,none⟩) 2 2) w52.L:=by
  rw [mW];refine (OwnE.lit (Z:=fun _=>True) (B:=0) (ty:=30) V6 lineE [[.slice (some ⟨g2,0,none⟩) 2 2,.bool false],[.slice (some ⟨g5,0,none⟩) 2 2,.bool false]] w52.L 2 rfl rfl (Nat.zero_le _) (by decide) (fun i hi=>?_) _ rfl).held (fun _ _ _=>trivial)
  match i,hi with
  | 0,_=>exact line_rep.2 ⟨_,rfl,hr4.below b6⟩
  | 1,_=>exact line_rep.2 ⟨_,rfl,hr⟩
 have s7:V7.heap.size=g5+1+1:=by rw [mW,<-s6];exact Array.size_push _
 obtain ⟨V8,n7⟩:=ab (V7.alloc (.cells [Value.int .i64 2,.int .i64 2,.slice (some ⟨g5+1,0,none⟩) 2 2,.int .i64 0,.int .i64 0,.bool false,.bool false].toArray 26));have b8:Below V7.heap.size V7 V8:=by rw [n7];exact af _ _
 have jy:Has V8 V7.heap.size [.int .i64 2,.int .i64 2,.slice (some ⟨g5+1,0,none⟩) 2 2,.int .i64 0,.int .i64 0,.bool false,.bool false] 26:=by rw [n7];exact Has.new V7 _ _
 have bb:Below w.heap.size w V8:=by
  have q6:=B5.out.trans (b6.mono B5.out.size);have q7:=q6.trans (b7.mono q6.size);exact q7.trans (b8.mono q7.size)
 rw [s7] at jy;rw [s6] at d1;obtain ⟨gv,i2⟩:=ab (g5+1+1);obtain ⟨gl,kk⟩:=ab (g5+1);rw [<-i2,<-kk] at jy;rw [<-kk] at d1;have kO:=aa i2;have HGL:=aa kk;have HG5:=aa nX;have HX:=aa jy;have HB:=aa bb;have jl:=aa (show ViewAt V8 w52 (.slice (some ⟨gl,0,none⟩) 2 2) from ⟨d1.below b8,by decide,by decide,by decide,by decide⟩);have je:=aa (show ((w5.alloc (.cells #[Value.int .i64 1,.slice a3 1 k3,.int .i64 1,.slice a4 1 k4] 74)).alloc (.cells #[Value.slice (some ⟨g2,0,none⟩) 2 2,.bool false,.slice (some ⟨g5,0,none⟩) 2 2,.bool false] 30)).alloc (.cells #[Value.int .i64 2,.int .i64 2,.slice (some ⟨gl,0,none⟩) 2 2,.int .i64 0,.int .i64 0,.bool false,.bool false] 26)=V8 from by rw [n7,mW,nn,kk]);clear h4 b4 hr hr4 nn b6 nX s6 mW b7 d1 s7 n7 b8 jy bb i2 kk H1 B1 B2 HR B3 iW HG2 H3 HR4 B4 B5
 go_upto_region 2 with (fail)
 rw [<-HG5.out,<-kO.out,<-HGL.out,je.out];have q0:=HX.out.cell 0 _ rfl;have q1:=HX.out.cell 1 _ rfl;have q2:=HX.out.cell 2 _ rfl;have q3:=HX.out.cell 3 _ rfl;have q4:=HX.out.cell 4 _ rfl;have q5:=HX.out.cell 5 _ rfl;have q6:=HX.out.cell 6 _ rfl;have HW:=aa (dO sa (.slice (some ⟨gl,0,none⟩) 2 2) V8 (HS.out.below HB.out) jl.out);have HT:=aa (fun (w':World) (b:Below V8.heap.size V8 w')=>dm sa w52 (.slice (some ⟨gl,0,none⟩) 2 2) 1 0 0 1 w' ((HS.out.below HB.out).below b) (jl.out.below b));have kQ:=aa (fun (w':World) (b:Below V8.heap.size V8 w')=>et sa w52 (.slice (some ⟨gl,0,none⟩) 2 2) 0 0 1 0 w' ((HS.out.below HB.out).below b) (jl.out.below b));rw [show cw w52 1 0 0 1=[98,10,99] from by decide +kernel] at HT;rw [show cV w52 0 0 1 0=[[97],[99]] from by decide +kernel] at kQ;unfold aK w52 at HW HT kQ;simp only at HW HT kQ;clear jl HS
 go_wp2_with fail
 refine (HW.out).mono ?_;rintro e w9 ⟨rfl,b9⟩;have B9:=aa b9;have la:=aa (HX.out.below b9 HX.out.lt);clear b9 q0 q1 q2 q3 q4 q5 q6;have q0:=la.out.cell 0 _ rfl;have q1:=la.out.cell 1 _ rfl;have q2:=la.out.cell 2 _ rfl;have q3:=la.out.cell 3 _ rfl;have q4:=la.out.cell 4 _ rfl;have q5:=la.out.cell 5 _ rfl;have q6:=la.out.cell 6 _ rfl
 go_wp2_with fail
 refine (HT.out _ B9.out).mono ?_;rintro e w10 ⟨v1,rfl,ho,b10⟩;have h1:HeldE (aA .i32) (fun _=>True) w10 v1 [98,10,99]:=ho.held (fun _ _ _=>trivial);have B10:=aa (B9.out.trans (b10.mono B9.out.size));have HX10:=aa (la.out.below b10 la.out.lt);have b11:Below w10.heap.size w10 (w10.alloc (.cells [Value.int .i32 98,.int .i32 10,.int .i32 99].toArray 21)):=af _ _;have h2:Held .i32 (w10.alloc (.cells [Value.int .i32 98,.int .i32 10,.int .i32 99].toArray 21)) (.slice (some ⟨w10.heap.size,0,none⟩) 3 3) [98,10,99]:=fE .i32 w10 [Value.int .i32 98,.int .i32 10,.int .i32 99] 21 3 3 [98,10,99] rfl rfl;have HSA:=aa (dY v1 _ [98,10,99] [98,10,99] _ (h1.below b11).ints h2 (by decide));have B11:=aa (B10.out.trans (b11.mono B10.out.size));have HX11:=aa (HX10.out.below b11 HX10.out.lt);rw [show bY [98,10,99] [98,10,99]=true from by decide] at HSA;clear ho b10 h1 h2 b11 q0 q1 q2 q3 q4 q5 q6
 go_wp2_with fail
 refine HSA.out.mono ?_;rintro e w12 ⟨rfl,b12⟩;have oS:=aa (B11.out.trans (b12.mono B11.out.size));have jz:=aa (HX11.out.below b12 HX11.out.lt);clear b12;have q0:=jz.out.cell 0 _ rfl;have q1:=jz.out.cell 1 _ rfl;have q2:=jz.out.cell 2 _ rfl;have q3:=jz.out.cell 3 _ rfl;have q4:=jz.out.cell 4 _ rfl;have q5:=jz.out.cell 5 _ rfl;have q6:=jz.out.cell 6 _ rfl
 go_wp2_with fail
 refine (kQ.out _ oS.out).mono ?_;rintro e w13 ⟨v2,rfl,hO,b13⟩;obtain ⟨xo,xk,ev2⟩:=(hO.held (Z:=fun _=>True) (fun _ _ _=>trivial)).len;rw [show ([[97],[99]]:List (List Int)).length=2 from rfl] at ev2;subst ev2;have HF:=aa (HB.out.trans ((oS.out.trans (b13.mono oS.out.size)).mono HB.out.size));clear hO b13;go_wp2;go_ret;exact ⟨ae,HF.out⟩
end Go.Proofs.YthdphijabffpiaaDoor
