import Derived.Test.YtechjomepdahiaaDoorZ0
import Derived.Test.YtechjomepdahiaaDoorAudE
import Derived.Test.YtechjomepdahiaaDoorCellS
import Derived.Lib.MinMax
import Derived.Deep.Cut
set_option maxRecDepth 100000
set_option linter.unusedVariables false
set_option linter.unusedSimpArgs false
set_option maxHeartbeats 3000000
namespace Go.Proofs.YtechjomepdahiaaDoor
open Go.RowKit Go.ChangeShapes Go.WideShapes
theorem jJ(L:List Cl)(i:Nat):aS L i=0↔cL L i=true:=by
 unfold aS
 by_cases h:al (L.getD i zc)=false
 ·rw [if_pos h];refine ⟨fun e=>absurd e (by decide),fun e=>?_⟩;unfold cL at e;rw [h] at e
  simp at e
 ·rw [if_neg h]
  cases ho:cL L i with
  | true=>simp
  | false=>simp
theorem eF(L:List Cl):∀ k,aq L k=[]↔cN L k=true
 |0=>by simp [aq,cN]
 |k+1=>by
  have h1:bw L k=[]↔cL L k=true:=by
   rw [<-jJ];unfold bw
   by_cases h:aS L k=0
   ·simp [h]
   ·simp [h]
  rw [bz,eL,List.append_eq_nil_iff,eF L k,h1,Bool.and_eq_true]
def cE(w:Int)(L:List Cl):Bool:=decide ((L.length:Int)=w) && aR L
theorem iH(w:Int)(L:List Cl):aH w L=[]↔cE w L=true:=by
 unfold aH cE gH;rw [List.append_eq_nil_iff,eF,<-dD,Bool.and_eq_true,decide_eq_true_eq]
 by_cases h:(L.length:Int)=w
 ·simp [h]
 ·simp [h]
def aU(w:Int)(Ls:List Ln)(k:Nat):Bool:=(List.range k).all fun i=>cE w (Ls.getD i zl).1
theorem dk(w:Int)(Ls:List Ln)(k:Nat):aU w Ls (k+1)=(aU w Ls k && cE w (Ls.getD k zl).1):=by
 unfold aU;rw [List.range_succ,List.all_append]
 simp
theorem fs{w:Int}{Ls:List Ln}{k n:Nat}(hk:k<n)(h:cE w (Ls.getD k zl).1=false):aU w Ls n=false:=by
 unfold aU;rw [List.all_eq_false];exact ⟨k,List.mem_range.2 hk,by rw [h];decide⟩
theorem eG(w:Int)(Ls:List Ln):∀ k,ar w Ls k=[]↔aU w Ls k=true
 |0=>by simp [ar,aU]
 |k+1=>by
  rw [a8,dk,List.append_eq_nil_iff,eG w Ls k,Bool.and_eq_true,<-iH];have:cJ k (aH w (Ls.getD k zl).1)=[]↔aH w (Ls.getD k zl).1=[]:=by unfold cJ;simp
  rw [this]
theorem fu(v:Vw):aI v=(ay v.w && ay v.h && (v.h == (v.L.length:Int)) && am v.r v.c v.pd v.w v.h && aU v.w v.L v.L.length):=by
 have key:aI v=true↔(ay v.w && ay v.h && (v.h == (v.L.length:Int)) && am v.r v.c v.pd v.w v.h && aU v.w v.L v.L.length)=true:=by
  unfold aI bc;rw [List.isEmpty_iff,List.append_eq_nil_iff,List.append_eq_nil_iff,eG];simp only [Bool.and_eq_true,beq_iff_eq];unfold dZ cH
  by_cases h1:ay v.w=true/\ay v.h=true/\v.h=(v.L.length:Int)
  ·by_cases h2:am v.r v.c v.pd v.w v.h=true
   ·rw [if_pos h1,if_pos h2];exact ⟨fun h=>⟨⟨⟨⟨h1.1,h1.2.1⟩,h1.2.2⟩,h2⟩,h.1.2⟩,fun h=>⟨⟨rfl,h.2⟩,rfl⟩⟩
   ·rw [if_neg h2];exact ⟨fun h=>absurd h.2 (by simp),fun h=>absurd h.1.2 h2⟩
  ·rw [if_neg h1];constructor
   ·intro h;exact absurd h.1.1 (by simp)
   ·intro h;exact absurd ⟨h.1.1.1.1,h.1.1.1.2,h.1.1.2⟩ h1
 exact Bool.eq_iff_iff.2 key
theorem eZ(v:Vw)(lv:Value)(w:World)(hv:ViewAt w v lv):Calls Tryd.prog 19 #[bb v lv] w (Gives w (.bool (aI v))):=by
 obtain ⟨vw,vh,Ls,r,c,pd,au⟩:=v;obtain ⟨m9,w0,w1,h0,h1⟩:=hv;simp only at m9 w0 w1 h0 h1;have tL:=m9.max;have oy:=fu ⟨vw,vh,Ls,r,c,pd,au⟩;simp only at oy;obtain ⟨rv,hrv⟩:=ab (aI ⟨vw,vh,Ls,r,c,pd,au⟩);rw [<-hrv] at oy ⊢;unfold bb;simp only;obtain ⟨lo,lc,rfl⟩:=m9.len;have hlc:=(be m9).2.1;have rb:=aa (be m9).2.2;have rJ:=aa (fun (w':World)=>fQ r c pd vw vh w');obtain ⟨n,hn⟩:=ab (Ls.length);have lf:=aa hn;have mo:=aa oy;rw [<-hn] at hlc tL rb mo ⊢;obtain ⟨W1,hW1⟩:=ab (w.alloc (.cells [Value.int .i64 vw,.int .i64 vh,.slice lo n lc,.int .i64 r,.int .i64 c,.bool pd,.bool au].toArray 44));obtain ⟨gv,lL⟩:=ab (w.heap.size);have hb1:Below w.heap.size w W1:=by rw [hW1];exact j0 _ _
 have lQ:Has W1 gv [.int .i64 vw,.int .i64 vh,.slice lo n lc,.int .i64 r,.int .i64 c,.bool pd,.bool au] 44:=by rw [hW1,lL];exact Has.new w _ _
 have HV:=aa lQ;have HB:=aa hb1;have mX:w.alloc (.cells #[Value.int .i64 vw,.int .i64 vh,.slice lo n lc,.int .i64 r,.int .i64 c,.bool pd,.bool au] 44)=W1:=hW1.symm;have nK:=aa lL;clear hW1 hb1 lQ lL hn oy hrv m9;obtain ⟨bad,kN⟩ : ∃ bad,bad = !(ay vw && ay vh && (vh == (n:Int)) && am r c pd vw vh):=⟨_,rfl⟩;have kf:=aa kN;clear kN
 go_enter Tryd.func19,Tryd.ntmps19
 go_upto_region 1 with (fail)
 rw [<-nK.out];clear mX
 go_cut [39] from 4 to 39 (fun tv wx=>tv=.bool bad/\Below W1.heap.size W1 wx)
 case first =>
  have hB:=Below.refl W1.heap.size W1;have q0:=HV.out.cell 0 _ rfl;have q1:=HV.out.cell 1 _ rfl;have q2:=HV.out.cell 2 _ rfl;have q3:=HV.out.cell 3 _ rfl;have q4:=HV.out.cell 4 _ rfl;have q5:=HV.out.cell 5 _ rfl
  by_cases t1:vh=(n:Int)
  ·have d1:(vh != (n:Int))=false:=by simp [t1]
   by_cases t2:vh<1
   ·have d2:decide (vh<1)=true:=decide_eq_true t2;have kG:=aa (show bad=true from by rw [kf.out,show ay vh=false from by unfold ay;rw [show decide (1<=vh)=false from decide_eq_false (by omega)];rfl];simp);clear t1 t2
    go_wp2_with fail
    go_meet;exact ⟨by rw [kG.out],hB⟩
   ·have d2:decide (vh<1)=false:=decide_eq_false t2
    by_cases t3:1024<vh
    ·have d3:decide (1024<vh)=true:=decide_eq_true t3;have kG:=aa (show bad=true from by rw [kf.out,show ay vh=false from by unfold ay;rw [show decide (vh<=1024)=false from decide_eq_false (by omega),Bool.and_false]];simp);clear t1 t2 t3
     go_wp2_with fail
     go_meet;exact ⟨by rw [kG.out],hB⟩
    ·have d3:decide (1024<vh)=false:=decide_eq_false t3;have HSH:=aa (show ay vh=true from by unfold ay;rw [show decide (1<=vh)=true from decide_eq_true (by omega),show decide (vh<=1024)=true from decide_eq_true (by omega)];rfl)
     by_cases t4:vw<1
     ·have d4:decide (vw<1)=true:=decide_eq_true t4;have kG:=aa (show bad=true from by rw [kf.out,show ay vw=false from by unfold ay;rw [show decide (1<=vw)=false from decide_eq_false (by omega)];rfl];simp);clear t1 t2 t3 t4
      go_wp2_with fail
      go_meet;exact ⟨by rw [kG.out],hB⟩
     ·have d4:decide (vw<1)=false:=decide_eq_false t4
      by_cases t5:1024<vw
      ·have d5:decide (1024<vw)=true:=decide_eq_true t5;have kG:=aa (show bad=true from by rw [kf.out,show ay vw=false from by unfold ay;rw [show decide (vw<=1024)=false from decide_eq_false (by omega),Bool.and_false]];simp);clear t1 t2 t3 t4 t5
       go_wp2_with fail
       go_meet;exact ⟨by rw [kG.out],hB⟩
      ·have d5:decide (1024<vw)=false:=decide_eq_false t5;have kG:=aa (show bad = !am r c pd vw vh from by rw [kf.out,HSH.out,show ay vw=true from by unfold ay;rw [show decide (1<=vw)=true from decide_eq_true (by omega),show decide (vw<=1024)=true from decide_eq_true (by omega)];rfl,show (vh == (n:Int))=true from by simp [t1]];simp);clear t1 t2 t3 t4 t5
       go_wp2_with fail
       refine (rJ.out W1).mono ?_;rintro e w6 ⟨rfl,b6⟩
       go_wp2_with fail
       go_meet;exact ⟨by rw [kG.out],b6⟩
  ·have d1:(vh != (n:Int))=true:=by simp [t1]
   have kG:=aa (show bad=true from by rw [kf.out,show (vh == (n:Int))=false from by simp [t1]];simp);clear t1
   go_wp2_with fail
   go_meet;exact ⟨by rw [kG.out],hB⟩
 case rest =>
  obtain ⟨rfl,uq⟩:=hcut;have HVC:=aa (HV.out.below uq HV.out.lt);have HBC:=aa (HB.out.trans (uq.mono HB.out.size));clear uq
  cases le:bad with
  |true =>
   have HF:=aa (show rv=false from by
    have h:=kf.out;rw [le] at h;rw [mo.out];have h2:(ay vw && ay vh && (vh == (n:Int)) && am r c pd vw vh)=false:=by
     cases hx:(ay vw && ay vh && (vh == (n:Int)) && am r c pd vw vh) with
     |true=>rw [hx] at h;cases h
     |false=>rfl
    rw [h2]
    rfl)
   clear le;go_wp2;go_ret;rw [HF.out];exact ⟨ae,HBC.out⟩
  |false =>
   have HF:=aa (show rv=aU vw Ls n from by
    have h:=kf.out;rw [le] at h;rw [mo.out];have h2:(ay vw && ay vh && (vh == (n:Int)) && am r c pd vw vh)=true:=by simpa using h.symm
    rw [h2,Bool.true_and])
   clear le
   go_upto_region 3 with (fail)
   go_wp2
   go_loopw [3] (fun iv wr=>∃ k:Nat,k<=n/\iv=.int .i64 k/\aU vw Ls k=true/\Below w.heap.size w wr/\Has wr gv [.int .i64 vw,.int .i64 vh,.slice lo n lc,.int .i64 r,.int .i64 c,.bool pd,.bool au] 44) (fun iv _=>n - (intOf iv).toNat)
   case atStart=>exact ⟨0,Nat.zero_le _,rfl,rfl,HBC.out,HVC.out⟩
   case round =>
    obtain ⟨k,hk,rfl,kF,hb,oC⟩:=hrel;obtain ⟨wq,lR⟩:=ab (wr);subst lR;have lS:=aa kF;have lY:=aa hb;have HVW:=aa oC;have q0:=oC.cell 0 _ rfl;have q2:=oC.cell 2 _ rfl;clear kF hb oC
    by_cases hlt:k<n
    ·obtain ⟨b,off,cv,eo,hb,_,hc0,hc1,hcv⟩:=rb.out k hlt;subst eo;have c0:=(lY.out.cell (p:=⟨b,off+k * 2,none⟩) hb).trans hc0;have kX:=dk vw Ls k;have pa:=aa (fun (h:cE vw (Ls.getD k zl).1=false)=>fs hlt h);obtain ⟨Lk,nJ⟩:=ab ((Ls.getD k zl).1);rw [<-nJ] at hcv kX pa;rw [lS.out,Bool.true_and] at kX;have HLK2:=aa kX;obtain ⟨co,cc,ecv⟩:=hcv.len;obtain ⟨nk,pi⟩:=ab (Lk.length);rw [<-pi] at ecv;subst ecv;have hso0:∀ w',Below w.heap.size w w'->Calls Tryd.prog 37 #[.slice co nk cc] w' (Gives w' (.bool (aR Lk))):=fun w' h=>by rw [dD];exact gq _ _ Lk w' (hcv.below h)
     have pX:=aa (show cE vw Lk=(decide ((nk:Int)=vw) && aR Lk) from by unfold cE;rw [<-pi]);have qK:(k:Int)<(n:Int):=by omega
     have ow:IntKind.i64.wrap ((k:Int)+1)=(k:Int)+1:=by rw [IntKind.wrap_i64];omega
     have ss:k<lc:=by omega
     have x0:=aG q0;have x2:=aG q2;have xc:=aG c0;have rl:=aa (fun (u:Growth wq)=>hso0 (ext wq u) (cx lY.out u));have pA:=aa (fun (u:Growth wq)=>show Below w.heap.size w (ext wq u)/\Has (ext wq u) gv [.int .i64 vw,.int .i64 vh,.slice (some ⟨b,off,none⟩) n lc,.int .i64 r,.int .i64 c,.bool pd,.bool au] 44 from ⟨cx lY.out u,HVW.out.below (cx (Below.refl wq.heap.size wq) u) HVW.out.lt⟩);clear hc0 nJ hcv pi hb kX hso0
     by_cases pb:(nk:Int)=vw
     ·have d1:((nk:Int) != vw)=false:=by simp [pb]
      have d2:decide ((nk:Int)=vw)=true:=decide_eq_true pb;rw [d2,Bool.true_and] at pX
      cases hsb:aR Lk with
      |true =>
       rw [hsb] at pX rl;clear hsb pb d2
       go_upto_region 6 with (fail)
       clear q0 q2 c0;refine aT (by kernel_rfl) (by kernel_rfl) ?_
       repeat (go_big_quiet_step ((first | (go_at_call 37;exact iZ (rl.out _)))))
       refine wpQuiet_nil ?_;intro _ hw';obtain ⟨u,hw''⟩:=hw';subst hw'';have HE:=aa (And.intro (show aU vw Ls (k+1)=true from by rw [HLK2.out];exact pX.out) (pA.out u));clear x0 x2 xc;go_wp2
       go_roundw
       case rel=>exact ⟨k+1,by omega,by go_num,HE.out.1,HE.out.2.1,HE.out.2.2⟩
       case measure=>simp [intOf] <;> omega
      |false =>
       rw [hsb] at pX rl;have rE:=aa (show rv=false from by rw [HF.out];exact pa.out pX.out);clear hsb pb d2
       go_upto_region 6 with (fail)
       clear q0 q2 c0;refine aT (by kernel_rfl) (by kernel_rfl) ?_
       repeat (go_big_quiet_step ((first | (go_at_call 37;exact iZ (rl.out _)))))
       refine wpQuiet_nil ?_;intro _ hw';obtain ⟨u,hw''⟩:=hw';subst hw'';have HE:=aa (pA.out u).1;clear x0 x2 xc;go_wp2;go_ret;rw [rE.out];exact ⟨ae,HE.out⟩
     ·have d1:((nk:Int) != vw)=true:=by simp [pb]
      have d2:decide ((nk:Int)=vw)=false:=decide_eq_false pb;rw [d2,Bool.false_and] at pX;have rE:=aa (show rv=false from by rw [HF.out];exact pa.out pX.out);clear pb d2
      go_upto_region 6 with (fail)
      clear q0 q2 c0;refine aT (by kernel_rfl) (by kernel_rfl) ?_
      repeat (go_big_quiet_step ((fail)))
      refine wpQuiet_nil ?_;intro _ hw';obtain ⟨u,hw''⟩:=hw';subst hw'';have HE:=aa (pA.out u).1;clear x0 x2 xc;go_wp2;go_ret;rw [rE.out];exact ⟨ae,HE.out⟩
    ·obtain rfl:k=n:=by omega
     have HF3:=aa (show rv=true from by rw [HF.out,lS.out]);go_wp2;go_ret;rw [HF3.out];exact ⟨ae,lY.out⟩
end Go.Proofs.YtechjomepdahiaaDoor
