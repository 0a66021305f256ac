import Derived.Test.YtechjomepdahiaaDoorZ0
import Derived.Test.YtechjomepdahiaaDoorAudE
import Derived.Test.YtechjomepdahiaaDoorCellS
import Derived.Lib.MinMax
import Derived.Deep.Cut
set_option maxRecDepth 100000
set_option linter.unusedVariables false
set_option linter.unusedSimpArgs false
set_option maxHeartbeats 3000000
namespace Go.Proofs.YtechjomepdahiaaDoor
open Go.RowKit Go.ChangeShapes Go.WideShapes
theorem lK(L:List Cl)(i:Nat):ba L i=0↔cW L i=true:=by
 unfold ba
 by_cases h:am (L.getD i zc)=false
 ·rw [if_pos h];refine ⟨fun e=>absurd e (by decide),fun e=>?_⟩;unfold cW at e;rw [h] at e
  simp at e
 ·rw [if_neg h]
  cases ho:cW L i with
  | true=>simp
  | false=>simp
theorem fC(L:List Cl):∀ k,aw L k=[]↔c8 L k=true
 |0=>by simp [aw,c8]
 |k+1=>by
  have h1:bK L k=[]↔cW L k=true:=by
   rw [<-lK];unfold bK
   by_cases h:ba L k=0
   ·simp [h]
   ·simp [h]
  rw [bL,fI,List.append_eq_nil_iff,fC L k,h1,Bool.and_eq_true]
def cq(w:Int)(L:List Cl):Bool:=decide ((L.length:Int)=w) && aI L
theorem kl(w:Int)(L:List Cl):aO w L=[]↔cq w L=true:=by
 unfold aO cq jg;rw [List.append_eq_nil_iff,fC,<-ef,Bool.and_eq_true,decide_eq_true_eq]
 by_cases h:(L.length:Int)=w
 ·simp [h]
 ·simp [h]
def bc(w:Int)(Ls:List Ln)(k:Nat):Bool:=(List.range k).all fun i=>cq w (Ls.getD i zl).1
theorem dL(w:Int)(Ls:List Ln)(k:Nat):bc w Ls (k+1)=(bc w Ls k && cq w (Ls.getD k zl).1):=by
 unfold bc;rw [List.range_succ,List.all_append]
 simp
theorem gN{w:Int}{Ls:List Ln}{k n:Nat}(hk:k<n)(h:cq w (Ls.getD k zl).1=false):bc w Ls n=false:=by
 unfold bc;rw [List.all_eq_false];exact ⟨k,List.mem_range.2 hk,by rw [h];decide⟩
theorem fD(w:Int)(Ls:List Ln):∀ k,ax w Ls k=[]↔bc w Ls k=true
 |0=>by simp [ax,bc]
 |k+1=>by
  rw [bn,dL,List.append_eq_nil_iff,fD w Ls k,Bool.and_eq_true,<-kl];have:cU k (aO w (Ls.getD k zl).1)=[]↔aO w (Ls.getD k zl).1=[]:=by unfold cU;simp
  rw [this]
theorem eL(v:Vw):aH v=(aB v.w && aB v.h && (v.h == (v.L.length:Int)) && ap v.r v.c v.pd v.w v.h && bc v.w v.L v.L.length):=by
 have key:aH v=true↔(aB v.w && aB v.h && (v.h == (v.L.length:Int)) && ap v.r v.c v.pd v.w v.h && bc v.w v.L v.L.length)=true:=by
  unfold aH bs;rw [List.isEmpty_iff,List.append_eq_nil_iff,List.append_eq_nil_iff,fD];simp only [Bool.and_eq_true,beq_iff_eq];unfold eN cQ
  by_cases h1:aB v.w=true/\aB v.h=true/\v.h=(v.L.length:Int)
  ·by_cases h2:ap v.r v.c v.pd v.w v.h=true
   ·rw [if_pos h1,if_pos h2];exact ⟨fun h=>⟨⟨⟨⟨h1.1,h1.2.1⟩,h1.2.2⟩,h2⟩,h.1.2⟩,fun h=>⟨⟨rfl,h.2⟩,rfl⟩⟩
   ·rw [if_neg h2];exact ⟨fun h=>absurd h.2 (by simp),fun h=>absurd h.1.2 h2⟩
  ·rw [if_neg h1];constructor
   ·intro h;exact absurd h.1.1 (by simp)
   ·intro h;exact absurd ⟨h.1.1.1.1,h.1.1.1.2,h.1.1.2⟩ h1
 exact Bool.eq_iff_iff.2 key
theorem f9(v:Vw)(lv:Value)(w:World)(hv:ViewAt w v lv):Calls Tryd.prog 19 #[aZ v lv] w (Gives w (.bool (aH v))):=by
 obtain ⟨vw,vh,Ls,r,c,pd,au⟩:=v;obtain ⟨oo,w0,w1,h0,h1⟩:=hv;simp only at oo w0 w1 h0 h1;have vD:=oo.max;have qU:=eL ⟨vw,vh,Ls,r,c,pd,au⟩;simp only at qU;obtain ⟨rv,hrv⟩:=ab (aH ⟨vw,vh,Ls,r,c,pd,au⟩);rw [<-hrv] at qU ⊢;unfold aZ;simp only;obtain ⟨lo,lc,rfl⟩:=oo.len;have hlc:=(aP oo).2.1;have rx:=aa (aP oo).2.2;have uk:=aa (fun (w':World)=>ic r c pd vw vh w');obtain ⟨n,hn⟩:=ab (Ls.length);have nS:=aa hn;have oQ:=aa qU;rw [<-hn] at hlc vD rx oQ ⊢;obtain ⟨W1,hW1⟩:=ab (w.alloc (.cells [Value.int .i64 vw,.int .i64 vh,.slice lo n lc,.int .i64 r,.int .i64 c,.bool pd,.bool au].toArray 44));obtain ⟨gv,oa⟩:=ab (w.heap.size);have hb1:Below w.heap.size w W1:=by rw [hW1];exact l7 _ _
 have m7:Has W1 gv [.int .i64 vw,.int .i64 vh,.slice lo n lc,.int .i64 r,.int .i64 c,.bool pd,.bool au] 44:=by rw [hW1,oa];exact Has.new w _ _
 have HV:=aa m7;have HB:=aa hb1;have oI:w.alloc (.cells #[Value.int .i64 vw,.int .i64 vh,.slice lo n lc,.int .i64 r,.int .i64 c,.bool pd,.bool au] 44)=W1:=hW1.symm;have pI:=aa oa;clear hW1 hb1 m7 oa hn qU hrv oo;obtain ⟨bad,mZ⟩ : ∃ bad,bad = !(aB vw && aB vh && (vh == (n:Int)) && ap r c pd vw vh):=⟨_,rfl⟩;have mq:=aa mZ;clear mZ
 go_enter Tryd.func19,Tryd.ntmps19
 go_upto_region 1 with (fail)
 rw [<-pI.out];clear oI
 go_cut [39] from 4 to 39 (fun tv wx=>tv=.bool bad/\Below W1.heap.size W1 wx)
 case first =>
  have hB:=Below.refl W1.heap.size W1;have q0:=HV.out.cell 0 _ rfl;have q1:=HV.out.cell 1 _ rfl;have q2:=HV.out.cell 2 _ rfl;have q3:=HV.out.cell 3 _ rfl;have q4:=HV.out.cell 4 _ rfl;have q5:=HV.out.cell 5 _ rfl
  by_cases t1:vh=(n:Int)
  ·have d1:(vh != (n:Int))=false:=by simp [t1]
   by_cases t2:vh<1
   ·have d2:decide (vh<1)=true:=decide_eq_true t2;have mT:=aa (show bad=true from by rw [mq.out,show aB vh=false from by unfold aB;rw [show decide (1<=vh)=false from decide_eq_false (by omega)];rfl];simp);clear t1 t2
    go_wp2_with fail
    go_meet;exact ⟨by rw [mT.out],hB⟩
   ·have d2:decide (vh<1)=false:=decide_eq_false t2
    by_cases t3:1024<vh
    ·have d3:decide (1024<vh)=true:=decide_eq_true t3;have mT:=aa (show bad=true from by rw [mq.out,show aB vh=false from by unfold aB;rw [show decide (vh<=1024)=false from decide_eq_false (by omega),Bool.and_false]];simp);clear t1 t2 t3
     go_wp2_with fail
     go_meet;exact ⟨by rw [mT.out],hB⟩
    ·have d3:decide (1024<vh)=false:=decide_eq_false t3;have HSH:=aa (show aB vh=true from by unfold aB;rw [show decide (1<=vh)=true from decide_eq_true (by omega),show decide (vh<=1024)=true from decide_eq_true (by omega)];rfl)
     by_cases t4:vw<1
     ·have d4:decide (vw<1)=true:=decide_eq_true t4;have mT:=aa (show bad=true from by rw [mq.out,show aB vw=false from by unfold aB;rw [show decide (1<=vw)=false from decide_eq_false (by omega)];rfl];simp);clear t1 t2 t3 t4
      go_wp2_with fail
      go_meet;exact ⟨by rw [mT.out],hB⟩
     ·have d4:decide (vw<1)=false:=decide_eq_false t4
      by_cases t5:1024<vw
      ·have d5:decide (1024<vw)=true:=decide_eq_true t5;have mT:=aa (show bad=true from by rw [mq.out,show aB vw=false from by unfold aB;rw [show decide (vw<=1024)=false from decide_eq_false (by omega),Bool.and_false]];simp);clear t1 t2 t3 t4 t5
       go_wp2_with fail
       go_meet;exact ⟨by rw [mT.out],hB⟩
      ·have d5:decide (1024<vw)=false:=decide_eq_false t5;have mT:=aa (show bad = !ap r c pd vw vh from by rw [mq.out,HSH.out,show aB vw=true from by unfold aB;rw [show decide (1<=vw)=true from decide_eq_true (by omega),show decide (vw<=1024)=true from decide_eq_true (by omega)];rfl,show (vh == (n:Int))=true from by simp [t1]];simp);clear t1 t2 t3 t4 t5
       go_wp2_with fail
       refine (uk.out W1).mono ?_;rintro e w6 ⟨rfl,b6⟩
       go_wp2_with fail
       go_meet;exact ⟨by rw [mT.out],b6⟩
  ·have d1:(vh != (n:Int))=true:=by simp [t1]
   have mT:=aa (show bad=true from by rw [mq.out,show (vh == (n:Int))=false from by simp [t1]];simp);clear t1
   go_wp2_with fail
   go_meet;exact ⟨by rw [mT.out],hB⟩
 case rest =>
  obtain ⟨rfl,uA⟩:=hcut;have HVC:=aa (HV.out.below uA HV.out.lt);have HBC:=aa (HB.out.trans (uA.mono HB.out.size));clear uA
  cases nx:bad with
  |true =>
   have HF:=aa (show rv=false from by
    have h:=mq.out;rw [nx] at h;rw [oQ.out];have h2:(aB vw && aB vh && (vh == (n:Int)) && ap r c pd vw vh)=false:=by
     cases hx:(aB vw && aB vh && (vh == (n:Int)) && ap r c pd vw vh) with
     |true=>rw [hx] at h;cases h
     |false=>rfl
    rw [h2]
    rfl)
   clear nx;go_wp2;go_ret;rw [HF.out];exact ⟨ae,HBC.out⟩
  |false =>
   have HF:=aa (show rv=bc vw Ls n from by
    have h:=mq.out;rw [nx] at h;rw [oQ.out];have h2:(aB vw && aB vh && (vh == (n:Int)) && ap r c pd vw vh)=true:=by simpa using h.symm
    rw [h2,Bool.true_and])
   clear nx
   go_upto_region 3 with (fail)
   go_wp2
   go_loopw [3] (fun iv wr=>∃ k:Nat,k<=n/\iv=.int .i64 k/\bc vw Ls k=true/\Below w.heap.size w wr/\Has wr gv [.int .i64 vw,.int .i64 vh,.slice lo n lc,.int .i64 r,.int .i64 c,.bool pd,.bool au] 44) (fun iv _=>n - (intOf iv).toNat)
   case atStart=>exact ⟨0,Nat.zero_le _,rfl,rfl,HBC.out,HVC.out⟩
   case round =>
    obtain ⟨k,hk,rfl,mH,hb,qI⟩:=hrel;obtain ⟨wq,oe⟩:=ab (wr);subst oe;have od:=aa mH;have mm:=aa hb;have HVW:=aa qI;have q0:=qI.cell 0 _ rfl;have q2:=qI.cell 2 _ rfl;clear mH hb qI
    by_cases hlt:k<n
    ·obtain ⟨b,off,cv,eo,hb,_,hc0,hc1,hcv⟩:=rx.out k hlt;subst eo;have c0:=(mm.out.cell (p:=⟨b,off+k * 2,none⟩) hb).trans hc0;have na:=dL vw Ls k;have pu:=aa (fun (h:cq vw (Ls.getD k zl).1=false)=>gN hlt h);obtain ⟨Lk,p7⟩:=ab ((Ls.getD k zl).1);rw [<-p7] at hcv na pu;rw [od.out,Bool.true_and] at na;have HLK2:=aa na;obtain ⟨co,cc,ecv⟩:=hcv.len;obtain ⟨nk,p9⟩:=ab (Lk.length);rw [<-p9] at ecv;subst ecv;have hso0:∀ w',Below w.heap.size w w'->Calls Tryd.prog 37 #[.slice co nk cc] w' (Gives w' (.bool (aI Lk))):=fun w' h=>by rw [ef];exact iQ _ _ Lk w' (hcv.below h)
     have sM:=aa (show cq vw Lk=(decide ((nk:Int)=vw) && aI Lk) from by unfold cq;rw [<-p9]);have ry:(k:Int)<(n:Int):=by omega
     have pn:IntKind.i64.wrap ((k:Int)+1)=(k:Int)+1:=by rw [IntKind.wrap_i64];omega
     have tN:k<lc:=by omega
     have x0:=ay q0;have x2:=ay q2;have xc:=ay c0;have tW:=aa (fun (u:Growth wq)=>hso0 (ext wq u) (aQ mm.out u));have rP:=aa (fun (u:Growth wq)=>show Below w.heap.size w (ext wq u)/\Has (ext wq u) gv [.int .i64 vw,.int .i64 vh,.slice (some ⟨b,off,none⟩) n lc,.int .i64 r,.int .i64 c,.bool pd,.bool au] 44 from ⟨aQ mm.out u,HVW.out.below (aQ (Below.refl wq.heap.size wq) u) HVW.out.lt⟩);clear hc0 p7 hcv p9 hb na hso0
     by_cases rk:(nk:Int)=vw
     ·have d1:((nk:Int) != vw)=false:=by simp [rk]
      have d2:decide ((nk:Int)=vw)=true:=decide_eq_true rk;rw [d2,Bool.true_and] at sM
      cases hsb:aI Lk with
      |true =>
       rw [hsb] at sM tW;clear hsb rk d2
       go_upto_region 6 with (fail)
       clear q0 q2 c0;refine aC (by kernel_rfl) (by kernel_rfl) ?_
       repeat (go_big_quiet_step ((first | (go_at_call 37;exact eY (tW.out _)))))
       refine wpQuiet_nil ?_;intro _ hw';obtain ⟨u,hw''⟩:=hw';subst hw'';have HE:=aa (And.intro (show bc vw Ls (k+1)=true from by rw [HLK2.out];exact sM.out) (rP.out u));clear x0 x2 xc;go_wp2
       go_roundw
       case rel=>exact ⟨k+1,by omega,by go_num,HE.out.1,HE.out.2.1,HE.out.2.2⟩
       case measure=>simp [intOf] <;> omega
      |false =>
       rw [hsb] at sM tW;have t9:=aa (show rv=false from by rw [HF.out];exact pu.out sM.out);clear hsb rk d2
       go_upto_region 6 with (fail)
       clear q0 q2 c0;refine aC (by kernel_rfl) (by kernel_rfl) ?_
       repeat (go_big_quiet_step ((first | (go_at_call 37;exact eY (tW.out _)))))
       refine wpQuiet_nil ?_;intro _ hw';obtain ⟨u,hw''⟩:=hw';subst hw'';have HE:=aa (rP.out u).1;clear x0 x2 xc;go_wp2;go_ret;rw [t9.out];exact ⟨ae,HE.out⟩
     ·have d1:((nk:Int) != vw)=true:=by simp [rk]
      have d2:decide ((nk:Int)=vw)=false:=decide_eq_false rk;rw [d2,Bool.false_and] at sM;have t9:=aa (show rv=false from by rw [HF.out];exact pu.out sM.out);clear rk d2
      go_upto_region 6 with (fail)
      clear q0 q2 c0;refine aC (by kernel_rfl) (by kernel_rfl) ?_
      repeat (go_big_quiet_step ((fail)))
      refine wpQuiet_nil ?_;intro _ hw';obtain ⟨u,hw''⟩:=hw';subst hw'';have HE:=aa (rP.out u).1;clear x0 x2 xc;go_wp2;go_ret;rw [t9.out];exact ⟨ae,HE.out⟩
    ·obtain rfl:k=n:=by omega
     have HF3:=aa (show rv=true from by rw [HF.out,od.out]);go_wp2;go_ret;rw [HF3.out];exact ⟨ae,mm.out⟩
end Go.Proofs.YtechjomepdahiaaDoor
