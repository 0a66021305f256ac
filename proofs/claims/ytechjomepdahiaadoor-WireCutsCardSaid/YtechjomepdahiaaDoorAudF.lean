import Derived.Test.YtechjomepdahiaaDoorZ0
import Derived.Test.YtechjomepdahiaaDoorAudE
import Derived.Test.YtechjomepdahiaaDoorCellS
import Derived.Lib.MinMax
import Derived.Deep.Cut
set_option maxRecDepth 100000
set_option linter.unusedVariables false
set_option linter.unusedSimpArgs false
set_option maxHeartbeats 3000000
namespace Go.Proofs.YtechjomepdahiaaDoor
open Go.RowKit Go.ChangeShapes Go.WideShapes
theorem le(L:List Cl)(i:Nat):aX L i=0↔cR L i=true:=by
 unfold aX
 by_cases h:am (L.getD i zc)=false
 ·rw [if_pos h];refine ⟨fun e=>absurd e (by decide),fun e=>?_⟩;unfold cR at e;rw [h] at e
  simp at e
 ·rw [if_neg h]
  cases ho:cR L i with
  | true=>simp
  | false=>simp
theorem fm(L:List Cl):∀ k,av L k=[]↔cV L k=true
 |0=>by simp [av,cV]
 |k+1=>by
  have h1:bH L k=[]↔cR L k=true:=by
   rw [<-le];unfold bH
   by_cases h:aX L k=0
   ·simp [h]
   ·simp [h]
  rw [bI,fw,List.append_eq_nil_iff,fm L k,h1,Bool.and_eq_true]
def cl(w:Int)(L:List Cl):Bool:=decide ((L.length:Int)=w) && aG L
theorem jW(w:Int)(L:List Cl):aO w L=[]↔cl w L=true:=by
 unfold aO cl iI;rw [List.append_eq_nil_iff,fm,<-dU,Bool.and_eq_true,decide_eq_true_eq]
 by_cases h:(L.length:Int)=w
 ·simp [h]
 ·simp [h]
def ba(w:Int)(Ls:List Ln)(k:Nat):Bool:=(List.range k).all fun i=>cl w (Ls.getD i zl).1
theorem dF(w:Int)(Ls:List Ln)(k:Nat):ba w Ls (k+1)=(ba w Ls k && cl w (Ls.getD k zl).1):=by
 unfold ba;rw [List.range_succ,List.all_append]
 simp
theorem gn{w:Int}{Ls:List Ln}{k n:Nat}(hk:k<n)(h:cl w (Ls.getD k zl).1=false):ba w Ls n=false:=by
 unfold ba;rw [List.all_eq_false];exact ⟨k,List.mem_range.2 hk,by rw [h];decide⟩
theorem fp(w:Int)(Ls:List Ln):∀ k,aw w Ls k=[]↔ba w Ls k=true
 |0=>by simp [aw,ba]
 |k+1=>by
  rw [bm,dF,List.append_eq_nil_iff,fp w Ls k,Bool.and_eq_true,<-jW];have:cP k (aO w (Ls.getD k zl).1)=[]↔aO w (Ls.getD k zl).1=[]:=by unfold cP;simp
  rw [this]
theorem eD(v:Vw):ax v=(aA v.w && aA v.h && (v.h == (v.L.length:Int)) && ap v.r v.c v.pd v.w v.h && ba v.w v.L v.L.length):=by
 have key:ax v=true↔(aA v.w && aA v.h && (v.h == (v.L.length:Int)) && ap v.r v.c v.pd v.w v.h && ba v.w v.L v.L.length)=true:=by
  unfold ax bp;rw [List.isEmpty_iff,List.append_eq_nil_iff,List.append_eq_nil_iff,fp];simp only [Bool.and_eq_true,beq_iff_eq];unfold eF cM
  by_cases h1:aA v.w=true/\aA v.h=true/\v.h=(v.L.length:Int)
  ·by_cases h2:ap v.r v.c v.pd v.w v.h=true
   ·rw [if_pos h1,if_pos h2];exact ⟨fun h=>⟨⟨⟨⟨h1.1,h1.2.1⟩,h1.2.2⟩,h2⟩,h.1.2⟩,fun h=>⟨⟨rfl,h.2⟩,rfl⟩⟩
   ·rw [if_neg h2];exact ⟨fun h=>absurd h.2 (by simp),fun h=>absurd h.1.2 h2⟩
  ·rw [if_neg h1];constructor
   ·intro h;exact absurd h.1.1 (by simp)
   ·intro h;exact absurd ⟨h.1.1.1.1,h.1.1.1.2,h.1.1.2⟩ h1
 exact Bool.eq_iff_iff.2 key
theorem fM(v:Vw)(lv:Value)(w:World)(hv:ViewAt w v lv):Calls Tryd.prog 19 #[bo v lv] w (Gives w (.bool (ax v))):=by
 obtain ⟨vw,vh,Ls,r,c,pd,au⟩:=v;obtain ⟨nH,w0,w1,h0,h1⟩:=hv;simp only at nH w0 w1 h0 h1;have uI:=nH.max;have qc:=eD ⟨vw,vh,Ls,r,c,pd,au⟩;simp only at qc;obtain ⟨rv,hrv⟩:=ab (ax ⟨vw,vh,Ls,r,c,pd,au⟩);rw [<-hrv] at qc ⊢;unfold bo;simp only;obtain ⟨lo,lc,rfl⟩:=nH.len;have hlc:=(aU nH).2.1;have qO:=aa (aU nH).2.2;have tf:=aa (fun (w':World)=>gO r c pd vw vh w');obtain ⟨n,hn⟩:=ab (Ls.length);have mP:=aa hn;have oc:=aa qc;rw [<-hn] at hlc uI qO oc ⊢;obtain ⟨W1,hW1⟩:=ab (w.alloc (.cells [Value.int .i64 vw,.int .i64 vh,.slice lo n lc,.int .i64 r,.int .i64 c,.bool pd,.bool au].toArray 44));obtain ⟨gv,m8⟩:=ab (w.heap.size);have hb1:Below w.heap.size w W1:=by rw [hW1];exact lD _ _
 have mA:Has W1 gv [.int .i64 vw,.int .i64 vh,.slice lo n lc,.int .i64 r,.int .i64 c,.bool pd,.bool au] 44:=by rw [hW1,m8];exact Has.new w _ _
 have HV:=aa mA;have HB:=aa hb1;have nQ:w.alloc (.cells #[Value.int .i64 vw,.int .i64 vh,.slice lo n lc,.int .i64 r,.int .i64 c,.bool pd,.bool au] 44)=W1:=hW1.symm;have oq:=aa m8;clear hW1 hb1 mA m8 hn qc hrv nH;obtain ⟨bad,mt⟩ : ∃ bad,bad = !(aA vw && aA vh && (vh == (n:Int)) && ap r c pd vw vh):=⟨_,rfl⟩;have lQ:=aa mt;clear mt
 go_enter Tryd.func19,Tryd.ntmps19
 go_upto_region 1 with (fail)
 rw [<-oq.out];clear nQ
 go_cut [39] from 4 to 39 (fun tv wx=>tv=.bool bad/\Below W1.heap.size W1 wx)
 case first =>
  have hB:=Below.refl W1.heap.size W1;have q0:=HV.out.cell 0 _ rfl;have q1:=HV.out.cell 1 _ rfl;have q2:=HV.out.cell 2 _ rfl;have q3:=HV.out.cell 3 _ rfl;have q4:=HV.out.cell 4 _ rfl;have q5:=HV.out.cell 5 _ rfl
  by_cases t1:vh=(n:Int)
  ·have d1:(vh != (n:Int))=false:=by simp [t1]
   by_cases t2:vh<1
   ·have d2:decide (vh<1)=true:=decide_eq_true t2;have mm:=aa (show bad=true from by rw [lQ.out,show aA vh=false from by unfold aA;rw [show decide (1<=vh)=false from decide_eq_false (by omega)];rfl];simp);clear t1 t2
    go_wp2_with fail
    go_meet;exact ⟨by rw [mm.out],hB⟩
   ·have d2:decide (vh<1)=false:=decide_eq_false t2
    by_cases t3:1024<vh
    ·have d3:decide (1024<vh)=true:=decide_eq_true t3;have mm:=aa (show bad=true from by rw [lQ.out,show aA vh=false from by unfold aA;rw [show decide (vh<=1024)=false from decide_eq_false (by omega),Bool.and_false]];simp);clear t1 t2 t3
     go_wp2_with fail
     go_meet;exact ⟨by rw [mm.out],hB⟩
    ·have d3:decide (1024<vh)=false:=decide_eq_false t3;have HSH:=aa (show aA vh=true from by unfold aA;rw [show decide (1<=vh)=true from decide_eq_true (by omega),show decide (vh<=1024)=true from decide_eq_true (by omega)];rfl)
     by_cases t4:vw<1
     ·have d4:decide (vw<1)=true:=decide_eq_true t4;have mm:=aa (show bad=true from by rw [lQ.out,show aA vw=false from by unfold aA;rw [show decide (1<=vw)=false from decide_eq_false (by omega)];rfl];simp);clear t1 t2 t3 t4
      go_wp2_with fail
      go_meet;exact ⟨by rw [mm.out],hB⟩
     ·have d4:decide (vw<1)=false:=decide_eq_false t4
      by_cases t5:1024<vw
      ·have d5:decide (1024<vw)=true:=decide_eq_true t5;have mm:=aa (show bad=true from by rw [lQ.out,show aA vw=false from by unfold aA;rw [show decide (vw<=1024)=false from decide_eq_false (by omega),Bool.and_false]];simp);clear t1 t2 t3 t4 t5
       go_wp2_with fail
       go_meet;exact ⟨by rw [mm.out],hB⟩
      ·have d5:decide (1024<vw)=false:=decide_eq_false t5;have mm:=aa (show bad = !ap r c pd vw vh from by rw [lQ.out,HSH.out,show aA vw=true from by unfold aA;rw [show decide (1<=vw)=true from decide_eq_true (by omega),show decide (vw<=1024)=true from decide_eq_true (by omega)];rfl,show (vh == (n:Int))=true from by simp [t1]];simp);clear t1 t2 t3 t4 t5
       go_wp2_with fail
       refine (tf.out W1).mono ?_;rintro e w6 ⟨rfl,b6⟩
       go_wp2_with fail
       go_meet;exact ⟨by rw [mm.out],b6⟩
  ·have d1:(vh != (n:Int))=true:=by simp [t1]
   have mm:=aa (show bad=true from by rw [lQ.out,show (vh == (n:Int))=false from by simp [t1]];simp);clear t1
   go_wp2_with fail
   go_meet;exact ⟨by rw [mm.out],hB⟩
 case rest =>
  obtain ⟨rfl,uu⟩:=hcut;have HVC:=aa (HV.out.below uu HV.out.lt);have HBC:=aa (HB.out.trans (uu.mono HB.out.size));clear uu
  cases mI:bad with
  |true =>
   have HF:=aa (show rv=false from by
    have h:=lQ.out;rw [mI] at h;rw [oc.out];have h2:(aA vw && aA vh && (vh == (n:Int)) && ap r c pd vw vh)=false:=by
     cases hx:(aA vw && aA vh && (vh == (n:Int)) && ap r c pd vw vh) with
     |true=>rw [hx] at h;cases h
     |false=>rfl
    rw [h2]
    rfl)
   clear mI;go_wp2;go_ret;rw [HF.out];exact ⟨ae,HBC.out⟩
  |false =>
   have HF:=aa (show rv=ba vw Ls n from by
    have h:=lQ.out;rw [mI] at h;rw [oc.out];have h2:(aA vw && aA vh && (vh == (n:Int)) && ap r c pd vw vh)=true:=by simpa using h.symm
    rw [h2,Bool.true_and])
   clear mI
   go_upto_region 3 with (fail)
   go_wp2
   go_loopw [3] (fun iv wr=>∃ k:Nat,k<=n/\iv=.int .i64 k/\ba vw Ls k=true/\Below w.heap.size w wr/\Has wr gv [.int .i64 vw,.int .i64 vh,.slice lo n lc,.int .i64 r,.int .i64 c,.bool pd,.bool au] 44) (fun iv _=>n - (intOf iv).toNat)
   case atStart=>exact ⟨0,Nat.zero_le _,rfl,rfl,HBC.out,HVC.out⟩
   case round =>
    obtain ⟨k,hk,rfl,mi,hb,pT⟩:=hrel;obtain ⟨wq,ns⟩:=ab (wr);subst ns;have nu:=aa mi;have nG:=aa hb;have HVW:=aa pT;have q0:=pT.cell 0 _ rfl;have q2:=pT.cell 2 _ rfl;clear mi hb pT
    by_cases hlt:k<n
    ·obtain ⟨b,off,cv,eo,hb,_,hc0,hc1,hcv⟩:=qO.out k hlt;subst eo;have c0:=(nG.out.cell (p:=⟨b,off+k * 2,none⟩) hb).trans hc0;have mC:=dF vw Ls k;have qn:=aa (fun (h:cl vw (Ls.getD k zl).1=false)=>gn hlt h);obtain ⟨Lk,pn⟩:=ab ((Ls.getD k zl).1);rw [<-pn] at hcv mC qn;rw [nu.out,Bool.true_and] at mC;have HLK2:=aa mC;obtain ⟨co,cc,ecv⟩:=hcv.len;obtain ⟨nk,pj⟩:=ab (Lk.length);rw [<-pj] at ecv;subst ecv;have hso0:∀ w',Below w.heap.size w w'->Calls Tryd.prog 37 #[.slice co nk cc] w' (Gives w' (.bool (aG Lk))):=fun w' h=>by rw [dU];exact it _ _ Lk w' (hcv.below h)
     have r5:=aa (show cl vw Lk=(decide ((nk:Int)=vw) && aG Lk) from by unfold cl;rw [<-pj]);have qL:(k:Int)<(n:Int):=by omega
     have pL:IntKind.i64.wrap ((k:Int)+1)=(k:Int)+1:=by rw [IntKind.wrap_i64];omega
     have sH:k<lc:=by omega
     have x0:=aI q0;have x2:=aI q2;have xc:=aI c0;have sT:=aa (fun (u:Growth wq)=>hso0 (ext wq u) (cF nG.out u));have rm:=aa (fun (u:Growth wq)=>show Below w.heap.size w (ext wq u)/\Has (ext wq u) gv [.int .i64 vw,.int .i64 vh,.slice (some ⟨b,off,none⟩) n lc,.int .i64 r,.int .i64 c,.bool pd,.bool au] 44 from ⟨cF nG.out u,HVW.out.below (cF (Below.refl wq.heap.size wq) u) HVW.out.lt⟩);clear hc0 pn hcv pj hb mC hso0
     by_cases qp:(nk:Int)=vw
     ·have d1:((nk:Int) != vw)=false:=by simp [qp]
      have d2:decide ((nk:Int)=vw)=true:=decide_eq_true qp;rw [d2,Bool.true_and] at r5
      cases hsb:aG Lk with
      |true =>
       rw [hsb] at r5 sT;clear hsb qp d2
       go_upto_region 6 with (fail)
       clear q0 q2 c0;refine aY (by kernel_rfl) (by kernel_rfl) ?_
       repeat (go_big_quiet_step ((first | (go_at_call 37;exact kg (sT.out _)))))
       refine wpQuiet_nil ?_;intro _ hw';obtain ⟨u,hw''⟩:=hw';subst hw'';have HE:=aa (And.intro (show ba vw Ls (k+1)=true from by rw [HLK2.out];exact r5.out) (rm.out u));clear x0 x2 xc;go_wp2
       go_roundw
       case rel=>exact ⟨k+1,by omega,by go_num,HE.out.1,HE.out.2.1,HE.out.2.2⟩
       case measure=>simp [intOf] <;> omega
      |false =>
       rw [hsb] at r5 sT;have sZ:=aa (show rv=false from by rw [HF.out];exact qn.out r5.out);clear hsb qp d2
       go_upto_region 6 with (fail)
       clear q0 q2 c0;refine aY (by kernel_rfl) (by kernel_rfl) ?_
       repeat (go_big_quiet_step ((first | (go_at_call 37;exact kg (sT.out _)))))
       refine wpQuiet_nil ?_;intro _ hw';obtain ⟨u,hw''⟩:=hw';subst hw'';have HE:=aa (rm.out u).1;clear x0 x2 xc;go_wp2;go_ret;rw [sZ.out];exact ⟨ae,HE.out⟩
     ·have d1:((nk:Int) != vw)=true:=by simp [qp]
      have d2:decide ((nk:Int)=vw)=false:=decide_eq_false qp;rw [d2,Bool.false_and] at r5;have sZ:=aa (show rv=false from by rw [HF.out];exact qn.out r5.out);clear qp d2
      go_upto_region 6 with (fail)
      clear q0 q2 c0;refine aY (by kernel_rfl) (by kernel_rfl) ?_
      repeat (go_big_quiet_step ((fail)))
      refine wpQuiet_nil ?_;intro _ hw';obtain ⟨u,hw''⟩:=hw';subst hw'';have HE:=aa (rm.out u).1;clear x0 x2 xc;go_wp2;go_ret;rw [sZ.out];exact ⟨ae,HE.out⟩
    ·obtain rfl:k=n:=by omega
     have HF3:=aa (show rv=true from by rw [HF.out,nu.out]);go_wp2;go_ret;rw [HF3.out];exact ⟨ae,nG.out⟩
end Go.Proofs.YtechjomepdahiaaDoor
