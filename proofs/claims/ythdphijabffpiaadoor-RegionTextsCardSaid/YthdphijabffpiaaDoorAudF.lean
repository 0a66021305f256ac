import Derived.Test.YthdphijabffpiaaDoorZ0
import Derived.Test.YthdphijabffpiaaDoorAudE
import Derived.Test.YthdphijabffpiaaDoorCellS
import Derived.Lib.MinMax
import Derived.Deep.Cut
set_option maxRecDepth 100000
set_option linter.unusedVariables false
set_option linter.unusedSimpArgs false
set_option maxHeartbeats 3000000
namespace Go.Proofs.YthdphijabffpiaaDoor
open Go.RowKit Go.ChangeShapes Go.WideShapes
theorem fZ(L:List Cl)(i:Nat):aR L i=0↔bA L i=true:=by
 unfold aR
 by_cases h:ar (L.getD i zc)=false
 ·rw [if_pos h];refine ⟨fun e=>absurd e (by decide),fun e=>?_⟩;unfold bA at e;rw [h] at e
  simp at e
 ·rw [if_neg h]
  cases ho:bA L i with
  | true=>simp
  | false=>simp
theorem cE(L:List Cl):∀ k,am L k=[]↔a9 L k=true
 |0=>by simp [am,a9]
 |k+1=>by
  have h1:bd L k=[]↔bA L k=true:=by
   rw [<-fZ];unfold bd
   by_cases h:aR L k=0
   ·simp [h]
   ·simp [h]
  rw [be,dj,List.append_eq_nil_iff,cE L k,h1,Bool.and_eq_true]
def bg(w:Int)(L:List Cl):Bool:=decide ((L.length:Int)=w) && bV L
theorem dS(w:Int)(L:List Cl):aF w L=[]↔bg w L=true:=by
 unfold aF bg eO;rw [List.append_eq_nil_iff,cE,<-dk,Bool.and_eq_true,decide_eq_true_eq]
 by_cases h:(L.length:Int)=w
 ·simp [h]
 ·simp [h]
def aO(w:Int)(Ls:List Ln)(k:Nat):Bool:=(List.range k).all fun i=>bg w (Ls.getD i zl).1
theorem cu(w:Int)(Ls:List Ln)(k:Nat):aO w Ls (k+1)=(aO w Ls k && bg w (Ls.getD k zl).1):=by
 unfold aO;rw [List.range_succ,List.all_append]
 simp
theorem cL{w:Int}{Ls:List Ln}{k n:Nat}(hk:k<n)(h:bg w (Ls.getD k zl).1=false):aO w Ls n=false:=by
 unfold aO;rw [List.all_eq_false];exact ⟨k,List.mem_range.2 hk,by rw [h];decide⟩
theorem dl(w:Int)(Ls:List Ln):∀ k,ap w Ls k=[]↔aO w Ls k=true
 |0=>by simp [ap,aO]
 |k+1=>by
  rw [aV,cu,List.append_eq_nil_iff,dl w Ls k,Bool.and_eq_true,<-dS];have:bO k (aF w (Ls.getD k zl).1)=[]↔aF w (Ls.getD k zl).1=[]:=by unfold bO;simp
  rw [this]
theorem dT(v:Vw):az v=(aq v.w && aq v.h && (v.h == (v.L.length:Int)) && aj v.r v.c v.pd v.w v.h && aO v.w v.L v.L.length):=by
 have key:az v=true↔(aq v.w && aq v.h && (v.h == (v.L.length:Int)) && aj v.r v.c v.pd v.w v.h && aO v.w v.L v.L.length)=true:=by
  unfold az aY;rw [List.isEmpty_iff,List.append_eq_nil_iff,List.append_eq_nil_iff,dl];simp only [Bool.and_eq_true,beq_iff_eq];unfold c6 bM
  by_cases h1:aq v.w=true/\aq v.h=true/\v.h=(v.L.length:Int)
  ·by_cases h2:aj v.r v.c v.pd v.w v.h=true
   ·rw [if_pos h1,if_pos h2];exact ⟨fun h=>⟨⟨⟨⟨h1.1,h1.2.1⟩,h1.2.2⟩,h2⟩,h.1.2⟩,fun h=>⟨⟨rfl,h.2⟩,rfl⟩⟩
   ·rw [if_neg h2];exact ⟨fun h=>absurd h.2 (by simp),fun h=>absurd h.1.2 h2⟩
  ·rw [if_neg h1];constructor
   ·intro h;exact absurd h.1.1 (by simp)
   ·intro h;exact absurd ⟨h.1.1.1.1,h.1.1.1.2,h.1.1.2⟩ h1
 exact Bool.eq_iff_iff.2 key
theorem dC(v:Vw)(lv:Value)(w:World)(hv:ViewAt w v lv):Calls Tryd.prog 18 #[aE v lv] w (Gives w (.bool (az v))):=by
 obtain ⟨vw,vh,Ls,r,c,pd,au⟩:=v;obtain ⟨iM,w0,w1,h0,h1⟩:=hv;simp only at iM w0 w1 h0 h1;have lQ:=iM.max;have lg:=dT ⟨vw,vh,Ls,r,c,pd,au⟩;simp only at lg;obtain ⟨rv,hrv⟩:=ab (az ⟨vw,vh,Ls,r,c,pd,au⟩);rw [<-hrv] at lg ⊢;unfold aE;simp only;obtain ⟨lo,lc,rfl⟩:=iM.len;have hlc:=(aJ iM).2.1;have i9:=aa (aJ iM).2.2;have lB:=aa (fun (w':World)=>ee r c pd vw vh w');obtain ⟨n,hn⟩:=ab (Ls.length);have iL:=aa hn;have lw:=aa lg;rw [<-hn] at hlc lQ i9 lw ⊢;obtain ⟨W1,hW1⟩:=ab (w.alloc (.cells [Value.int .i64 vw,.int .i64 vh,.slice lo n lc,.int .i64 r,.int .i64 c,.bool pd,.bool au].toArray 26));obtain ⟨gv,iI⟩:=ab (w.heap.size);have hb1:Below w.heap.size w W1:=by rw [hW1];exact af _ _
 have iz:Has W1 gv [.int .i64 vw,.int .i64 vh,.slice lo n lc,.int .i64 r,.int .i64 c,.bool pd,.bool au] 26:=by rw [hW1,iI];exact Has.new w _ _
 have HV:=aa iz;have HB:=aa hb1;have iG:w.alloc (.cells #[Value.int .i64 vw,.int .i64 vh,.slice lo n lc,.int .i64 r,.int .i64 c,.bool pd,.bool au] 26)=W1:=hW1.symm;have jS:=aa iI;clear hW1 hb1 iz iI hn lg hrv iM;obtain ⟨bad,ii⟩ : ∃ bad,bad = !(aq vw && aq vh && (vh == (n:Int)) && aj r c pd vw vh):=⟨_,rfl⟩;have gL:=aa ii;clear ii
 go_enter Tryd.func18,Tryd.ntmps18
 go_upto_region 1 with (fail)
 rw [<-jS.out];clear iG
 go_cut [39] from 4 to 39 (fun tv wx=>tv=.bool bad/\Below W1.heap.size W1 wx)
 case first =>
  have hB:=Below.refl W1.heap.size W1;have q0:=HV.out.cell 0 _ rfl;have q1:=HV.out.cell 1 _ rfl;have q2:=HV.out.cell 2 _ rfl;have q3:=HV.out.cell 3 _ rfl;have q4:=HV.out.cell 4 _ rfl;have q5:=HV.out.cell 5 _ rfl
  by_cases t1:vh=(n:Int)
  ·have d1:(vh != (n:Int))=false:=by simp [t1]
   by_cases t2:vh<1
   ·have d2:decide (vh<1)=true:=decide_eq_true t2;have im:=aa (show bad=true from by rw [gL.out,show aq vh=false from by unfold aq;rw [show decide (1<=vh)=false from decide_eq_false (by omega)];rfl];simp);clear t1 t2
    go_wp2_with fail
    go_meet;exact ⟨by rw [im.out],hB⟩
   ·have d2:decide (vh<1)=false:=decide_eq_false t2
    by_cases t3:1024<vh
    ·have d3:decide (1024<vh)=true:=decide_eq_true t3;have im:=aa (show bad=true from by rw [gL.out,show aq vh=false from by unfold aq;rw [show decide (vh<=1024)=false from decide_eq_false (by omega),Bool.and_false]];simp);clear t1 t2 t3
     go_wp2_with fail
     go_meet;exact ⟨by rw [im.out],hB⟩
    ·have d3:decide (1024<vh)=false:=decide_eq_false t3;have HSH:=aa (show aq vh=true from by unfold aq;rw [show decide (1<=vh)=true from decide_eq_true (by omega),show decide (vh<=1024)=true from decide_eq_true (by omega)];rfl)
     by_cases t4:vw<1
     ·have d4:decide (vw<1)=true:=decide_eq_true t4;have im:=aa (show bad=true from by rw [gL.out,show aq vw=false from by unfold aq;rw [show decide (1<=vw)=false from decide_eq_false (by omega)];rfl];simp);clear t1 t2 t3 t4
      go_wp2_with fail
      go_meet;exact ⟨by rw [im.out],hB⟩
     ·have d4:decide (vw<1)=false:=decide_eq_false t4
      by_cases t5:1024<vw
      ·have d5:decide (1024<vw)=true:=decide_eq_true t5;have im:=aa (show bad=true from by rw [gL.out,show aq vw=false from by unfold aq;rw [show decide (vw<=1024)=false from decide_eq_false (by omega),Bool.and_false]];simp);clear t1 t2 t3 t4 t5
       go_wp2_with fail
       go_meet;exact ⟨by rw [im.out],hB⟩
      ·have d5:decide (1024<vw)=false:=decide_eq_false t5;have im:=aa (show bad = !aj r c pd vw vh from by rw [gL.out,HSH.out,show aq vw=true from by unfold aq;rw [show decide (1<=vw)=true from decide_eq_true (by omega),show decide (vw<=1024)=true from decide_eq_true (by omega)];rfl,show (vh == (n:Int))=true from by simp [t1]];simp);clear t1 t2 t3 t4 t5
       go_wp2_with fail
       refine (lB.out W1).mono ?_;rintro e w6 ⟨rfl,b6⟩
       go_wp2_with fail
       go_meet;exact ⟨by rw [im.out],b6⟩
  ·have d1:(vh != (n:Int))=true:=by simp [t1]
   have im:=aa (show bad=true from by rw [gL.out,show (vh == (n:Int))=false from by simp [t1]];simp);clear t1
   go_wp2_with fail
   go_meet;exact ⟨by rw [im.out],hB⟩
 case rest =>
  obtain ⟨rfl,m8⟩:=hcut;have HVC:=aa (HV.out.below m8 HV.out.lt);have HBC:=aa (HB.out.trans (m8.mono HB.out.size));clear m8
  cases hbd:bad with
  |true =>
   have HF:=aa (show rv=false from by
    have h:=gL.out;rw [hbd] at h;rw [lw.out];have h2:(aq vw && aq vh && (vh == (n:Int)) && aj r c pd vw vh)=false:=by
     cases hx:(aq vw && aq vh && (vh == (n:Int)) && aj r c pd vw vh) with
     |true=>rw [hx] at h;cases h
     |false=>rfl
    rw [h2]
    rfl)
   clear hbd;go_wp2;go_ret;rw [HF.out];exact ⟨ae,HBC.out⟩
  |false =>
   have HF:=aa (show rv=aO vw Ls n from by
    have h:=gL.out;rw [hbd] at h;rw [lw.out];have h2:(aq vw && aq vh && (vh == (n:Int)) && aj r c pd vw vh)=true:=by simpa using h.symm
    rw [h2,Bool.true_and])
   clear hbd
   go_upto_region 3 with (fail)
   go_wp2
   go_loopw [3] (fun iv wr=>∃ k:Nat,k<=n/\iv=.int .i64 k/\aO vw Ls k=true/\Below w.heap.size w wr/\Has wr gv [.int .i64 vw,.int .i64 vh,.slice lo n lc,.int .i64 r,.int .i64 c,.bool pd,.bool au] 26) (fun iv _=>n - (intOf iv).toNat)
   case atStart=>exact ⟨0,Nat.zero_le _,rfl,rfl,HBC.out,HVC.out⟩
   case round =>
    obtain ⟨k,hk,rfl,gS,hb,iQ⟩:=hrel;obtain ⟨wq,iD⟩:=ab (wr);subst iD;have jU:=aa gS;have hZ:=aa hb;have nB:=aa iQ;have q0:=iQ.cell 0 _ rfl;have q2:=iQ.cell 2 _ rfl;clear gS hb iQ
    by_cases hlt:k<n
    ·obtain ⟨b,off,cv,eo,hb,_,hc0,hc1,hcv⟩:=i9.out k hlt;subst eo;have c0:=(hZ.out.cell (p:=⟨b,off+k * 2,none⟩) hb).trans hc0;have iN:=cu vw Ls k;have nz:=aa (fun (h:bg vw (Ls.getD k zl).1=false)=>cL hlt h);obtain ⟨Lk,jz⟩:=ab ((Ls.getD k zl).1);rw [<-jz] at hcv iN nz;rw [jU.out,Bool.true_and] at iN;have HLK2:=aa iN;obtain ⟨co,cc,ecv⟩:=hcv.len;obtain ⟨nk,jy⟩:=ab (Lk.length);rw [<-jy] at ecv;subst ecv;have hso0:∀ w',Below w.heap.size w w'->Calls Tryd.prog 32 #[.slice co nk cc] w' (Gives w' (.bool (bV Lk))):=fun w' h=>by rw [dk];exact eG _ _ Lk w' (hcv.below h)
     have iE:=aa (show bg vw Lk=(decide ((nk:Int)=vw) && bV Lk) from by unfold bg;rw [<-jy]);have kd:(k:Int)<(n:Int):=by omega
     have kD:IntKind.i64.wrap ((k:Int)+1)=(k:Int)+1:=by rw [IntKind.wrap_i64];omega
     have ks:k<lc:=by omega
     have x0:=aC q0;have x2:=aC q2;have xc:=aC c0;have mB:=aa (fun (u:Growth wq)=>hso0 (ext wq u) (bF hZ.out u));have j0:=aa (fun (u:Growth wq)=>show Below w.heap.size w (ext wq u)/\Has (ext wq u) gv [.int .i64 vw,.int .i64 vh,.slice (some ⟨b,off,none⟩) n lc,.int .i64 r,.int .i64 c,.bool pd,.bool au] 26 from ⟨bF hZ.out u,nB.out.below (bF (Below.refl wq.heap.size wq) u) nB.out.lt⟩);clear hc0 jz hcv jy hb iN hso0
     by_cases hnw:(nk:Int)=vw
     ·have d1:((nk:Int) != vw)=false:=by simp [hnw]
      have d2:decide ((nk:Int)=vw)=true:=decide_eq_true hnw;rw [d2,Bool.true_and] at iE
      cases hsb:bV Lk with
      |true =>
       rw [hsb] at iE mB;clear hsb hnw d2
       go_upto_region 6 with (fail)
       clear q0 q2 c0;refine aS (by kernel_rfl) (by kernel_rfl) ?_
       repeat (go_big_quiet_step ((first | (go_at_call 32;exact fJ (mB.out _)))))
       refine wpQuiet_nil ?_;intro _ hw';obtain ⟨u,hw''⟩:=hw';subst hw'';have HE:=aa (And.intro (show aO vw Ls (k+1)=true from by rw [HLK2.out];exact iE.out) (j0.out u));clear x0 x2 xc;go_wp2
       go_roundw
       case rel=>exact ⟨k+1,by omega,by go_num,HE.out.1,HE.out.2.1,HE.out.2.2⟩
       case measure=>simp [intOf] <;> omega
      |false =>
       rw [hsb] at iE mB;have j1:=aa (show rv=false from by rw [HF.out];exact nz.out iE.out);clear hsb hnw d2
       go_upto_region 6 with (fail)
       clear q0 q2 c0;refine aS (by kernel_rfl) (by kernel_rfl) ?_
       repeat (go_big_quiet_step ((first | (go_at_call 32;exact fJ (mB.out _)))))
       refine wpQuiet_nil ?_;intro _ hw';obtain ⟨u,hw''⟩:=hw';subst hw'';have HE:=aa (j0.out u).1;clear x0 x2 xc;go_wp2;go_ret;rw [j1.out];exact ⟨ae,HE.out⟩
     ·have d1:((nk:Int) != vw)=true:=by simp [hnw]
      have d2:decide ((nk:Int)=vw)=false:=decide_eq_false hnw;rw [d2,Bool.false_and] at iE;have j1:=aa (show rv=false from by rw [HF.out];exact nz.out iE.out);clear hnw d2
      go_upto_region 6 with (fail)
      clear q0 q2 c0;refine aS (by kernel_rfl) (by kernel_rfl) ?_
      repeat (go_big_quiet_step ((fail)))
      refine wpQuiet_nil ?_;intro _ hw';obtain ⟨u,hw''⟩:=hw';subst hw'';have HE:=aa (j0.out u).1;clear x0 x2 xc;go_wp2;go_ret;rw [j1.out];exact ⟨ae,HE.out⟩
    ·obtain rfl:k=n:=by omega
     have HF3:=aa (show rv=true from by rw [HF.out,jU.out]);go_wp2;go_ret;rw [HF3.out];exact ⟨ae,hZ.out⟩
end Go.Proofs.YthdphijabffpiaaDoor
