import Derived.Test.YthdphijabffpiaaDoorZ0
import Derived.Test.YthdphijabffpiaaDoorMg6
import Derived.Test.YthdphijabffpiaaDoorCellS
import Derived.Lib.MinMax
import Derived.Deep.Cut
set_option maxRecDepth 100000
set_option linter.unusedVariables false
set_option linter.unusedSimpArgs false
set_option maxHeartbeats 3000000
namespace Go.Proofs.YthdphijabffpiaaDoor
open Go.RowKit Go.ChangeShapes Go.WideShapes
theorem eU(L:List Cl)(i:Nat):aI L i=0↔bA L i=true:=by
 unfold aI
 by_cases h:aq (L.getD i zc)=false
 ·rw [if_pos h];refine ⟨fun e=>absurd e (by decide),fun e=>?_⟩;unfold bA at e;rw [h] at e
  simp at e
 ·rw [if_neg h]
  cases ho:bA L i with
  | true=>simp
  | false=>simp
theorem cM(L:List Cl):∀ k,al L k=[]↔bB L k=true
 |0=>by simp [al,bB]
 |k+1=>by
  have h1:aQ L k=[]↔bA L k=true:=by
   rw [<-eU];unfold aQ
   by_cases h:aI L k=0
   ·simp [h]
   ·simp [h]
  rw [aR,cF,List.append_eq_nil_iff,cM L k,h1,Bool.and_eq_true]
def a3(w:Int)(L:List Cl):Bool:=decide ((L.length:Int)=w) && aF L
theorem eF(w:Int)(L:List Cl):az w L=[]↔a3 w L=true:=by
 unfold az a3 dI;rw [List.append_eq_nil_iff,cM,<-cG,Bool.and_eq_true,decide_eq_true_eq]
 by_cases h:(L.length:Int)=w
 ·simp [h]
 ·simp [h]
def aA(w:Int)(Ls:List Ln)(k:Nat):Bool:=(List.range k).all fun i=>a3 w (Ls.getD i zl).1
theorem bg(w:Int)(Ls:List Ln)(k:Nat):aA w Ls (k+1)=(aA w Ls k && a3 w (Ls.getD k zl).1):=by
 unfold aA;rw [List.range_succ,List.all_append]
 simp
theorem b8{w:Int}{Ls:List Ln}{k n:Nat}(hk:k<n)(h:a3 w (Ls.getD k zl).1=false):aA w Ls n=false:=by
 unfold aA;rw [List.all_eq_false];exact ⟨k,List.mem_range.2 hk,by rw [h];decide⟩
theorem cN(w:Int)(Ls:List Ln):∀ k,am w Ls k=[]↔aA w Ls k=true
 |0=>by simp [am,aA]
 |k+1=>by
  rw [aJ,bg,List.append_eq_nil_iff,cN w Ls k,Bool.and_eq_true,<-eF];have:bj k (az w (Ls.getD k zl).1)=[]↔az w (Ls.getD k zl).1=[]:=by unfold bj;simp
  rw [this]
theorem dl(v:Vw):aN v=(aj v.w && aj v.h && (v.h == (v.L.length:Int)) && ai v.r v.c v.pd v.w v.h && aA v.w v.L v.L.length):=by
 have key:aN v=true↔(aj v.w && aj v.h && (v.h == (v.L.length:Int)) && ai v.r v.c v.pd v.w v.h && aA v.w v.L v.L.length)=true:=by
  unfold aN aH;rw [List.isEmpty_iff,List.append_eq_nil_iff,List.append_eq_nil_iff,cN];simp only [Bool.and_eq_true,beq_iff_eq];unfold ch bh
  by_cases h1:aj v.w=true/\aj v.h=true/\v.h=(v.L.length:Int)
  ·by_cases h2:ai v.r v.c v.pd v.w v.h=true
   ·rw [if_pos h1,if_pos h2];exact ⟨fun h=>⟨⟨⟨⟨h1.1,h1.2.1⟩,h1.2.2⟩,h2⟩,h.1.2⟩,fun h=>⟨⟨rfl,h.2⟩,rfl⟩⟩
   ·rw [if_neg h2];exact ⟨fun h=>absurd h.2 (by simp),fun h=>absurd h.1.2 h2⟩
  ·rw [if_neg h1];constructor
   ·intro h;exact absurd h.1.1 (by simp)
   ·intro h;exact absurd ⟨h.1.1.1.1,h.1.1.1.2,h.1.1.2⟩ h1
 exact Bool.eq_iff_iff.2 key
theorem cO(n:Int)(w:World):Calls Tryd.prog 54 #[.int .i64 n] w (fun e w'=>e=.returned (.bool (aj n))/\w=w'):=by
 by_cases h1:1<=n
 ·have d1:decide (1<=n)=true:=decide_eq_true h1
  by_cases h2:n<=1024
  ·have d2:decide (n<=1024)=true:=decide_eq_true h2;rw [show aj n=true from by unfold aj;rw [d1,d2];rfl]
   go_enter Tryd.func54,Tryd.ntmps54
   go_wp2;go_ret;exact ⟨ae,rfl⟩
  ·have d2:decide (n<=1024)=false:=decide_eq_false h2;rw [show aj n=false from by unfold aj;rw [d1,d2];rfl]
   go_enter Tryd.func54,Tryd.ntmps54
   go_wp2;go_ret;exact ⟨ae,rfl⟩
 ·have d1:decide (1<=n)=false:=decide_eq_false h1;rw [show aj n=false from by unfold aj;rw [d1];rfl]
  go_enter Tryd.func54,Tryd.ntmps54
  go_wp2;go_ret;exact ⟨ae,rfl⟩
theorem dG(v:Vw)(lv:Value)(w:World)(hv:ViewAt w v lv):Calls Tryd.prog 19 #[a6 v lv] w (Gives w (.bool (aN v))):=by
 obtain ⟨vw,vh,Ls,r,c,pd,au⟩:=v;obtain ⟨fh,w0,w1,h0,h1⟩:=hv;simp only at fh w0 w1 h0 h1;have iD:=fh.max;have fX:=dl ⟨vw,vh,Ls,r,c,pd,au⟩;simp only at fX;obtain ⟨rv,gE⟩:=ab (aN ⟨vw,vh,Ls,r,c,pd,au⟩);rw [<-gE] at fX ⊢;unfold a6;simp only;obtain ⟨lo,lc,rfl⟩:=fh.len;have hlc:=(aK fh).2.1;have fS:=aa (aK fh).2.2;have gG:=aa (fun (w':World)=>cu r c pd vw vh w');obtain ⟨n,hn⟩:=ab (Ls.length);have fx:=aa hn;have g5:=aa fX;rw [<-hn] at hlc iD fS g5 ⊢;obtain ⟨W1,hW1⟩:=ab (w.alloc (.cells [Value.int .i64 vw,.int .i64 vh,.slice lo n lc,.int .i64 r,.int .i64 c,.bool pd,.bool au].toArray 26));obtain ⟨gv,fH⟩:=ab (w.heap.size);have hb1:Below w.heap.size w W1:=by rw [hW1];exact af _ _
 have fo:Has W1 gv [.int .i64 vw,.int .i64 vh,.slice lo n lc,.int .i64 r,.int .i64 c,.bool pd,.bool au] 26:=by rw [hW1,fH];exact Has.new w _ _
 have HV:=aa fo;have HB:=aa hb1;have fj:w.alloc (.cells #[Value.int .i64 vw,.int .i64 vh,.slice lo n lc,.int .i64 r,.int .i64 c,.bool pd,.bool au] 26)=W1:=hW1.symm;have g9:=aa fH;clear hW1 hb1 fo fH hn fX gE fh;have fM:=aa (fun (w':World)=>cO vw w');have gm:=aa (fun (w':World)=>cO vh w');obtain ⟨bad,fc⟩ : ∃ bad,bad = !(aj vw && aj vh && (vh == (n:Int))):=⟨_,rfl⟩;have fa:=aa fc;clear fc
 go_enter Tryd.func19,Tryd.ntmps19
 go_upto_region 1 with (fail)
 rw [<-g9.out];clear fj
 go_cut [22] from 5 to 22 (fun tv wx=>tv=.bool bad/\wx=W1)
 case first =>
  have q0:=HV.out.cell 0 _ rfl;have q1:=HV.out.cell 1 _ rfl;have q2:=HV.out.cell 2 _ rfl
  cases hs1:aj vw with
  |false =>
   rw [hs1] at fM fa;have fd:=aa (show bad=true from by rw [fa.out];rfl);clear hs1
   go_wp2_with fail
   refine (fM.out _).mono ?_;rintro e w' ⟨rfl,rfl⟩
   go_wp2_with fail
   go_meet;exact ⟨by rw [fd.out],rfl⟩
  |true =>
   rw [hs1] at fM fa
   cases hs2:aj vh with
   |false =>
    rw [hs2] at gm fa;have fd:=aa (show bad=true from by rw [fa.out];rfl);clear hs1 hs2
    go_wp2_with fail
    refine (fM.out _).mono ?_;rintro e w' ⟨rfl,rfl⟩
    go_wp2_with fail
    refine (gm.out _).mono ?_;rintro e w' ⟨rfl,rfl⟩
    go_wp2_with fail
    go_meet;exact ⟨by rw [fd.out],rfl⟩
   |true =>
    rw [hs2] at gm fa;have fd:=aa (show bad=((n:Int) != vh) from by rw [fa.out];simp [bne,Bool.beq_comm]);clear hs1 hs2
    go_wp2_with fail
    refine (fM.out _).mono ?_;rintro e w' ⟨rfl,rfl⟩
    go_wp2_with fail
    refine (gm.out _).mono ?_;rintro e w' ⟨rfl,rfl⟩
    go_wp2_with fail
    go_meet;exact ⟨by rw [fd.out],rfl⟩
 case rest =>
  obtain ⟨rfl,hwc⟩:=hcut;subst wc
  cases hbd:bad with
  |true =>
   have HF:=aa (show rv=false from by
    have h:=fa.out;rw [hbd] at h;rw [g5.out];have h2:(aj vw && aj vh && (vh == (n:Int)))=false:=by
     cases hx:(aj vw && aj vh && (vh == (n:Int))) with
     |true=>rw [hx] at h;cases h
     |false=>rfl
    rw [h2]
    rfl)
   clear hbd;go_wp2;go_ret;rw [HF.out];exact ⟨ae,HB.out⟩
  |false =>
   have HF:=aa (show rv=(ai r c pd vw vh && aA vw Ls n) from by
    have h:=fa.out;rw [hbd] at h;rw [g5.out];have h2:(aj vw && aj vh && (vh == (n:Int)))=true:=by simpa using h.symm
    rw [h2,Bool.true_and])
   clear hbd
   go_upto_region 3 with (fail)
   have q2:=HV.out.cell 2 _ rfl;go_wp2
   go_loopw [26] (fun iv wr=>∃ k:Nat,k<=n/\iv=.int .i64 k/\aA vw Ls k=true/\Below w.heap.size w wr/\Has wr gv [.int .i64 vw,.int .i64 vh,.slice lo n lc,.int .i64 r,.int .i64 c,.bool pd,.bool au] 26) (fun iv _=>n - (intOf iv).toNat)
   case atStart=>exact ⟨0,Nat.zero_le _,rfl,rfl,HB.out,HV.out⟩
   case round =>
    obtain ⟨k,hk,rfl,fK,hb,fv⟩:=hrel;obtain ⟨wq,fO⟩:=ab (wr);subst fO;have fQ:=aa fK;have fb:=aa hb;have fr:=aa fv;clear fK hb fv q2
    by_cases hlt:k<n
    ·obtain ⟨b,off,cv,eo,hb,_,hc0,hc1,hcv⟩:=fS.out k hlt;subst eo;have c0:=(fb.out.cell (p:=⟨b,off+k * 2,none⟩) hb).trans hc0;have c1:=(fb.out.cell (p:=⟨b,off+k * 2+1,none⟩) hb).trans hc1;have fp:=bg vw Ls k;have g6:=aa (fun (h:a3 vw (Ls.getD k zl).1=false)=>b8 hlt h);obtain ⟨Lk,fD⟩:=ab ((Ls.getD k zl).1);obtain ⟨bk,gI⟩:=ab ((Ls.getD k zl).2);rw [<-gI] at c1;rw [<-fD] at hcv fp g6;rw [fQ.out,Bool.true_and] at fp;have gY:=aa fp;obtain ⟨co,cc,ecv⟩:=hcv.len;obtain ⟨nk,fA⟩:=ab (Lk.length);rw [<-fA] at ecv;subst ecv;have HSO:=aa (fun (w':World) (h:Below w.heap.size w w')=>d6 _ _ Lk w' (hcv.below h));have fF:=aa (show a3 vw Lk=(decide ((nk:Int)=vw) && aF Lk) from by unfold a3;rw [<-fA]);have gx:(k:Int)<(n:Int):=by omega
     have gH:IntKind.i64.wrap ((k:Int)+1)=(k:Int)+1:=by rw [IntKind.wrap_i64];omega
     have gy:k<lc:=by omega
     obtain ⟨W5,fC⟩:=ab (wq.alloc (.cells [Value.slice co nk cc,.bool bk].toArray 30));obtain ⟨fi,fR⟩:=ab (wq.heap.size);have fm:Below wq.heap.size wq W5:=by rw [fC];exact af _ _
     have gL:Has W5 fi [.slice co nk cc,.bool bk] 30:=by rw [fC,fR];exact Has.new wq _ _
     have iA:=aa gL;have fw:=aa (fb.out.trans (fm.mono fb.out.size));have jm:=aa (fr.out.below fm fr.out.lt);have f9:wq.alloc (.cells #[Value.slice co nk cc,.bool bk] 30)=W5:=fC.symm;have gn:=fR.symm;clear hc0 hc1 fD gI hcv fA hb fC fR fm gL fp
     go_upto_region 6 with (fail)
     clear f9 gn;have q0:=jm.out.cell 0 _ rfl;have q1:=iA.out.cell 0 _ rfl;clear c0 c1
     by_cases hnw:(nk:Int)=vw
     ·have d1:((nk:Int) != vw)=false:=by simp [hnw]
      have d2:decide ((nk:Int)=vw)=true:=decide_eq_true hnw;rw [d2,Bool.true_and] at fF;have ib:=HSO.out W5 fw.out
      cases hsb:aF Lk with
      |true =>
       rw [hsb] at fF ib;have iJ:=aa ib;clear ib hsb hnw d2
       go_wp2_with fail
       refine iJ.out.mono ?_;rintro e w6 ⟨rfl,b6⟩;have HE:=aa (show aA vw Ls (k+1)=true/\Below w.heap.size w w6/\Has w6 gv [.int .i64 vw,.int .i64 vh,.slice (some ⟨b,off,none⟩) n lc,.int .i64 r,.int .i64 c,.bool pd,.bool au] 26 from ⟨by rw [gY.out];exact fF.out,fw.out.trans (b6.mono fw.out.size),jm.out.below b6 jm.out.lt⟩);clear b6 q0 q1 iJ;go_wp2
       go_roundw
       case rel=>exact ⟨k+1,by omega,by go_num,HE.out.1,HE.out.2.1,HE.out.2.2⟩
       case measure=>simp [intOf] <;> omega
      |false =>
       rw [hsb] at fF ib;have iJ:=aa ib;have gN:=aa (show rv=false from by rw [HF.out,g6.out fF.out,Bool.and_false]);clear ib hsb hnw d2
       go_wp2_with fail
       refine iJ.out.mono ?_;rintro e w6 ⟨rfl,b6⟩;have HE:=aa (fw.out.trans (b6.mono fw.out.size));clear b6 q0 q1 iJ;go_wp2;go_ret;rw [gN.out];exact ⟨ae,HE.out⟩
     ·have d1:((nk:Int) != vw)=true:=by simp [hnw]
      have d2:decide ((nk:Int)=vw)=false:=decide_eq_false hnw;rw [d2,Bool.false_and] at fF;have gN:=aa (show rv=false from by rw [HF.out,g6.out fF.out,Bool.and_false]);clear hnw d2;go_wp2;go_ret;rw [gN.out];exact ⟨ae,fw.out⟩
    ·obtain rfl:k=n:=by omega
     have fu:=aa (gG.out wq);have ji:=aa (show rv=ai r c pd vw vh from by rw [HF.out,fQ.out,Bool.and_true]);have q0:=fr.out.cell 0 _ rfl;have q1:=fr.out.cell 1 _ rfl;have q3:=fr.out.cell 3 _ rfl;have q4:=fr.out.cell 4 _ rfl;have q5:=fr.out.cell 5 _ rfl
     go_wp2_with fail
     refine fu.out.mono ?_;rintro e w6 ⟨rfl,b6⟩;have HE:=aa (fb.out.trans (b6.mono fb.out.size));clear b6 q0 q1 q3 q4 q5 fu;go_wp2;go_ret;rw [ji.out];exact ⟨ae,HE.out⟩
theorem c3(v:Vw)(lv:Value)(w:World)(hv:ViewAt w v lv):Calls Tryd.prog 18 #[a6 v lv] w (Gives w (.bool (aN v))):=by
 obtain ⟨vw,vh,Ls,r,c,pd,au⟩:=v;obtain ⟨fh,w0,w1,h0,h1⟩:=hv;simp only at fh w0 w1 h0 h1;have iD:=fh.max;have fX:=dl ⟨vw,vh,Ls,r,c,pd,au⟩;simp only at fX;obtain ⟨rv,gE⟩:=ab (aN ⟨vw,vh,Ls,r,c,pd,au⟩);rw [<-gE] at fX ⊢;unfold a6;simp only;obtain ⟨lo,lc,rfl⟩:=fh.len;have hlc:=(aK fh).2.1;have fS:=aa (aK fh).2.2;have gG:=aa (fun (w':World)=>dj r c pd vw vh w');obtain ⟨n,hn⟩:=ab (Ls.length);have fx:=aa hn;have g5:=aa fX;rw [<-hn] at hlc iD fS g5 ⊢;obtain ⟨W1,hW1⟩:=ab (w.alloc (.cells [Value.int .i64 vw,.int .i64 vh,.slice lo n lc,.int .i64 r,.int .i64 c,.bool pd,.bool au].toArray 26));obtain ⟨gv,fH⟩:=ab (w.heap.size);have hb1:Below w.heap.size w W1:=by rw [hW1];exact af _ _
 have fo:Has W1 gv [.int .i64 vw,.int .i64 vh,.slice lo n lc,.int .i64 r,.int .i64 c,.bool pd,.bool au] 26:=by rw [hW1,fH];exact Has.new w _ _
 have HV:=aa fo;have HB:=aa hb1;have fj:w.alloc (.cells #[Value.int .i64 vw,.int .i64 vh,.slice lo n lc,.int .i64 r,.int .i64 c,.bool pd,.bool au] 26)=W1:=hW1.symm;have g9:=aa fH;clear hW1 hb1 fo fH hn fX gE fh;obtain ⟨bad,fc⟩ : ∃ bad,bad = !(aj vw && aj vh && (vh == (n:Int)) && ai r c pd vw vh):=⟨_,rfl⟩;have fa:=aa fc;clear fc
 go_enter Tryd.func18,Tryd.ntmps18
 go_upto_region 1 with (fail)
 rw [<-g9.out];clear fj
 go_cut [39] from 4 to 39 (fun tv wx=>tv=.bool bad/\Below W1.heap.size W1 wx)
 case first =>
  have hB:=Below.refl W1.heap.size W1;have q0:=HV.out.cell 0 _ rfl;have q1:=HV.out.cell 1 _ rfl;have q2:=HV.out.cell 2 _ rfl;have q3:=HV.out.cell 3 _ rfl;have q4:=HV.out.cell 4 _ rfl;have q5:=HV.out.cell 5 _ rfl
  by_cases t1:vh=(n:Int)
  ·have d1:(vh != (n:Int))=false:=by simp [t1]
   by_cases t2:vh<1
   ·have d2:decide (vh<1)=true:=decide_eq_true t2;have fd:=aa (show bad=true from by rw [fa.out,show aj vh=false from by unfold aj;rw [show decide (1<=vh)=false from decide_eq_false (by omega)];rfl];simp);clear t1 t2
    go_wp2_with fail
    go_meet;exact ⟨by rw [fd.out],hB⟩
   ·have d2:decide (vh<1)=false:=decide_eq_false t2
    by_cases t3:1024<vh
    ·have d3:decide (1024<vh)=true:=decide_eq_true t3;have fd:=aa (show bad=true from by rw [fa.out,show aj vh=false from by unfold aj;rw [show decide (vh<=1024)=false from decide_eq_false (by omega),Bool.and_false]];simp);clear t1 t2 t3
     go_wp2_with fail
     go_meet;exact ⟨by rw [fd.out],hB⟩
    ·have d3:decide (1024<vh)=false:=decide_eq_false t3;have HSH:=aa (show aj vh=true from by unfold aj;rw [show decide (1<=vh)=true from decide_eq_true (by omega),show decide (vh<=1024)=true from decide_eq_true (by omega)];rfl)
     by_cases t4:vw<1
     ·have d4:decide (vw<1)=true:=decide_eq_true t4;have fd:=aa (show bad=true from by rw [fa.out,show aj vw=false from by unfold aj;rw [show decide (1<=vw)=false from decide_eq_false (by omega)];rfl];simp);clear t1 t2 t3 t4
      go_wp2_with fail
      go_meet;exact ⟨by rw [fd.out],hB⟩
     ·have d4:decide (vw<1)=false:=decide_eq_false t4
      by_cases t5:1024<vw
      ·have d5:decide (1024<vw)=true:=decide_eq_true t5;have fd:=aa (show bad=true from by rw [fa.out,show aj vw=false from by unfold aj;rw [show decide (vw<=1024)=false from decide_eq_false (by omega),Bool.and_false]];simp);clear t1 t2 t3 t4 t5
       go_wp2_with fail
       go_meet;exact ⟨by rw [fd.out],hB⟩
      ·have d5:decide (1024<vw)=false:=decide_eq_false t5;have fd:=aa (show bad = !ai r c pd vw vh from by rw [fa.out,HSH.out,show aj vw=true from by unfold aj;rw [show decide (1<=vw)=true from decide_eq_true (by omega),show decide (vw<=1024)=true from decide_eq_true (by omega)];rfl,show (vh == (n:Int))=true from by simp [t1]];simp);clear t1 t2 t3 t4 t5
       go_wp2_with fail
       refine (gG.out W1).mono ?_;rintro e w6 ⟨rfl,b6⟩
       go_wp2_with fail
       go_meet;exact ⟨by rw [fd.out],b6⟩
  ·have d1:(vh != (n:Int))=true:=by simp [t1]
   have fd:=aa (show bad=true from by rw [fa.out,show (vh == (n:Int))=false from by simp [t1]];simp);clear t1
   go_wp2_with fail
   go_meet;exact ⟨by rw [fd.out],hB⟩
 case rest =>
  obtain ⟨rfl,ju⟩:=hcut;have HVC:=aa (HV.out.below ju HV.out.lt);have HBC:=aa (HB.out.trans (ju.mono HB.out.size));clear ju
  cases hbd:bad with
  |true =>
   have HF:=aa (show rv=false from by
    have h:=fa.out;rw [hbd] at h;rw [g5.out];have h2:(aj vw && aj vh && (vh == (n:Int)) && ai r c pd vw vh)=false:=by
     cases hx:(aj vw && aj vh && (vh == (n:Int)) && ai r c pd vw vh) with
     |true=>rw [hx] at h;cases h
     |false=>rfl
    rw [h2]
    rfl)
   clear hbd;go_wp2;go_ret;rw [HF.out];exact ⟨ae,HBC.out⟩
  |false =>
   have HF:=aa (show rv=aA vw Ls n from by
    have h:=fa.out;rw [hbd] at h;rw [g5.out];have h2:(aj vw && aj vh && (vh == (n:Int)) && ai r c pd vw vh)=true:=by simpa using h.symm
    rw [h2,Bool.true_and])
   clear hbd
   go_upto_region 3 with (fail)
   go_wp2
   go_loopw [3] (fun iv wr=>∃ k:Nat,k<=n/\iv=.int .i64 k/\aA vw Ls k=true/\Below w.heap.size w wr/\Has wr gv [.int .i64 vw,.int .i64 vh,.slice lo n lc,.int .i64 r,.int .i64 c,.bool pd,.bool au] 26) (fun iv _=>n - (intOf iv).toNat)
   case atStart=>exact ⟨0,Nat.zero_le _,rfl,rfl,HBC.out,HVC.out⟩
   case round =>
    obtain ⟨k,hk,rfl,fK,hb,fv⟩:=hrel;obtain ⟨wq,fO⟩:=ab (wr);subst fO;have fQ:=aa fK;have fb:=aa hb;have fr:=aa fv;have q0:=fv.cell 0 _ rfl;have q2:=fv.cell 2 _ rfl;clear fK hb fv
    by_cases hlt:k<n
    ·obtain ⟨b,off,cv,eo,hb,_,hc0,hc1,hcv⟩:=fS.out k hlt;subst eo;have c0:=(fb.out.cell (p:=⟨b,off+k * 2,none⟩) hb).trans hc0;have fp:=bg vw Ls k;have g6:=aa (fun (h:a3 vw (Ls.getD k zl).1=false)=>b8 hlt h);obtain ⟨Lk,fD⟩:=ab ((Ls.getD k zl).1);rw [<-fD] at hcv fp g6;rw [fQ.out,Bool.true_and] at fp;have gY:=aa fp;obtain ⟨co,cc,ecv⟩:=hcv.len;obtain ⟨nk,fA⟩:=ab (Lk.length);rw [<-fA] at ecv;subst ecv;have hso0:∀ w',Below w.heap.size w w'->Calls Tryd.prog 32 #[.slice co nk cc] w' (Gives w' (.bool (aF Lk))):=fun w' h=>by rw [cG];exact dC _ _ Lk w' (hcv.below h)
     have fF:=aa (show a3 vw Lk=(decide ((nk:Int)=vw) && aF Lk) from by unfold a3;rw [<-fA]);have gx:(k:Int)<(n:Int):=by omega
     have gH:IntKind.i64.wrap ((k:Int)+1)=(k:Int)+1:=by rw [IntKind.wrap_i64];omega
     have gy:k<lc:=by omega
     have x0:=an q0;have x2:=an q2;have xc:=an c0;have iW:=aa (fun (u:Growth wq)=>hso0 (ext wq u) (aD fb.out u));have fU:=aa (fun (u:Growth wq)=>show Below w.heap.size w (ext wq u)/\Has (ext wq u) gv [.int .i64 vw,.int .i64 vh,.slice (some ⟨b,off,none⟩) n lc,.int .i64 r,.int .i64 c,.bool pd,.bool au] 26 from ⟨aD fb.out u,fr.out.below (aD (Below.refl wq.heap.size wq) u) fr.out.lt⟩);clear hc0 fD hcv fA hb fp hso0
     by_cases hnw:(nk:Int)=vw
     ·have d1:((nk:Int) != vw)=false:=by simp [hnw]
      have d2:decide ((nk:Int)=vw)=true:=decide_eq_true hnw;rw [d2,Bool.true_and] at fF
      cases hsb:aF Lk with
      |true =>
       rw [hsb] at fF iW;clear hsb hnw d2
       go_upto_region 6 with (fail)
       clear q0 q2 c0;refine aC (by kernel_rfl) (by kernel_rfl) ?_
       repeat (go_big_quiet_step ((first | (go_at_call 32;exact cK (iW.out _)))))
       refine wpQuiet_nil ?_;intro _ hw';obtain ⟨u,hw''⟩:=hw';subst hw'';have HE:=aa (And.intro (show aA vw Ls (k+1)=true from by rw [gY.out];exact fF.out) (fU.out u));clear x0 x2 xc;go_wp2
       go_roundw
       case rel=>exact ⟨k+1,by omega,by go_num,HE.out.1,HE.out.2.1,HE.out.2.2⟩
       case measure=>simp [intOf] <;> omega
      |false =>
       rw [hsb] at fF iW;have gN:=aa (show rv=false from by rw [HF.out];exact g6.out fF.out);clear hsb hnw d2
       go_upto_region 6 with (fail)
       clear q0 q2 c0;refine aC (by kernel_rfl) (by kernel_rfl) ?_
       repeat (go_big_quiet_step ((first | (go_at_call 32;exact cK (iW.out _)))))
       refine wpQuiet_nil ?_;intro _ hw';obtain ⟨u,hw''⟩:=hw';subst hw'';have HE:=aa (fU.out u).1;clear x0 x2 xc;go_wp2;go_ret;rw [gN.out];exact ⟨ae,HE.out⟩
     ·have d1:((nk:Int) != vw)=true:=by simp [hnw]
      have d2:decide ((nk:Int)=vw)=false:=decide_eq_false hnw;rw [d2,Bool.false_and] at fF;have gN:=aa (show rv=false from by rw [HF.out];exact g6.out fF.out);clear hnw d2
      go_upto_region 6 with (fail)
      clear q0 q2 c0;refine aC (by kernel_rfl) (by kernel_rfl) ?_
      repeat (go_big_quiet_step ((fail)))
      refine wpQuiet_nil ?_;intro _ hw';obtain ⟨u,hw''⟩:=hw';subst hw'';have HE:=aa (fU.out u).1;clear x0 x2 xc;go_wp2;go_ret;rw [gN.out];exact ⟨ae,HE.out⟩
    ·obtain rfl:k=n:=by omega
     have ji:=aa (show rv=true from by rw [HF.out,fQ.out]);go_wp2;go_ret;rw [ji.out];exact ⟨ae,fb.out⟩
end Go.Proofs.YthdphijabffpiaaDoor
