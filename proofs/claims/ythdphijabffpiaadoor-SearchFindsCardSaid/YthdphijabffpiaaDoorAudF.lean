import Derived.Test.YthdphijabffpiaaDoorZ0
import Derived.Test.YthdphijabffpiaaDoorAudE
import Derived.Test.YthdphijabffpiaaDoorCellS
import Derived.Lib.MinMax
import Derived.Deep.Cut
set_option maxRecDepth 100000
set_option linter.unusedVariables false
set_option linter.unusedSimpArgs false
set_option maxHeartbeats 3000000
namespace Go.Proofs.YthdphijabffpiaaDoor
open Go.RowKit Go.ChangeShapes Go.WideShapes
theorem gE(L:List Cl)(i:Nat):aY L i=0↔bH L i=true:=by
 unfold aY
 by_cases h:aw (L.getD i zc)=false
 ·rw [if_pos h];refine ⟨fun e=>absurd e (by decide),fun e=>?_⟩;unfold bH at e;rw [h] at e
  simp at e
 ·rw [if_neg h]
  cases ho:bH L i with
  | true=>simp
  | false=>simp
theorem cN(L:List Cl):∀ k,al L k=[]↔bK L k=true
 |0=>by simp [al,bK]
 |k+1=>by
  have h1:br L k=[]↔bH L k=true:=by
   rw [<-gE];unfold br
   by_cases h:aY L k=0
   ·simp [h]
   ·simp [h]
  rw [bs,dC,List.append_eq_nil_iff,cN L k,h1,Bool.and_eq_true]
def bt(w:Int)(L:List Cl):Bool:=decide ((L.length:Int)=w) && bX L
theorem ep(w:Int)(L:List Cl):aG w L=[]↔bt w L=true:=by
 unfold aG bt fm;rw [List.append_eq_nil_iff,cN,<-dD,Bool.and_eq_true,decide_eq_true_eq]
 by_cases h:(L.length:Int)=w
 ·simp [h]
 ·simp [h]
def aR(w:Int)(Ls:List Ln)(k:Nat):Bool:=(List.range k).all fun i=>bt w (Ls.getD i zl).1
theorem cz(w:Int)(Ls:List Ln)(k:Nat):aR w Ls (k+1)=(aR w Ls k && bt w (Ls.getD k zl).1):=by
 unfold aR;rw [List.range_succ,List.all_append]
 simp
theorem cV{w:Int}{Ls:List Ln}{k n:Nat}(hk:k<n)(h:bt w (Ls.getD k zl).1=false):aR w Ls n=false:=by
 unfold aR;rw [List.all_eq_false];exact ⟨k,List.mem_range.2 hk,by rw [h];decide⟩
theorem dG(w:Int)(Ls:List Ln):∀ k,am w Ls k=[]↔aR w Ls k=true
 |0=>by simp [am,aR]
 |k+1=>by
  rw [bf,cz,List.append_eq_nil_iff,dG w Ls k,Bool.and_eq_true,<-ep];have:bW k (aG w (Ls.getD k zl).1)=[]↔aG w (Ls.getD k zl).1=[]:=by unfold bW;simp
  rw [this]
theorem eq(v:Vw):aM v=(ax v.w && ax v.h && (v.h == (v.L.length:Int)) && ai v.r v.c v.pd v.w v.h && aR v.w v.L v.L.length):=by
 have key:aM v=true↔(ax v.w && ax v.h && (v.h == (v.L.length:Int)) && ai v.r v.c v.pd v.w v.h && aR v.w v.L v.L.length)=true:=by
  unfold aM bg;rw [List.isEmpty_iff,List.append_eq_nil_iff,List.append_eq_nil_iff,dG];simp only [Bool.and_eq_true,beq_iff_eq];unfold dl bU
  by_cases h1:ax v.w=true/\ax v.h=true/\v.h=(v.L.length:Int)
  ·by_cases h2:ai v.r v.c v.pd v.w v.h=true
   ·rw [if_pos h1,if_pos h2];exact ⟨fun h=>⟨⟨⟨⟨h1.1,h1.2.1⟩,h1.2.2⟩,h2⟩,h.1.2⟩,fun h=>⟨⟨rfl,h.2⟩,rfl⟩⟩
   ·rw [if_neg h2];exact ⟨fun h=>absurd h.2 (by simp),fun h=>absurd h.1.2 h2⟩
  ·rw [if_neg h1];constructor
   ·intro h;exact absurd h.1.1 (by simp)
   ·intro h;exact absurd ⟨h.1.1.1.1,h.1.1.1.2,h.1.1.2⟩ h1
 exact Bool.eq_iff_iff.2 key
theorem d7(v:Vw)(lv:Value)(w:World)(hv:ViewAt w v lv):Calls Tryd.prog 18 #[aN v lv] w (Gives w (.bool (aM v))):=by
 obtain ⟨vw,vh,Ls,r,c,pd,au⟩:=v;obtain ⟨ix,w0,w1,h0,h1⟩:=hv;simp only at ix w0 w1 h0 h1;have lO:=ix.max;have jH:=eq ⟨vw,vh,Ls,r,c,pd,au⟩;simp only at jH;obtain ⟨rv,lK⟩:=ab (aM ⟨vw,vh,Ls,r,c,pd,au⟩);rw [<-lK] at jH ⊢;unfold aN;simp only;obtain ⟨lo,lc,rfl⟩:=ix.len;have hlc:=(aH ix).2.1;have ik:=aa (aH ix).2.2;have lG:=aa (fun (w':World)=>eJ r c pd vw vh w');obtain ⟨n,hn⟩:=ab (Ls.length);have iy:=aa hn;have jt:=aa jH;rw [<-hn] at hlc lO ik jt ⊢;obtain ⟨W1,hW1⟩:=ab (w.alloc (.cells [Value.int .i64 vw,.int .i64 vh,.slice lo n lc,.int .i64 r,.int .i64 c,.bool pd,.bool au].toArray 26));obtain ⟨gv,ie⟩:=ab (w.heap.size);have hb1:Below w.heap.size w W1:=by rw [hW1];exact af _ _
 have ij:Has W1 gv [.int .i64 vw,.int .i64 vh,.slice lo n lc,.int .i64 r,.int .i64 c,.bool pd,.bool au] 26:=by rw [hW1,ie];exact Has.new w _ _
 have HV:=aa ij;have HB:=aa hb1;have io:w.alloc (.cells #[Value.int .i64 vw,.int .i64 vh,.slice lo n lc,.int .i64 r,.int .i64 c,.bool pd,.bool au] 26)=W1:=hW1.symm;have iF:=aa ie;clear hW1 hb1 ij ie hn jH lK ix;obtain ⟨bad,hU⟩ : ∃ bad,bad = !(ax vw && ax vh && (vh == (n:Int)) && ai r c pd vw vh):=⟨_,rfl⟩;have gR:=aa hU;clear hU
 go_enter Tryd.func18,Tryd.ntmps18
 go_upto_region 1 with (fail)
 rw [<-iF.out];clear io
 go_cut [39] from 4 to 39 (fun tv wx=>tv=.bool bad/\Below W1.heap.size W1 wx)
 case first =>
  have hB:=Below.refl W1.heap.size W1;have q0:=HV.out.cell 0 _ rfl;have q1:=HV.out.cell 1 _ rfl;have q2:=HV.out.cell 2 _ rfl;have q3:=HV.out.cell 3 _ rfl;have q4:=HV.out.cell 4 _ rfl;have q5:=HV.out.cell 5 _ rfl
  by_cases t1:vh=(n:Int)
  ·have d1:(vh != (n:Int))=false:=by simp [t1]
   by_cases t2:vh<1
   ·have d2:decide (vh<1)=true:=decide_eq_true t2;have ib:=aa (show bad=true from by rw [gR.out,show ax vh=false from by unfold ax;rw [show decide (1<=vh)=false from decide_eq_false (by omega)];rfl];simp);clear t1 t2
    go_wp2_with fail
    go_meet;exact ⟨by rw [ib.out],hB⟩
   ·have d2:decide (vh<1)=false:=decide_eq_false t2
    by_cases t3:1024<vh
    ·have d3:decide (1024<vh)=true:=decide_eq_true t3;have ib:=aa (show bad=true from by rw [gR.out,show ax vh=false from by unfold ax;rw [show decide (vh<=1024)=false from decide_eq_false (by omega),Bool.and_false]];simp);clear t1 t2 t3
     go_wp2_with fail
     go_meet;exact ⟨by rw [ib.out],hB⟩
    ·have d3:decide (1024<vh)=false:=decide_eq_false t3;have HSH:=aa (show ax vh=true from by unfold ax;rw [show decide (1<=vh)=true from decide_eq_true (by omega),show decide (vh<=1024)=true from decide_eq_true (by omega)];rfl)
     by_cases t4:vw<1
     ·have d4:decide (vw<1)=true:=decide_eq_true t4;have ib:=aa (show bad=true from by rw [gR.out,show ax vw=false from by unfold ax;rw [show decide (1<=vw)=false from decide_eq_false (by omega)];rfl];simp);clear t1 t2 t3 t4
      go_wp2_with fail
      go_meet;exact ⟨by rw [ib.out],hB⟩
     ·have d4:decide (vw<1)=false:=decide_eq_false t4
      by_cases t5:1024<vw
      ·have d5:decide (1024<vw)=true:=decide_eq_true t5;have ib:=aa (show bad=true from by rw [gR.out,show ax vw=false from by unfold ax;rw [show decide (vw<=1024)=false from decide_eq_false (by omega),Bool.and_false]];simp);clear t1 t2 t3 t4 t5
       go_wp2_with fail
       go_meet;exact ⟨by rw [ib.out],hB⟩
      ·have d5:decide (1024<vw)=false:=decide_eq_false t5;have ib:=aa (show bad = !ai r c pd vw vh from by rw [gR.out,HSH.out,show ax vw=true from by unfold ax;rw [show decide (1<=vw)=true from decide_eq_true (by omega),show decide (vw<=1024)=true from decide_eq_true (by omega)];rfl,show (vh == (n:Int))=true from by simp [t1]];simp);clear t1 t2 t3 t4 t5
       go_wp2_with fail
       refine (lG.out W1).mono ?_;rintro e w6 ⟨rfl,b6⟩
       go_wp2_with fail
       go_meet;exact ⟨by rw [ib.out],b6⟩
  ·have d1:(vh != (n:Int))=true:=by simp [t1]
   have ib:=aa (show bad=true from by rw [gR.out,show (vh == (n:Int))=false from by simp [t1]];simp);clear t1
   go_wp2_with fail
   go_meet;exact ⟨by rw [ib.out],hB⟩
 case rest =>
  obtain ⟨rfl,m7⟩:=hcut;have HVC:=aa (HV.out.below m7 HV.out.lt);have HBC:=aa (HB.out.trans (m7.mono HB.out.size));clear m7
  cases hbd:bad with
  |true =>
   have HF:=aa (show rv=false from by
    have h:=gR.out;rw [hbd] at h;rw [jt.out];have h2:(ax vw && ax vh && (vh == (n:Int)) && ai r c pd vw vh)=false:=by
     cases hx:(ax vw && ax vh && (vh == (n:Int)) && ai r c pd vw vh) with
     |true=>rw [hx] at h;cases h
     |false=>rfl
    rw [h2]
    rfl)
   clear hbd;go_wp2;go_ret;rw [HF.out];exact ⟨ae,HBC.out⟩
  |false =>
   have HF:=aa (show rv=aR vw Ls n from by
    have h:=gR.out;rw [hbd] at h;rw [jt.out];have h2:(ax vw && ax vh && (vh == (n:Int)) && ai r c pd vw vh)=true:=by simpa using h.symm
    rw [h2,Bool.true_and])
   clear hbd
   go_upto_region 3 with (fail)
   go_wp2
   go_loopw [3] (fun iv wr=>∃ k:Nat,k<=n/\iv=.int .i64 k/\aR vw Ls k=true/\Below w.heap.size w wr/\Has wr gv [.int .i64 vw,.int .i64 vh,.slice lo n lc,.int .i64 r,.int .i64 c,.bool pd,.bool au] 26) (fun iv _=>n - (intOf iv).toNat)
   case atStart=>exact ⟨0,Nat.zero_le _,rfl,rfl,HBC.out,HVC.out⟩
   case round =>
    obtain ⟨k,hk,rfl,iW,hb,jM⟩:=hrel;obtain ⟨wq,iE⟩:=ab (wr);subst iE;have jG:=aa iW;have gS:=aa hb;have m8:=aa jM;have q0:=jM.cell 0 _ rfl;have q2:=jM.cell 2 _ rfl;clear iW hb jM
    by_cases hlt:k<n
    ·obtain ⟨b,off,cv,eo,hb,_,hc0,hc1,hcv⟩:=ik.out k hlt;subst eo;have c0:=(gS.out.cell (p:=⟨b,off+k * 2,none⟩) hb).trans hc0;have ir:=cz vw Ls k;have k9:=aa (fun (h:bt vw (Ls.getD k zl).1=false)=>cV hlt h);obtain ⟨Lk,i5⟩:=ab ((Ls.getD k zl).1);rw [<-i5] at hcv ir k9;rw [jG.out,Bool.true_and] at ir;have HLK2:=aa ir;obtain ⟨co,cc,ecv⟩:=hcv.len;obtain ⟨nk,i8⟩:=ab (Lk.length);rw [<-i8] at ecv;subst ecv;have hso0:∀ w',Below w.heap.size w w'->Calls Tryd.prog 32 #[.slice co nk cc] w' (Gives w' (.bool (bX Lk))):=fun w' h=>by rw [dD];exact e7 _ _ Lk w' (hcv.below h)
     have jI:=aa (show bt vw Lk=(decide ((nk:Int)=vw) && bX Lk) from by unfold bt;rw [<-i8]);have jU:(k:Int)<(n:Int):=by omega
     have kc:IntKind.i64.wrap ((k:Int)+1)=(k:Int)+1:=by rw [IntKind.wrap_i64];omega
     have iJ:k<lc:=by omega
     have x0:=aC q0;have x2:=aC q2;have xc:=aC c0;have mZ:=aa (fun (u:Growth wq)=>hso0 (ext wq u) (aS gS.out u));have iQ:=aa (fun (u:Growth wq)=>show Below w.heap.size w (ext wq u)/\Has (ext wq u) gv [.int .i64 vw,.int .i64 vh,.slice (some ⟨b,off,none⟩) n lc,.int .i64 r,.int .i64 c,.bool pd,.bool au] 26 from ⟨aS gS.out u,m8.out.below (aS (Below.refl wq.heap.size wq) u) m8.out.lt⟩);clear hc0 i5 hcv i8 hb ir hso0
     by_cases hnw:(nk:Int)=vw
     ·have d1:((nk:Int) != vw)=false:=by simp [hnw]
      have d2:decide ((nk:Int)=vw)=true:=decide_eq_true hnw;rw [d2,Bool.true_and] at jI
      cases jL:bX Lk with
      |true =>
       rw [jL] at jI mZ;clear jL hnw d2
       go_upto_region 6 with (fail)
       clear q0 q2 c0;refine aB (by kernel_rfl) (by kernel_rfl) ?_
       repeat (go_big_quiet_step ((first | (go_at_call 32;exact eG (mZ.out _)))))
       refine wpQuiet_nil ?_;intro _ hw';obtain ⟨u,hw''⟩:=hw';subst hw'';have HE:=aa (And.intro (show aR vw Ls (k+1)=true from by rw [HLK2.out];exact jI.out) (iQ.out u));clear x0 x2 xc;go_wp2
       go_roundw
       case rel=>exact ⟨k+1,by omega,by go_num,HE.out.1,HE.out.2.1,HE.out.2.2⟩
       case measure=>simp [intOf] <;> omega
      |false =>
       rw [jL] at jI mZ;have kx:=aa (show rv=false from by rw [HF.out];exact k9.out jI.out);clear jL hnw d2
       go_upto_region 6 with (fail)
       clear q0 q2 c0;refine aB (by kernel_rfl) (by kernel_rfl) ?_
       repeat (go_big_quiet_step ((first | (go_at_call 32;exact eG (mZ.out _)))))
       refine wpQuiet_nil ?_;intro _ hw';obtain ⟨u,hw''⟩:=hw';subst hw'';have HE:=aa (iQ.out u).1;clear x0 x2 xc;go_wp2;go_ret;rw [kx.out];exact ⟨ae,HE.out⟩
     ·have d1:((nk:Int) != vw)=true:=by simp [hnw]
      have d2:decide ((nk:Int)=vw)=false:=decide_eq_false hnw;rw [d2,Bool.false_and] at jI;have kx:=aa (show rv=false from by rw [HF.out];exact k9.out jI.out);clear hnw d2
      go_upto_region 6 with (fail)
      clear q0 q2 c0;refine aB (by kernel_rfl) (by kernel_rfl) ?_
      repeat (go_big_quiet_step ((fail)))
      refine wpQuiet_nil ?_;intro _ hw';obtain ⟨u,hw''⟩:=hw';subst hw'';have HE:=aa (iQ.out u).1;clear x0 x2 xc;go_wp2;go_ret;rw [kx.out];exact ⟨ae,HE.out⟩
    ·obtain rfl:k=n:=by omega
     have HF3:=aa (show rv=true from by rw [HF.out,jG.out]);go_wp2;go_ret;rw [HF3.out];exact ⟨ae,gS.out⟩
end Go.Proofs.YthdphijabffpiaaDoor
