import Derived.Test.YthdphijabffpiaaDoorZ0
import Derived.Test.YthdphijabffpiaaDoorAudE
import Derived.Test.YthdphijabffpiaaDoorCellS
import Derived.Lib.MinMax
import Derived.Deep.Cut
set_option maxRecDepth 100000
set_option linter.unusedVariables false
set_option linter.unusedSimpArgs false
set_option maxHeartbeats 3000000
namespace Go.Proofs.YthdphijabffpiaaDoor
open Go.RowKit Go.ChangeShapes Go.WideShapes
theorem gj(L:List Cl)(i:Nat):aV L i=0↔bC L i=true:=by
 unfold aV
 by_cases h:av (L.getD i zc)=false
 ·rw [if_pos h];refine ⟨fun e=>absurd e (by decide),fun e=>?_⟩;unfold bC at e;rw [h] at e
  simp at e
 ·rw [if_neg h]
  cases ho:bC L i with
  | true=>simp
  | false=>simp
theorem cG(L:List Cl):∀ k,al L k=[]↔a8 L k=true
 |0=>by simp [al,a8]
 |k+1=>by
  have h1:bf L k=[]↔bC L k=true:=by
   rw [<-gj];unfold bf
   by_cases h:aV L k=0
   ·simp [h]
   ·simp [h]
  rw [bg,dq,List.append_eq_nil_iff,cG L k,h1,Bool.and_eq_true]
def bj(w:Int)(L:List Cl):Bool:=decide ((L.length:Int)=w) && bW L
theorem dZ(w:Int)(L:List Cl):aL w L=[]↔bj w L=true:=by
 unfold aL bj eU;rw [List.append_eq_nil_iff,cG,<-dr,Bool.and_eq_true,decide_eq_true_eq]
 by_cases h:(L.length:Int)=w
 ·simp [h]
 ·simp [h]
def aT(w:Int)(Ls:List Ln)(k:Nat):Bool:=(List.range k).all fun i=>bj w (Ls.getD i zl).1
theorem cA(w:Int)(Ls:List Ln)(k:Nat):aT w Ls (k+1)=(aT w Ls k && bj w (Ls.getD k zl).1):=by
 unfold aT;rw [List.range_succ,List.all_append]
 simp
theorem cN{w:Int}{Ls:List Ln}{k n:Nat}(hk:k<n)(h:bj w (Ls.getD k zl).1=false):aT w Ls n=false:=by
 unfold aT;rw [List.all_eq_false];exact ⟨k,List.mem_range.2 hk,by rw [h];decide⟩
theorem dt(w:Int)(Ls:List Ln):∀ k,aq w Ls k=[]↔aT w Ls k=true
 |0=>by simp [aq,aT]
 |k+1=>by
  rw [a5,cA,List.append_eq_nil_iff,dt w Ls k,Bool.and_eq_true,<-dZ];have:bP k (aL w (Ls.getD k zl).1)=[]↔aL w (Ls.getD k zl).1=[]:=by unfold bP;simp
  rw [this]
theorem d9(v:Vw):aB v=(ar v.w && ar v.h && (v.h == (v.L.length:Int)) && aj v.r v.c v.pd v.w v.h && aT v.w v.L v.L.length):=by
 have key:aB v=true↔(ar v.w && ar v.h && (v.h == (v.L.length:Int)) && aj v.r v.c v.pd v.w v.h && aT v.w v.L v.L.length)=true:=by
  unfold aB a6;rw [List.isEmpty_iff,List.append_eq_nil_iff,List.append_eq_nil_iff,dt];simp only [Bool.and_eq_true,beq_iff_eq];unfold da bN
  by_cases h1:ar v.w=true/\ar v.h=true/\v.h=(v.L.length:Int)
  ·by_cases h2:aj v.r v.c v.pd v.w v.h=true
   ·rw [if_pos h1,if_pos h2];exact ⟨fun h=>⟨⟨⟨⟨h1.1,h1.2.1⟩,h1.2.2⟩,h2⟩,h.1.2⟩,fun h=>⟨⟨rfl,h.2⟩,rfl⟩⟩
   ·rw [if_neg h2];exact ⟨fun h=>absurd h.2 (by simp),fun h=>absurd h.1.2 h2⟩
  ·rw [if_neg h1];constructor
   ·intro h;exact absurd h.1.1 (by simp)
   ·intro h;exact absurd ⟨h.1.1.1.1,h.1.1.1.2,h.1.1.2⟩ h1
 exact Bool.eq_iff_iff.2 key
theorem dI(v:Vw)(lv:Value)(w:World)(hv:ViewAt w v lv):Calls Tryd.prog 18 #[aK v lv] w (Gives w (.bool (aB v))):=by
 obtain ⟨vw,vh,Ls,r,c,pd,au⟩:=v;obtain ⟨jc,w0,w1,h0,h1⟩:=hv;simp only at jc w0 w1 h0 h1;have nf:=jc.max;have mm:=d9 ⟨vw,vh,Ls,r,c,pd,au⟩;simp only at mm;obtain ⟨rv,hrv⟩:=ab (aB ⟨vw,vh,Ls,r,c,pd,au⟩);rw [<-hrv] at mm ⊢;unfold aK;simp only;obtain ⟨lo,lc,rfl⟩:=jc.len;have hlc:=(aM jc).2.1;have jW:=aa (aM jc).2.2;have mw:=aa (fun (w':World)=>eq r c pd vw vh w');obtain ⟨n,hn⟩:=ab (Ls.length);have je:=aa hn;have mz:=aa mm;rw [<-hn] at hlc nf jW mz ⊢;obtain ⟨W1,hW1⟩:=ab (w.alloc (.cells [Value.int .i64 vw,.int .i64 vh,.slice lo n lc,.int .i64 r,.int .i64 c,.bool pd,.bool au].toArray 26));obtain ⟨gv,i2⟩:=ab (w.heap.size);have hb1:Below w.heap.size w W1:=by rw [hW1];exact af _ _
 have iR:Has W1 gv [.int .i64 vw,.int .i64 vh,.slice lo n lc,.int .i64 r,.int .i64 c,.bool pd,.bool au] 26:=by rw [hW1,i2];exact Has.new w _ _
 have HV:=aa iR;have HB:=aa hb1;have i3:w.alloc (.cells #[Value.int .i64 vw,.int .i64 vh,.slice lo n lc,.int .i64 r,.int .i64 c,.bool pd,.bool au] 26)=W1:=hW1.symm;have kO:=aa i2;clear hW1 hb1 iR i2 hn mm hrv jc;obtain ⟨bad,iD⟩ : ∃ bad,bad = !(ar vw && ar vh && (vh == (n:Int)) && aj r c pd vw vh):=⟨_,rfl⟩;have gX:=aa iD;clear iD
 go_enter Tryd.func18,Tryd.ntmps18
 go_upto_region 1 with (fail)
 rw [<-kO.out];clear i3
 go_cut [39] from 4 to 39 (fun tv wx=>tv=.bool bad/\Below W1.heap.size W1 wx)
 case first =>
  have hB:=Below.refl W1.heap.size W1;have q0:=HV.out.cell 0 _ rfl;have q1:=HV.out.cell 1 _ rfl;have q2:=HV.out.cell 2 _ rfl;have q3:=HV.out.cell 3 _ rfl;have q4:=HV.out.cell 4 _ rfl;have q5:=HV.out.cell 5 _ rfl
  by_cases t1:vh=(n:Int)
  ·have d1:(vh != (n:Int))=false:=by simp [t1]
   by_cases t2:vh<1
   ·have d2:decide (vh<1)=true:=decide_eq_true t2;have iG:=aa (show bad=true from by rw [gX.out,show ar vh=false from by unfold ar;rw [show decide (1<=vh)=false from decide_eq_false (by omega)];rfl];simp);clear t1 t2
    go_wp2_with fail
    go_meet;exact ⟨by rw [iG.out],hB⟩
   ·have d2:decide (vh<1)=false:=decide_eq_false t2
    by_cases t3:1024<vh
    ·have d3:decide (1024<vh)=true:=decide_eq_true t3;have iG:=aa (show bad=true from by rw [gX.out,show ar vh=false from by unfold ar;rw [show decide (vh<=1024)=false from decide_eq_false (by omega),Bool.and_false]];simp);clear t1 t2 t3
     go_wp2_with fail
     go_meet;exact ⟨by rw [iG.out],hB⟩
    ·have d3:decide (1024<vh)=false:=decide_eq_false t3;have HSH:=aa (show ar vh=true from by unfold ar;rw [show decide (1<=vh)=true from decide_eq_true (by omega),show decide (vh<=1024)=true from decide_eq_true (by omega)];rfl)
     by_cases t4:vw<1
     ·have d4:decide (vw<1)=true:=decide_eq_true t4;have iG:=aa (show bad=true from by rw [gX.out,show ar vw=false from by unfold ar;rw [show decide (1<=vw)=false from decide_eq_false (by omega)];rfl];simp);clear t1 t2 t3 t4
      go_wp2_with fail
      go_meet;exact ⟨by rw [iG.out],hB⟩
     ·have d4:decide (vw<1)=false:=decide_eq_false t4
      by_cases t5:1024<vw
      ·have d5:decide (1024<vw)=true:=decide_eq_true t5;have iG:=aa (show bad=true from by rw [gX.out,show ar vw=false from by unfold ar;rw [show decide (vw<=1024)=false from decide_eq_false (by omega),Bool.and_false]];simp);clear t1 t2 t3 t4 t5
       go_wp2_with fail
       go_meet;exact ⟨by rw [iG.out],hB⟩
      ·have d5:decide (1024<vw)=false:=decide_eq_false t5;have iG:=aa (show bad = !aj r c pd vw vh from by rw [gX.out,HSH.out,show ar vw=true from by unfold ar;rw [show decide (1<=vw)=true from decide_eq_true (by omega),show decide (vw<=1024)=true from decide_eq_true (by omega)];rfl,show (vh == (n:Int))=true from by simp [t1]];simp);clear t1 t2 t3 t4 t5
       go_wp2_with fail
       refine (mw.out W1).mono ?_;rintro e w6 ⟨rfl,b6⟩
       go_wp2_with fail
       go_meet;exact ⟨by rw [iG.out],b6⟩
  ·have d1:(vh != (n:Int))=true:=by simp [t1]
   have iG:=aa (show bad=true from by rw [gX.out,show (vh == (n:Int))=false from by simp [t1]];simp);clear t1
   go_wp2_with fail
   go_meet;exact ⟨by rw [iG.out],hB⟩
 case rest =>
  obtain ⟨rfl,o3⟩:=hcut;have HVC:=aa (HV.out.below o3 HV.out.lt);have HBC:=aa (HB.out.trans (o3.mono HB.out.size));clear o3
  cases hbd:bad with
  |true =>
   have HF:=aa (show rv=false from by
    have h:=gX.out;rw [hbd] at h;rw [mz.out];have h2:(ar vw && ar vh && (vh == (n:Int)) && aj r c pd vw vh)=false:=by
     cases hx:(ar vw && ar vh && (vh == (n:Int)) && aj r c pd vw vh) with
     |true=>rw [hx] at h;cases h
     |false=>rfl
    rw [h2]
    rfl)
   clear hbd;go_wp2;go_ret;rw [HF.out];exact ⟨ae,HBC.out⟩
  |false =>
   have HF:=aa (show rv=aT vw Ls n from by
    have h:=gX.out;rw [hbd] at h;rw [mz.out];have h2:(ar vw && ar vh && (vh == (n:Int)) && aj r c pd vw vh)=true:=by simpa using h.symm
    rw [h2,Bool.true_and])
   clear hbd
   go_upto_region 3 with (fail)
   go_wp2
   go_loopw [3] (fun iv wr=>∃ k:Nat,k<=n/\iv=.int .i64 k/\aT vw Ls k=true/\Below w.heap.size w wr/\Has wr gv [.int .i64 vw,.int .i64 vh,.slice lo n lc,.int .i64 r,.int .i64 c,.bool pd,.bool au] 26) (fun iv _=>n - (intOf iv).toNat)
   case atStart=>exact ⟨0,Nat.zero_le _,rfl,rfl,HBC.out,HVC.out⟩
   case round =>
    obtain ⟨k,hk,rfl,gV,hb,jt⟩:=hrel;obtain ⟨wq,iS⟩:=ab (wr);subst iS;have jx:=aa gV;have it:=aa hb;have ol:=aa jt;have q0:=jt.cell 0 _ rfl;have q2:=jt.cell 2 _ rfl;clear gV hb jt
    by_cases hlt:k<n
    ·obtain ⟨b,off,cv,eo,hb,_,hc0,hc1,hcv⟩:=jW.out k hlt;subst eo;have c0:=(it.out.cell (p:=⟨b,off+k * 2,none⟩) hb).trans hc0;have jf:=cA vw Ls k;have oN:=aa (fun (h:bj vw (Ls.getD k zl).1=false)=>cN hlt h);obtain ⟨Lk,kr⟩:=ab ((Ls.getD k zl).1);rw [<-kr] at hcv jf oN;rw [jx.out,Bool.true_and] at jf;have HLK2:=aa jf;obtain ⟨co,cc,ecv⟩:=hcv.len;obtain ⟨nk,ko⟩:=ab (Lk.length);rw [<-ko] at ecv;subst ecv;have hso0:∀ w',Below w.heap.size w w'->Calls Tryd.prog 32 #[.slice co nk cc] w' (Gives w' (.bool (bW Lk))):=fun w' h=>by rw [dr];exact eM _ _ Lk w' (hcv.below h)
     have iT:=aa (show bj vw Lk=(decide ((nk:Int)=vw) && bW Lk) from by unfold bj;rw [<-ko]);have k7:(k:Int)<(n:Int):=by omega
     have lJ:IntKind.i64.wrap ((k:Int)+1)=(k:Int)+1:=by rw [IntKind.wrap_i64];omega
     have kW:k<lc:=by omega
     have x0:=aH q0;have x2:=aH q2;have xc:=aH c0;have n4:=aa (fun (u:Growth wq)=>hso0 (ext wq u) (bH it.out u));have kQ:=aa (fun (u:Growth wq)=>show Below w.heap.size w (ext wq u)/\Has (ext wq u) gv [.int .i64 vw,.int .i64 vh,.slice (some ⟨b,off,none⟩) n lc,.int .i64 r,.int .i64 c,.bool pd,.bool au] 26 from ⟨bH it.out u,ol.out.below (bH (Below.refl wq.heap.size wq) u) ol.out.lt⟩);clear hc0 kr hcv ko hb jf hso0
     by_cases hnw:(nk:Int)=vw
     ·have d1:((nk:Int) != vw)=false:=by simp [hnw]
      have d2:decide ((nk:Int)=vw)=true:=decide_eq_true hnw;rw [d2,Bool.true_and] at iT
      cases hsb:bW Lk with
      |true =>
       rw [hsb] at iT n4;clear hsb hnw d2
       go_upto_region 6 with (fail)
       clear q0 q2 c0;refine aW (by kernel_rfl) (by kernel_rfl) ?_
       repeat (go_big_quiet_step ((first | (go_at_call 32;exact fQ (n4.out _)))))
       refine wpQuiet_nil ?_;intro _ hw';obtain ⟨u,hw''⟩:=hw';subst hw'';have HE:=aa (And.intro (show aT vw Ls (k+1)=true from by rw [HLK2.out];exact iT.out) (kQ.out u));clear x0 x2 xc;go_wp2
       go_roundw
       case rel=>exact ⟨k+1,by omega,by go_num,HE.out.1,HE.out.2.1,HE.out.2.2⟩
       case measure=>simp [intOf] <;> omega
      |false =>
       rw [hsb] at iT n4;have lY:=aa (show rv=false from by rw [HF.out];exact oN.out iT.out);clear hsb hnw d2
       go_upto_region 6 with (fail)
       clear q0 q2 c0;refine aW (by kernel_rfl) (by kernel_rfl) ?_
       repeat (go_big_quiet_step ((first | (go_at_call 32;exact fQ (n4.out _)))))
       refine wpQuiet_nil ?_;intro _ hw';obtain ⟨u,hw''⟩:=hw';subst hw'';have HE:=aa (kQ.out u).1;clear x0 x2 xc;go_wp2;go_ret;rw [lY.out];exact ⟨ae,HE.out⟩
     ·have d1:((nk:Int) != vw)=true:=by simp [hnw]
      have d2:decide ((nk:Int)=vw)=false:=decide_eq_false hnw;rw [d2,Bool.false_and] at iT;have lY:=aa (show rv=false from by rw [HF.out];exact oN.out iT.out);clear hnw d2
      go_upto_region 6 with (fail)
      clear q0 q2 c0;refine aW (by kernel_rfl) (by kernel_rfl) ?_
      repeat (go_big_quiet_step ((fail)))
      refine wpQuiet_nil ?_;intro _ hw';obtain ⟨u,hw''⟩:=hw';subst hw'';have HE:=aa (kQ.out u).1;clear x0 x2 xc;go_wp2;go_ret;rw [lY.out];exact ⟨ae,HE.out⟩
    ·obtain rfl:k=n:=by omega
     have HF3:=aa (show rv=true from by rw [HF.out,jx.out]);go_wp2;go_ret;rw [HF3.out];exact ⟨ae,it.out⟩
end Go.Proofs.YthdphijabffpiaaDoor
