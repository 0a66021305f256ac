import Derived.Test.YthdphijabffpiaaDoorZ0
import Derived.Test.YthdphijabffpiaaDoorMg5
set_option maxRecDepth 100000
set_option linter.unusedVariables false
set_option linter.unusedSimpArgs false
set_option maxHeartbeats 800000
namespace Go.Proofs.YthdphijabffpiaaDoor
open Go.RowKit Go.ChangeShapes Go.WideShapes
theorem dS(v:Vw)(lv:Value)(a b:Int)(w:World)(h0:1<=v.w)(h1:v.w<=1024)(h2:1<=v.h)(h3:v.h<=1024):Calls Tryd.prog 36 #[aK v lv,.agg #[.int .i64 a,.int .i64 b]] w (Gives w (.agg #[.int .i64 (ap v.h a),.int .i64 (ap v.w b)])):=by
 obtain ⟨vw,vh,Ls,r,c,pd,au⟩:=v;simp only at h0 h1 h2 h3;have e1:ap vh a=max 0 (min a (vh - 1)):=by unfold ap;omega
 have e2:ap vw b=max 0 (min b (vw - 1)):=by unfold ap;omega
 unfold aK;simp only [e1,e2];clear e1 e2;have w1:IntKind.i64.wrap (vh - 1)=vh - 1:=by rw [IntKind.wrap_i64];omega
 have w2:IntKind.i64.wrap (vw - 1)=vw - 1:=by rw [IntKind.wrap_i64];omega
 obtain ⟨Wa,gM⟩:=ab (w.alloc (.cells [Value.int .i64 vw,.int .i64 vh,lv,.int .i64 r,.int .i64 c,.bool pd,.bool au].toArray 26));obtain ⟨Wb,gN⟩:=ab (Wa.alloc (.cells [Value.int .i64 a,.int .i64 b].toArray 64));obtain ⟨Wc,ix⟩:=ab (Wb.alloc (.cells [Value.int .i64 0,.int .i64 0].toArray 66));have ba:Below w.heap.size w Wa:=by rw [gM];exact af _ _
 have bb:Below Wa.heap.size Wa Wb:=by rw [gN];exact af _ _
 have bc:Below Wb.heap.size Wb Wc:=by rw [ix];exact af _ _
 have sa:Wa.heap.size=w.heap.size+1:=by rw [gM];exact Array.size_push _
 have sb:Wb.heap.size=w.heap.size+2:=by rw [gN,<-Nat.add_assoc w.heap.size 1 1,<-sa];exact Array.size_push _
 have ga:Has Wa w.heap.size [.int .i64 vw,.int .i64 vh,lv,.int .i64 r,.int .i64 c,.bool pd,.bool au] 26:=by rw [gM];exact Has.new w _ _
 have gb:Has Wb Wa.heap.size [.int .i64 a,.int .i64 b] 64:=by rw [gN];exact Has.new Wa _ _
 have gc:Has Wc Wb.heap.size [.int .i64 0,.int .i64 0] 66:=by rw [ix];exact Has.new Wb _ _
 have ga:=Has.below (Has.below ga bb ga.lt) bc (Has.below ga bb ga.lt).lt;have gb:=Has.below gb bc gb.lt;have HB:=aa (ba.trans ((bb.mono ba.size).trans (bc.mono (Nat.le_trans ba.size bb.size))));rw [sa] at gb;rw [sb] at gc;have HC:=aa gc;have q0:=ga.cell 0 _ rfl;have q1:=ga.cell 1 _ rfl;have p0:=gb.cell 0 _ rfl;have p1:=gb.cell 1 _ rfl;have iP:=aa (show ((w.alloc (.cells #[Value.int .i64 vw,.int .i64 vh,lv,.int .i64 r,.int .i64 c,.bool pd,.bool au] 26)).alloc (.cells #[Value.int .i64 a,.int .i64 b] 64)).alloc (.cells #[Value.int .i64 0,.int .i64 0] 66)=Wc from by rw [ix,gN,gM]);have HSC:=aa (show w.heap.size+2<Wc.heap.size from gc.lt);clear gM gN ix ga gb gc ba bb bc sa sb
 go_enter Tryd.func36,Tryd.ntmps36
 go_upto_region 1 with (fail)
 rw [iP.out];obtain ⟨g,hg⟩:=ab (w.heap.size+2);have HG:=aa hg;rw [<-hg] at HC ⊢;clear iP hg
 go_wp2_with (refine aG rfl 66 (.tmp 4) (.tmp 19) rfl g rfl 66 [.int .i64 0,.int .i64 0] [.int .i64 (max 0 (min a (vh - 1))),.int .i64 (max 0 (min b (vw - 1)))] 2 rfl HC.out (by kernel_rfl) rfl rfl (by intro v hv;simp at hv;rcases hv with rfl | rfl <;> rfl) ?_;intro w5 h5 b5)
 have m9:=HB.out.trans (b5.below HB.out.size (by have:=HG.out;omega));have HF:=aa (And.intro h5 m9);clear h5 b5 m9;go_wp2;exact bodyPost_ret (v:=.agg [Value.int .i64 (max 0 (min a (vh - 1))),.int .i64 (max 0 (min b (vw - 1)))].toArray) (ce Tryd.results36 _ _ g 66 _ _ 2 rfl HF.out.1 Tryd.underlying66 rfl (by kernel_rfl) rfl) rfl ⟨rfl,HF.out.2⟩
def bl(Ls:List Ln):Nat->Nat
 | 0=>0
 | k+1=>bl Ls k+(Ls.getD k zl).1.length
theorem eA(Ls:List Ln){a b:Nat}(h:a<=b):bl Ls a<=bl Ls b:=by
 induction h with
 | refl=>exact Nat.le_refl _
 | step h ih=>exact Nat.le_trans ih (Nat.le_add_right _ _)
def cZ(v:Vw):Bool:=decide (2000<=bl v.L v.L.length) || decide (200<v.L.length)
theorem dT(v:Vw)(lv:Value)(w:World)(hv:HeldE lineE (fun _=>True) w lv v.L)(hr:∀ k,k<v.L.length->(v.L.getD k zl).1.length<=4398046511104):Calls Tryd.prog 34 #[aK v lv] w (Gives w (.bool (cZ v))):=by
 obtain ⟨vw,vh,Ls,r,c,pd,au⟩:=v;simp only at hv hr;unfold aK cZ;simp only;have nf:=hv.max;obtain ⟨lo,lc,rfl⟩:=hv.len;have hlc:=(aM hv).2.1;have jW:=aa (aM hv).2.2;have HR:=aa hr;obtain ⟨n,hn⟩:=ab (Ls.length);have je:=aa hn;rw [<-hn] at hlc nf jW HR ⊢;obtain ⟨W1,hW1⟩:=ab (w.alloc (.cells [Value.int .i64 vw,.int .i64 vh,.slice lo n lc,.int .i64 r,.int .i64 c,.bool pd,.bool au].toArray 26));obtain ⟨gv,i2⟩:=ab (w.heap.size);have hb1:Below w.heap.size w W1:=by rw [hW1];exact af _ _
 have iR:Has W1 gv [.int .i64 vw,.int .i64 vh,.slice lo n lc,.int .i64 r,.int .i64 c,.bool pd,.bool au] 26:=by rw [hW1,i2];exact Has.new w _ _
 have q2:=iR.cell 2 _ rfl;have HB:=aa hb1;have i3:w.alloc (.cells #[Value.int .i64 vw,.int .i64 vh,.slice lo n lc,.int .i64 r,.int .i64 c,.bool pd,.bool au] 26)=W1:=hW1.symm;have kO:=aa i2;clear hW1 hb1 iR i2 hn hv hr
 go_enter Tryd.func34,Tryd.ntmps34
 go_upto_region 1 with (fail)
 rw [<-kO.out];clear i3;go_wp2
 go_loopw [3,4] (fun nv iv wr=>∃ (k:Nat),k<=n/\(∀ m,m<k->bl Ls m<2000)/\nv=.int .i64 (bl Ls k:Nat)/\iv=.int .i64 k/\wr=W1) (fun _ iv _=>n - (intOf iv).toNat)
 case atStart=>exact ⟨0,Nat.zero_le _,fun m hm=>absurd hm (Nat.not_lt_zero _),rfl,rfl,rfl⟩
 case round =>
  obtain ⟨k,hk,hlt0,rfl,rfl,rfl⟩:=hrel;have hY:=aa hlt0;clear hlt0
  by_cases hs:bl Ls k<2000
  ·have ds:decide ((bl Ls k:Int)<2000)=true:=decide_eq_true (by omega);have dg:decide ((2000:Int)<=(bl Ls k:Int))=false:=ah (by omega)
   by_cases hlt:k<n
   ·obtain ⟨b,off,cv,rfl,hb,_,hc0,hc1,hcv⟩:=jW.out k hlt;have c0:=(HB.out.cell (p:=⟨b,off+k * 2,none⟩) hb).trans hc0;obtain ⟨co,cc,rfl⟩:=hcv.len;have hnr:=HR.out k hlt;have HS:=aa (show bl Ls (k+1)=bl Ls k+(Ls.getD k zl).1.length from rfl);obtain ⟨nk,ko⟩:=ab ((Ls.getD k zl).1.length);rw [<-ko] at c0 hnr HS;have lJ:IntKind.i64.wrap ((k:Int)+1)=(k:Int)+1:=by rw [IntKind.wrap_i64];omega
    obtain ⟨s,hsk⟩:=ab (bl Ls k);have HSK:=aa hsk;rw [<-hsk] at hs ds dg HS ⊢;have my:IntKind.i64.wrap ((s:Int)+(nk:Int))=((s+nk:Nat):Int):=by rw [IntKind.wrap_i64];omega
    have k7:(k:Int)<(n:Int):=by omega
    have kW:k<lc:=by omega
    clear hc0 hc1 hb ko hcv hsk;go_wp2
    go_roundw
    case rel=>exact ⟨k+1,by omega,fun m hm=>by
     rcases Nat.lt_or_ge m k with h | h
     ·exact hY.out m h
     ·obtain rfl:m=k:=by omega
      rw [<-HSK.out];exact hs,by first | (rw [HS.out];done) | (rw [HS.out];push_cast;rfl) | simp [HS.out] | (go_num;rw [HS.out]),by go_num,trivial⟩
    case measure=>simp [intOf] <;> omega
   ·obtain rfl:k=n:=by omega
    have hg:decide (2000<=bl Ls k)=false:=ah (by omega);have HG:=aa hg;have e200:decide ((200:Int)<(k:Int))=decide (200<k):=by rw [decide_eq_decide];omega
    have HE:=aa e200;clear hg e200;go_wp2;go_ret;exact ⟨by rw [HG.out,Bool.false_or,<-HE.out];rfl,HB.out⟩
  ·have ds:decide ((bl Ls k:Int)<2000)=false:=ah (by omega);have dg:decide ((2000:Int)<=(bl Ls k:Int))=true:=decide_eq_true (by omega);have hmo:=eA Ls hk;have hg:decide (2000<=bl Ls n)=true:=decide_eq_true (by omega);have HG:=aa hg;clear hg hmo
   by_cases hlt:k<n
   ·have k7:(k:Int)<(n:Int):=by omega
    go_wp2;go_ret;exact ⟨by rw [HG.out,Bool.true_or];rfl,HB.out⟩
   ·obtain rfl:k=n:=by omega
    go_wp2;go_ret;exact ⟨by rw [HG.out,Bool.true_or];rfl,HB.out⟩
end Go.Proofs.YthdphijabffpiaaDoor
