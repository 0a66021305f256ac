import Derived.Test.YthdphijabffpiaaDoorZ0
import Derived.Test.YthdphijabffpiaaDoorMg6
import Derived.Test.YthdphijabffpiaaDoorMg3
import Derived.Deep.Cut
import Derived.Lib.MinMax
set_option maxRecDepth 100000
set_option linter.unusedVariables false
set_option linter.unusedSimpArgs false
set_option maxHeartbeats 2000000
namespace Go.Proofs.YthdphijabffpiaaDoor
open Go.RowKit Go.ChangeShapes Go.WideShapes
theorem dP(Ls:List Ln)(H:Nat):∀ (k q:Nat),H<=q+k->an Ls H k q=an Ls H (H - q) q
 |0,q,h=>by rw [show H - q=0 by omega]
 |k+1,q,h=>by
  by_cases hq:H - q=0
  ·rw [hq];show (if q<H/\_ then _ else q)=q;rw [if_neg (fun e=>by omega)]
  ·obtain ⟨m,hm⟩ : ∃ m,H - q=m+1:=⟨H - q - 1,by omega⟩;rw [hm];show (if q<H/\aP Ls q=true/\aq Ls q 0=0 then an Ls H k (q+1) else q)=(if q<H/\aP Ls q=true/\aq Ls q 0=0 then an Ls H m (q+1) else q);rw [dP Ls H k (q+1) (by omega),show H - (q+1)=m by omega]
theorem gx(Ls:List Ln)(H q:Nat)(h1:q<H)(h2:aP Ls q=true)(h3:aq Ls q 0=0):an Ls H (H - q) q=an Ls H (H - (q+1)) (q+1):=by
 obtain ⟨m,hm⟩ : ∃ m,H - q=m+1:=⟨H - q - 1,by omega⟩;rw [hm,show H - (q+1)=m by omega];exact if_pos ⟨h1,h2,h3⟩
theorem fq(Ls:List Ln)(H q:Nat)(h:¬ (q<H/\aP Ls q=true/\aq Ls q 0=0)):an Ls H (H - q) q=q:=by
 cases hm:H - q with
 | zero=>rfl
 | succ m=>exact if_neg h
theorem fN(v:Vw)(lv:Value)(W H:Nat)(hn:NatV v W H)(r0:Nat)(hr0:r0<=H)(w:World)(hv:ViewAt w v lv):Calls Tryd.prog 97 #[aN v lv,.int .i64 (r0:Int)] w (Gives w (.tuple #[.int .i64 (an v.L H H r0:Nat),.int .i64 0,.bool (decide (an v.L H H r0<H) && (aq v.L (an v.L H H r0) 0 != 0))])):=by
 have l8:=hn.w1;have ko:=hn.h2;have iL:=aa hn.len;have iT:=aa (fun i (hi:i<H)=>(hn.row i hi).1);rw [dP v.L H H r0 (by omega)];obtain ⟨vw,vh,Ls,r,c,pd,au⟩:=v;obtain ⟨lo,lc,elv⟩:=hv.1.len;rw [hn.len] at elv;subst elv;have im:=aH hv.1;simp only at im iL iT ⊢;have hlc:=im.2.1;have ik:=aa im.2.2;unfold aN;simp only;obtain ⟨Wa,gP⟩:=ab (w.alloc (.cells ([.int .i64 vw,.int .i64 vh,.slice lo H lc,.int .i64 r,.int .i64 c,.bool pd,.bool au]:List Value).toArray 26));have ba:Below w.heap.size w Wa:=by rw [gP];exact af _ _
 have ga:Has Wa w.heap.size [.int .i64 vw,.int .i64 vh,.slice lo H lc,.int .i64 r,.int .i64 c,.bool pd,.bool au] 26:=by rw [gP];exact Has.new w _ _
 have iY:=aa (show w.alloc (.cells #[.int .i64 vw,.int .i64 vh,.slice lo H lc,.int .i64 r,.int .i64 c,.bool pd,.bool au] 26)=Wa from by rw [gP]);have HB:=aa ba;have q2:=ga.cell 2 _ rfl;clear gP ba ga hv im hn
 go_enter Tryd.func97,Tryd.ntmps97
 go_upto_region 1 with (fail)
 rw [iY.out]
 go_loopw [1] (fun i wr=>∃ q:Nat,q<=H/\i=.int .i64 q/\Hid (an Ls H (H - q) q=an Ls H (H - r0) r0)/\wr=Wa) (fun i _=>H - (intOf i).toNat)
 case atStart=>exact ⟨r0,hr0,rfl,aa rfl,rfl⟩
 case round =>
  obtain ⟨q,hq,rfl,HP,rfl⟩:=hrel
  by_cases hqH:q<H
  ·obtain ⟨lb,off,cv,e0,iw,_,l0,l1,hcv⟩:=ik.out q (by rw [iL.out];exact hqH);subst e0;have it:=iT.out q hqH;obtain ⟨g,hg⟩:=ab ((Ls.getD q zl).2);obtain ⟨co,cc,ecv⟩:=hcv.len;rw [it] at ecv;subst ecv;obtain ⟨g6,hcc,iA⟩:=aX hcv;clear g6;obtain ⟨cb,coff,tv1,rfl,hcb,_,x0,_,_⟩:=iA 0 (by omega);obtain ⟨K,hK⟩:=ab (aq Ls q 0);rw [show ((Ls.getD q zl).1.getD 0 zc).1=K from hK.symm,Nat.zero_mul,Nat.add_zero] at x0;rw [<-hg] at l1;have l0:=(HB.out.cell (p:=⟨lb,off+q * 2,none⟩) iw).trans l0;have l1:=(HB.out.cell (p:=⟨lb,off+q * 2+1,none⟩) iw).trans l1;have x0:=(HB.out.cell (p:=⟨cb,coff,none⟩) hcb).trans x0;have d0:decide ((q:Int)<(H:Int))=true:=ag (by omega);have d00:decide (q<H)=true:=decide_eq_true hqH;have hqc:q<lc:=by omega
   have hq0:(q:Int)<(H:Int):=by omega
   have h0c:0<cc:=by omega
   have h0W:(0:Int)<(W:Int):=by omega
   have lj:=aa (And.intro hg hK);clear iA hcv it iw hcb hg hK
   cases g with
   |false =>
    have HE:=aa (show an Ls H (H - r0) r0=q from HP.out.symm.trans (fq Ls H q (fun e=>by have h2:=e.2.1;unfold aP at h2;rw [<-lj.out.1] at h2;exact absurd h2 (by decide))));have HR:=aa (show (decide (an Ls H (H - r0) r0<H) && (aq Ls (an Ls H (H - r0) r0) 0 != 0))=(K != 0) from by rw [HE.out,<-lj.out.2,decide_eq_true hqH,Bool.true_and]);clear hqH;go_wp2
    go_quiet (fail)
    have HF:=aa (HB.out.drewN nq);go_wp2;exact bodyPost_ret (v:=.tuple #[.int .i64 (q:Int),.int .i64 0,.bool (K != 0)]) (by simp [results,Tryd.results97,go_sem]) rfl ⟨by rw [HR.out,HE.out],HF.out⟩
   |true =>
    by_cases mA:K=0
    ·subst mA;have HE:=aa (show an Ls H (H - (q+1)) (q+1)=an Ls H (H - r0) r0 from (gx Ls H q hqH lj.out.1.symm lj.out.2.symm).symm.trans HP.out);clear lj;go_wp2
     go_roundw
     case rel=>exact ⟨q+1,by omega,by go_num,HE,by first | rfl | trivial⟩
     case measure=>simp [intOf] <;> omega
    ·have k0:(K == 0)=false:=by rw [beq_eq_false_iff_ne];exact mA
     have HE:=aa (show an Ls H (H - r0) r0=q from HP.out.symm.trans (fq Ls H q (fun e=>mA (lj.out.2.trans e.2.2))));have HR:=aa (show (decide (an Ls H (H - r0) r0<H) && (aq Ls (an Ls H (H - r0) r0) 0 != 0))=(K != 0) from by rw [HE.out,<-lj.out.2,decide_eq_true hqH,Bool.true_and]);clear hqH mA;go_wp2
     go_quiet (fail)
     have HF:=aa (HB.out.drewN nq);go_wp2;exact bodyPost_ret (v:=.tuple #[.int .i64 (q:Int),.int .i64 0,.bool (K != 0)]) (by simp [results,Tryd.results97,go_sem]) rfl ⟨by rw [HR.out,HE.out],HF.out⟩
  ·obtain rfl:q=H:=by omega
   have d0:decide ((q:Int)<(q:Int))=false:=ah (by omega);have HE:=aa (show an Ls q (q - r0) r0=q from HP.out.symm.trans (by rw [Nat.sub_self];rfl));have HR:=aa (show (decide (an Ls q (q - r0) r0<q) && (aq Ls (an Ls q (q - r0) r0) 0 != 0))=false from by rw [HE.out,decide_eq_false (Nat.lt_irrefl q),Bool.false_and]);clear hqH;go_wp2
   go_quiet (fail)
   have HF:=aa (HB.out.drewN nq);go_wp2;exact bodyPost_ret (v:=.tuple #[.int .i64 (q:Int),.int .i64 0,.bool false]) (by simp [results,Tryd.results97,go_sem]) rfl ⟨by rw [HR.out,HE.out],HF.out⟩
end Go.Proofs.YthdphijabffpiaaDoor
