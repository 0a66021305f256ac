import Derived.Test.YtechjomepdahiaaDoorZ0
import Derived.Test.YtechjomepdahiaaDoorMg2
import Derived.Test.YtechjomepdahiaaDoorMg1
set_option maxRecDepth 100000
set_option linter.unusedVariables false
set_option linter.unusedSimpArgs false
set_option maxHeartbeats 1600000
namespace Go.Proofs.YtechjomepdahiaaDoor
open Go.RowKit Go.ChangeShapes Go.WideShapes
theorem iM(Z Y:an)(v u:Value)(a b:List Cl)(w:World)(hx:HeldE cellE Z w v a)(hy:HeldE cellE Y w u b):Calls Tryd.prog 44 #[v,u] w (Gives w (.bool (et a b))):=by
 have hla:=hx.max;obtain ⟨ao,ca,rfl⟩:=hx.len;obtain ⟨bo,cb,rfl⟩:=hy.len;obtain ⟨_,_,hc⟩:=aW hx;obtain ⟨_,_,hd⟩:=aW hy;have HC:=aa hc;have HD:=aa hd;clear hc hd hx hy
 by_cases hl:b.length=a.length
 ·have HL:=aa hl;rw [hl];clear hl
  go_enter Tryd.func44,Tryd.ntmps44
  go_wp2
  go_loopw [5] (fun i wr=>∃ k:Nat,k<=a.length/\i=.int .i64 k/\AlikeC a b k/\Below w.heap.size w wr) (fun i _=>a.length - (intOf i).toNat)
  case atStart=>exact ⟨0,Nat.zero_le _,rfl,(fun j hj=>by omega),Below.refl _ _⟩
  case round =>
   obtain ⟨k,hk,rfl,qu,mP⟩:=hrel;have HA:=aa qu;have mm:=aa mP;clear qu mP
   by_cases hlt:k<a.length
   ·obtain ⟨b1,o1,tv,rfl,hb1,_,c0,c1,hh⟩:=HC.out k hlt;obtain ⟨b2,o2,tu,rfl,hb2,_,d0,d1,hi⟩:=HD.out k (by rw [HL.out];exact hlt);have hlen:=hh.max;have hh:=hh.ints;have hi:=hi.ints;have c0:=(mm.out.cell (p:=⟨b1,o1+k * 2,none⟩) hb1).trans c0;have c1:=(mm.out.cell (p:=⟨b1,o1+k * 2+1,none⟩) hb1).trans c1;have d0:=(mm.out.cell (p:=⟨b2,o2+k * 2,none⟩) hb2).trans d0;have d1:=(mm.out.cell (p:=⟨b2,o2+k * 2+1,none⟩) hb2).trans d1;have rq:=HA.out.next;have hno:=jJ (a:=a) (b:=b) k;obtain ⟨⟨K,T⟩,pB⟩ : ∃ y,y=a.getD k zc:=⟨_,rfl⟩;obtain ⟨⟨K',T'⟩,qw⟩ : ∃ y,y=b.getD k zc:=⟨_,rfl⟩;rw [<-pB] at c0 hh hlen rq hno;rw [<-qw] at d0 hi rq hno;simp only at c0 hh hlen d0 hi;have HH:=aa (hh.below mm.out);have HI:=aa (hi.below mm.out);have xl:=aa rq;have pu:=aa hno;clear pB qw hh hi rq hno;obtain ⟨wk,pn⟩:=ab (wr);subst pn;have c0:=ay c0;have c1:=ay c1;have d0:=ay d0;have d1:=ay d1
    by_cases hk:K=K'
    ·subst hk;have ph:(K != K)=false:=by simp
     have HQ:=aa (fun u:Growth wk=>kI tv tu T T' (ext wk u) (HH.out.below u.ok) (HI.out.below u.ok) hlen)
     cases hs:dO T T' with
     |true =>
      have HS:=aa hs;rw [hs] at HQ;clear hs;go_wp2;refine aC (by kernel_rfl) (by kernel_rfl) ?_
      repeat (go_big_quiet_step (((go_at_call 48;exact eY (HQ.out _)))))
      refine wpQuiet_nil ?_;intro _ hw';obtain ⟨u,hw''⟩:=hw';subst hw'';have HE:=aa (aQ mm.out u);go_wp2
      go_roundw
      case rel=>exact ⟨k+1,by omega,by go_num,xl.out (by have:=of_decide_eq_true HS.out;rw [this]),HE.out⟩
      case measure=>simp [intOf];omega
     |false =>
      have HS:=aa hs;rw [hs] at HQ;clear hs;go_wp2;refine aC (by kernel_rfl) (by kernel_rfl) ?_
      repeat (go_big_quiet_step (((go_at_call 48;exact eY (HQ.out _)))))
      refine wpQuiet_nil ?_;intro _ hw';obtain ⟨u,hw''⟩:=hw';subst hw'';have HE:=aa (aQ mm.out u);go_wp2;go_ret;exact ⟨aq (by rw [pu.out (fun e=>of_decide_eq_false HS.out (congrArg Prod.snd e))];try rfl),HE.out⟩
    ·have ph:(K != K')=true:=by simpa using hk
     have HK:=aa hk;clear hk;go_wp2;refine aC (by kernel_rfl) (by kernel_rfl) ?_
     repeat (go_big_quiet_step ((fail)))
     refine wpQuiet_nil ?_;intro _ hw';obtain ⟨u,hw''⟩:=hw';subst hw'';have HE:=aa (aQ mm.out u);go_wp2;go_ret;exact ⟨aq (by rw [pu.out (fun e=>HK.out (congrArg Prod.fst e))];try rfl),HE.out⟩
   ·obtain rfl:k=a.length:=by omega
    have E:=aa (kK HL.out HA.out);go_wp2;go_ret;exact ⟨aq (by rw [E.out];try rfl),mm.out⟩
 ·have E:=aa (jK hl);have hl2:¬ a.length=b.length:=fun h=>hl h.symm
  go_enter Tryd.func44,Tryd.ntmps44
  go_wp2;go_ret;exact ⟨aq (by rw [E.out];try rfl),Below.refl _ _⟩
end Go.Proofs.YtechjomepdahiaaDoor
