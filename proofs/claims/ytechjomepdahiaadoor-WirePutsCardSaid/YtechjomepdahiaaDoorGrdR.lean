import Derived.Test.YtechjomepdahiaaDoorZ0
import Derived.Test.YtechjomepdahiaaDoorMg4
import Derived.Test.YtechjomepdahiaaDoorMg1
set_option maxRecDepth 100000
set_option linter.unusedVariables false
set_option linter.unusedSimpArgs false
set_option maxHeartbeats 1600000
namespace Go.Proofs.YtechjomepdahiaaDoor
open Go.RowKit Go.ChangeShapes Go.WideShapes
def dS(a b:List Ln):Bool:=decide (a=b)
theorem iO(a:List Ln):dS a a=true:=by simp [dS]
theorem kL{a b:List Ln}(hl:b.length=a.length)(h:∀ j,j<a.length->a.getD j zl=b.getD j zl):dS a b=true:=by
 unfold dS;rw [decide_eq_true_eq]
 apply List.ext_getElem hl.symm
 intro i h1 h2;have:=h i h1
 simpa [List.getD,List.getElem?_eq_getElem h1,List.getElem?_eq_getElem h2] using this
theorem jL{a b:List Ln}(j:Nat)(h:a.getD j zl≠b.getD j zl):dS a b=false:=by
 unfold dS;rw [decide_eq_false_iff_not];rintro rfl;exact h rfl
theorem jM{a b:List Ln}(h:¬ b.length=a.length):dS a b=false:=by
 unfold dS;rw [decide_eq_false_iff_not];rintro rfl;exact h rfl
def AlikeL(a b:List Ln)(k:Nat):Prop:=∀ j,j<k->a.getD j zl=b.getD j zl
theorem AlikeL.next{a b:List Ln}{k:Nat}(h:AlikeL a b k)(e:a.getD k zl=b.getD k zl):AlikeL a b (k+1):=by
 intro j hj
 by_cases e':j=k
 ·subst e';exact e
 ·exact h j (by omega)
theorem iP(Z Y:an)(v u:Value)(a b:List Ln)(w:World)(hx:HeldE lineE Z w v a)(hy:HeldE lineE Y w u b):Calls Tryd.prog 13 #[v,u] w (Gives w (.bool (dS a b))):=by
 have hla:=hx.max;obtain ⟨ao,ca,rfl⟩:=hx.len;obtain ⟨bo,cb,rfl⟩:=hy.len;obtain ⟨_,_,hc⟩:=aP hx;obtain ⟨_,_,hd⟩:=aP hy;have HC:=aa hc;have HD:=aa hd;clear hc hd hx hy
 by_cases hl:b.length=a.length
 ·have HL:=aa hl;rw [hl];clear hl
  go_enter Tryd.func13,Tryd.ntmps13
  go_wp2
  go_loopw [5] (fun i wr=>∃ k:Nat,k<=a.length/\i=.int .i64 k/\AlikeL a b k/\Below w.heap.size w wr) (fun i _=>a.length - (intOf i).toNat)
  case atStart=>exact ⟨0,Nat.zero_le _,rfl,(fun j hj=>by omega),Below.refl _ _⟩
  case round =>
   obtain ⟨k,hk,rfl,qu,mP⟩:=hrel;have HA:=aa qu;have mm:=aa mP;clear qu mP
   by_cases hlt:k<a.length
   ·obtain ⟨b1,o1,tv,rfl,hb1,_,c0,c1,hh⟩:=HC.out k hlt;obtain ⟨b2,o2,tu,rfl,hb2,_,d0,d1,hi⟩:=HD.out k (by rw [HL.out];exact hlt);have c0:=(mm.out.cell (p:=⟨b1,o1+k * 2,none⟩) hb1).trans c0;have c1:=(mm.out.cell (p:=⟨b1,o1+k * 2+1,none⟩) hb1).trans c1;have d0:=(mm.out.cell (p:=⟨b2,o2+k * 2,none⟩) hb2).trans d0;have d1:=(mm.out.cell (p:=⟨b2,o2+k * 2+1,none⟩) hb2).trans d1;have rq:=HA.out.next;have hno:=jL (a:=a) (b:=b) k;obtain ⟨⟨T,K⟩,pB⟩ : ∃ y,y=a.getD k zl:=⟨_,rfl⟩;obtain ⟨⟨T',K'⟩,qw⟩ : ∃ y,y=b.getD k zl:=⟨_,rfl⟩;rw [<-pB] at c1 hh rq hno;rw [<-qw] at d1 hi rq hno;simp only at c1 hh d1 hi;have HH:=aa (hh.below mm.out);have HI:=aa (hi.below mm.out);have xl:=aa rq;have pu:=aa hno;clear pB qw hh hi rq hno;obtain ⟨wk,pn⟩:=ab (wr);subst pn;have c0:=ay c0;have c1:=ay c1;have d0:=ay d0;have d1:=ay d1
    by_cases hk:K=K'
    ·subst hk;have ph:(K != K)=false:=by simp
     have HQ:=aa (fun u:Growth wk=>iM _ _ tv tu T T' (ext wk u) (HH.out.below u.ok) (HI.out.below u.ok))
     cases hs:et T T' with
     |true =>
      have HS:=aa hs;rw [hs] at HQ;clear hs ph
      cases K
      all_goals
       go_wp2;refine aC (by kernel_rfl) (by kernel_rfl) ?_
       repeat (go_big_quiet_step (((go_at_call 44;exact eY (HQ.out _)))))
       refine wpQuiet_nil ?_;intro _ hw';obtain ⟨u,hw''⟩:=hw';subst hw'';have HE:=aa (aQ mm.out u);go_wp2
       go_roundw
       case rel=>exact ⟨k+1,by omega,by go_num,xl.out (by have:=of_decide_eq_true HS.out;rw [this]),HE.out⟩
       case measure=>simp [intOf];omega
     |false =>
      have HS:=aa hs;rw [hs] at HQ;clear hs ph
      cases K
      all_goals
       go_wp2;refine aC (by kernel_rfl) (by kernel_rfl) ?_
       repeat (go_big_quiet_step (((go_at_call 44;exact eY (HQ.out _)))))
       refine wpQuiet_nil ?_;intro _ hw';obtain ⟨u,hw''⟩:=hw';subst hw'';have HE:=aa (aQ mm.out u);go_wp2;go_ret;exact ⟨aq (by rw [pu.out (fun e=>of_decide_eq_false HS.out (congrArg Prod.fst e))];try rfl),HE.out⟩
    ·have HK:=aa hk;clear hk
     cases K <;> cases K' <;> first | exact absurd rfl HK.out | skip
     all_goals
      go_wp2;refine aC (by kernel_rfl) (by kernel_rfl) ?_
      repeat (go_big_quiet_step ((fail)))
      refine wpQuiet_nil ?_;intro _ hw';obtain ⟨u,hw''⟩:=hw';subst hw'';have HE:=aa (aQ mm.out u);go_wp2;go_ret;exact ⟨aq (by rw [pu.out (fun e=>HK.out (congrArg Prod.snd e))];try rfl),HE.out⟩
   ·obtain rfl:k=a.length:=by omega
    have E:=aa (kL HL.out HA.out);go_wp2;go_ret;exact ⟨aq (by rw [E.out];try rfl),mm.out⟩
 ·have E:=aa (jM hl);have hl2:¬ a.length=b.length:=fun h=>hl h.symm
  go_enter Tryd.func13,Tryd.ntmps13
  go_wp2;go_ret;exact ⟨aq (by rw [E.out];try rfl),Below.refl _ _⟩
end Go.Proofs.YtechjomepdahiaaDoor
