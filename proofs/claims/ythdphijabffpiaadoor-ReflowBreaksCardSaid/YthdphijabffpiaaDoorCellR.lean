import Derived.Test.YthdphijabffpiaaDoorZ0
import Derived.Test.YthdphijabffpiaaDoorCellB
import Derived.Test.YthdphijabffpiaaDoorMg1
set_option maxRecDepth 100000
set_option linter.unusedVariables false
set_option linter.unusedSimpArgs false
set_option maxHeartbeats 400000
namespace Go.Proofs.YthdphijabffpiaaDoor
open Go.RowKit Go.ChangeShapes Go.WideShapes
theorem e7(k:Int)(tv:Value)(t:List Int)(w:World)(ht:Held .i32 w tv t)(hl:t.length<=9223372036854775807):Calls Tryd.prog 48 #[.agg #[.int .i64 k,tv]] w (Gives w (.bool (ap (k,t)))):=by
 obtain ⟨ao,cap,rfl,hc⟩:=ht.view;have HC:=aa hc;clear ht hc;have HB:=aa (af w (.cells #[.int .i64 k,.slice ao t.length cap] 74))
 by_cases h0:k=0
 ·subst h0;have HR:=aa (bW (k:=0) (t:=t) rfl)
  go_enter Tryd.func48,Tryd.ntmps48
  go_wp2;go_ret;exact ⟨ak (by rw [HR.out];rfl),HB.out⟩
 by_cases h3:k=3
 ·subst h3;have HR:=aa (bW (k:=3) (t:=t) rfl)
  go_enter Tryd.func48,Tryd.ntmps48
  go_wp2;go_ret;exact ⟨ak (by rw [HR.out];rfl),HB.out⟩
 by_cases jt:k=1\/k=2
 ·have HR:=aa (cl (t:=t) jt)
  by_cases hz:0<t.length
  ·by_cases ks:t.length<=16
   ·have HQ:=aa (show ap (k,t)=aA t by rw [HR.out,decide_eq_true hz,decide_eq_true ks];rfl);clear HR
    rcases jt with rfl | rfl
    all_goals
     go_enter Tryd.func48,Tryd.ntmps48
     go_wp2
     go_loopw [3] (fun i wr=>∃ j:Nat,j<=t.length/\i=.int .i64 j/\eS t j/\wr=w.alloc (.cells #[.int .i64 _,.slice ao t.length cap] 74)) (fun i _=>t.length - (intOf i).toNat)
     case atStart=>exact ⟨0,Nat.zero_le _,rfl,(fun j hj=>by omega),(by first | rfl | trivial)⟩
     case round =>
      obtain ⟨j,hj,rfl,hg,mT⟩:=hrel;subst mT;have HG:=aa hg;clear hg
      by_cases hlt:j<t.length
      ·obtain ⟨b,off,rfl,hb,iV⟩:=HC.out j hlt;have iV:=(HB.out.cell (p:=⟨b,off+j,none⟩) hb).trans iV;obtain ⟨x,hx⟩:=ab (t.getD j 0);rw [<-hx] at iV;have HX:=aa hx;clear hx
       cases hvx:ar x with
       |true =>
        have HV:=aa hvx;clear hvx
        go_wp2_with fail
        refine (bg _ _).mono ?_;rintro e w' ⟨rfl,rfl⟩;rw [HV.out];go_wp2
        go_roundw
        case rel=>exact ⟨j+1,by omega,by go_num,(fun i hi=>by
         rcases Nat.lt_or_ge i j with h | h
         ·exact HG.out i h
         ·obtain rfl:i=j:=by omega
          rw [<-HX.out];exact HV.out),(by first | rfl | trivial)⟩
        case measure=>simp [intOf];omega
       |false =>
        have HV:=aa hvx;clear hvx
        go_wp2_with fail
        refine (bg _ _).mono ?_;rintro e w' ⟨rfl,rfl⟩;rw [HV.out];go_wp2;go_ret;exact ⟨ak (by rw [HQ.out,bN hlt (by rw [<-HX.out];exact HV.out)];try rfl),HB.out⟩
      ·obtain rfl:j=t.length:=by omega
       go_wp2;go_ret;exact ⟨ak (by rw [HQ.out,ce HG.out];try rfl),HB.out⟩
   ·have HQ:=aa (show ap (k,t)=false by rw [HR.out,decide_eq_false ks];simp);clear HR
    rcases jt with rfl | rfl
    all_goals
     go_enter Tryd.func48,Tryd.ntmps48
     go_wp2;go_ret;exact ⟨ak (by rw [HQ.out];try rfl),HB.out⟩
  ·have HQ:=aa (show ap (k,t)=false by rw [HR.out,decide_eq_false hz];rfl);have hz0:t.length=0:=by omega
   obtain rfl:t=[]:=List.eq_nil_of_length_eq_zero hz0;simp only [List.length_nil] at HB ⊢;clear HR hz hz0
   rcases jt with rfl | rfl
   all_goals
    go_enter Tryd.func48,Tryd.ntmps48
    go_wp2;go_ret;exact ⟨ak (by rw [HQ.out];try rfl),HB.out⟩
 ·have b0:(k == 0)=false:=by simpa using h0
  have b1:(k == 1)=false:=by simp;omega
  have b2:(k == 2)=false:=by simp;omega
  have b3:(k == 3)=false:=by simpa using h3
  have c1:(k != 1)=true:=by simp;omega
  have c2:(k != 2)=true:=by simp;omega
  have HQ:=aa (dj (t:=t) b0 b1 b2 b3);clear h0 h3 jt
  go_enter Tryd.func48,Tryd.ntmps48
  go_wp2;go_ret;exact ⟨ak (by rw [HQ.out];try rfl),HB.out⟩
theorem eF(Z:aj)(v:Value)(L:List Cl)(i:Int)(w:World)(hv:HeldE cellE Z w v L)(hl:L.length<=9223372036854775807):Calls Tryd.prog 49 #[v,.int .i64 i] w (Gives w (.int .i64 (aH L i))):=by
 obtain ⟨ao,cap,rfl⟩:=hv.len;obtain ⟨_,_,hc⟩:=aB hv
 by_cases h0:i<0
 ·have HK:=aa (show aH L i=0 by unfold aH;rw [if_pos h0]);clear hc hv
  go_enter Tryd.func49,Tryd.ntmps49
  go_wp2;go_ret;exact ⟨ak (by rw [HK.out];try rfl),Below.refl _ _⟩
 ·obtain ⟨j,rfl⟩:=Int.eq_ofNat_of_zero_le (show 0<=i by omega);have HK:=aa (show aH L j=(L.getD j zc).1 by unfold aH;rw [if_neg (by omega)];rfl)
  by_cases hlt:j<L.length
  ·obtain ⟨b,off,tv,rfl,hb,_,c0,_,_⟩:=hc j hlt;clear hc hv h0;obtain ⟨K,ic⟩:=ab ((L.getD j zc).1);rw [<-ic] at c0 HK;clear ic
   go_enter Tryd.func49,Tryd.ntmps49
   go_wp2;go_ret;exact ⟨ak (by rw [HK.out];try rfl),Below.refl _ _⟩
  ·have HZ:=aa (show aH L j=0 by rw [HK.out,fq _ _ _ (by omega)]);clear hc hv h0 HK
   go_enter Tryd.func49,Tryd.ntmps49
   go_wp2;go_ret;exact ⟨ak (by rw [HZ.out];try rfl),Below.refl _ _⟩
end Go.Proofs.YthdphijabffpiaaDoor
