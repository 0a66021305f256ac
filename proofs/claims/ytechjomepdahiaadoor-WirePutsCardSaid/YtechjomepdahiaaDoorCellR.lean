import Derived.Test.YtechjomepdahiaaDoorZ0
import Derived.Test.YtechjomepdahiaaDoorCellB
import Derived.Test.YtechjomepdahiaaDoorScalarR
set_option maxRecDepth 100000
set_option linter.unusedVariables false
set_option linter.unusedSimpArgs false
set_option maxHeartbeats 400000
namespace Go.Proofs.YtechjomepdahiaaDoor
open Go.RowKit Go.ChangeShapes Go.WideShapes
theorem iR(k:Int)(tv:Value)(t:List Int)(w:World)(ht:Held .i32 w tv t)(hl:t.length<=9223372036854775807):Calls Tryd.prog 39 #[.agg #[.int .i64 k,tv]] w (Gives w (.bool (am (k,t)))):=by
 obtain ⟨ao,cap,rfl,hc⟩:=ht.view;have HC:=aa hc;clear ht hc;have HB:=aa (l7 w (.cells #[.int .i64 k,.slice ao t.length cap] 85))
 by_cases h0:k=0
 ·subst h0;have HR:=aa (dr (k:=0) (t:=t) rfl)
  go_enter Tryd.func39,Tryd.ntmps39
  go_wp2;go_ret;exact ⟨aq (by rw [HR.out];rfl),HB.out⟩
 by_cases h3:k=3
 ·subst h3;have HR:=aa (dr (k:=3) (t:=t) rfl)
  go_enter Tryd.func39,Tryd.ntmps39
  go_wp2;go_ret;exact ⟨aq (by rw [HR.out];rfl),HB.out⟩
 by_cases h12:k=1\/k=2
 ·have HR:=aa (eS (t:=t) h12)
  by_cases hz:0<t.length
  ·by_cases h16:t.length<=16
   ·have HQ:=aa (show am (k,t)=aM t by rw [HR.out,decide_eq_true hz,decide_eq_true h16];rfl);clear HR
    rcases h12 with rfl | rfl
    all_goals
     go_enter Tryd.func39,Tryd.ntmps39
     go_wp2
     go_loopw [3] (fun i wr=>∃ j:Nat,j<=t.length/\i=.int .i64 j/\iJ t j/\wr=w.alloc (.cells #[.int .i64 _,.slice ao t.length cap] 85)) (fun i _=>t.length - (intOf i).toNat)
     case atStart=>exact ⟨0,Nat.zero_le _,rfl,(fun j hj=>by omega),(by first | rfl | trivial)⟩
     case round =>
      obtain ⟨j,hj,rfl,hg,yd⟩:=hrel;subst yd;have HG:=aa hg;clear hg
      by_cases hlt:j<t.length
      ·obtain ⟨b,off,rfl,hb,mx⟩:=HC.out j hlt;have mx:=(HB.out.cell (p:=⟨b,off+j,none⟩) hb).trans mx;obtain ⟨x,hx⟩:=ab (t.getD j 0);rw [<-hx] at mx;have HX:=aa hx;clear hx
       cases pP:ai x with
       |true =>
        have HV:=aa pP;clear pP
        go_wp2_with fail
        refine (bT _ _).mono ?_;rintro e w' ⟨rfl,rfl⟩;rw [HV.out];go_wp2
        go_roundw
        case rel=>exact ⟨j+1,by omega,by go_num,(fun i hi=>by
         rcases Nat.lt_or_ge i j with h | h
         ·exact HG.out i h
         ·obtain rfl:i=j:=by omega
          rw [<-HX.out];exact HV.out),(by first | rfl | trivial)⟩
        case measure=>simp [intOf];omega
       |false =>
        have HV:=aa pP;clear pP
        go_wp2_with fail
        refine (bT _ _).mono ?_;rintro e w' ⟨rfl,rfl⟩;rw [HV.out];go_wp2;go_ret;exact ⟨aq (by rw [HQ.out,db hlt (by rw [<-HX.out];exact HV.out)];try rfl),HB.out⟩
      ·obtain rfl:j=t.length:=by omega
       go_wp2;go_ret;exact ⟨aq (by rw [HQ.out,dv HG.out];try rfl),HB.out⟩
   ·have HQ:=aa (show am (k,t)=false by rw [HR.out,decide_eq_false h16];simp);clear HR
    rcases h12 with rfl | rfl
    all_goals
     go_enter Tryd.func39,Tryd.ntmps39
     go_wp2;go_ret;exact ⟨aq (by rw [HQ.out];try rfl),HB.out⟩
  ·have HQ:=aa (show am (k,t)=false by rw [HR.out,decide_eq_false hz];rfl);have hz0:t.length=0:=by omega
   obtain rfl:t=[]:=List.eq_nil_of_length_eq_zero hz0;simp only [List.length_nil] at HB ⊢;clear HR hz hz0
   rcases h12 with rfl | rfl
   all_goals
    go_enter Tryd.func39,Tryd.ntmps39
    go_wp2;go_ret;exact ⟨aq (by rw [HQ.out];try rfl),HB.out⟩
 ·have b0:(k == 0)=false:=by simpa using h0
  have b1:(k == 1)=false:=by simp;omega
  have b2:(k == 2)=false:=by simp;omega
  have b3:(k == 3)=false:=by simpa using h3
  have c1:(k != 1)=true:=by simp;omega
  have c2:(k != 2)=true:=by simp;omega
  have HQ:=aa (eT (t:=t) b0 b1 b2 b3);clear h0 h3 h12
  go_enter Tryd.func39,Tryd.ntmps39
  go_wp2;go_ret;exact ⟨aq (by rw [HQ.out];try rfl),HB.out⟩
theorem ib(Z:an)(v:Value)(L:List Cl)(i:Int)(w:World)(hv:HeldE cellE Z w v L)(hl:L.length<=9223372036854775807):Calls Tryd.prog 79 #[v,.int .i64 i] w (Gives w (.int .i64 (aG L i))):=by
 obtain ⟨ao,cap,rfl⟩:=hv.len;obtain ⟨_,_,hc⟩:=aW hv
 by_cases h0:i<0
 ·have HK:=aa (show aG L i=0 by unfold aG;rw [if_pos h0]);clear hc hv
  go_enter Tryd.func79,Tryd.ntmps79
  go_wp2;go_ret;exact ⟨aq (by rw [HK.out];try rfl),Below.refl _ _⟩
 ·obtain ⟨j,rfl⟩:=Int.eq_ofNat_of_zero_le (show 0<=i by omega);have HK:=aa (show aG L j=(L.getD j zc).1 by unfold aG;rw [if_neg (by omega)];rfl)
  by_cases hlt:j<L.length
  ·obtain ⟨b,off,tv,rfl,hb,_,c0,_,_⟩:=hc j hlt;clear hc hv h0;obtain ⟨K,pB⟩:=ab ((L.getD j zc).1);rw [<-pB] at c0 HK;clear pB
   go_enter Tryd.func79,Tryd.ntmps79
   go_wp2;go_ret;exact ⟨aq (by rw [HK.out];try rfl),Below.refl _ _⟩
  ·have HZ:=aa (show aG L j=0 by rw [HK.out,gh _ _ _ (by omega)]);clear hc hv h0 HK
   go_enter Tryd.func79,Tryd.ntmps79
   go_wp2;go_ret;exact ⟨aq (by rw [HZ.out];try rfl),Below.refl _ _⟩
end Go.Proofs.YtechjomepdahiaaDoor
