import Derived.Test.YtechjomepdahiaaDoorZ0
import Derived.Test.YtechjomepdahiaaDoorMg2
import Derived.Deep.QuietTactic
set_option maxRecDepth 100000
set_option linter.unusedVariables false
set_option linter.unusedSimpArgs false
set_option maxHeartbeats 400000
namespace Go.Proofs.YtechjomepdahiaaDoor
open Go.RowKit Go.ChangeShapes Go.WideShapes
theorem dP(r:Int)(w:World):Calls Tryd.prog 97 #[.int .i32 r] w fun e w'=>e=.returned (.bool (!ai r))/\w=w':=by
 go_enter Tryd.func97,Tryd.ntmps97
 go_wp2_with fail
 refine (cA _ _).mono ?_;rintro e w' ⟨rfl,rfl⟩;go_wp2;go_ret;exact ⟨rfl,rfl⟩
def ll(w:World)(b:Bool)(e:Ending)(w':World):Prop:=∃ n:Int,e=.returned (.int .i64 n)/\decide (0<=n)=b/\Below w.heap.size w w'
def iJ(t:List Int)(k:Nat):Prop:=∀ j,j<k->ai (t.getD j 0)=true
theorem dv{t:List Int}(h:iJ t t.length):aM t=true:=by
 unfold aM;rw [List.all_eq_true];intro x hx;obtain ⟨i,hi,rfl⟩:=List.getElem_of_mem hx;have:=h i hi
 rwa [show t.getD i 0=t[i] from by simp [List.getD,List.getElem?_eq_getElem hi]] at this
theorem db{t:List Int}{k:Nat}(hk:k<t.length)(h:ai (t.getD k 0)=false):aM t=false:=by
 cases hc:aM t with
 |false=>rfl
 |true =>
  unfold aM at hc;rw [List.all_eq_true] at hc;have:=hc t[k] (List.getElem_mem hk);rw [show t.getD k 0=t[k] from by simp [List.getD,List.getElem?_eq_getElem hk],this] at h
  cases h
theorem gl(v:Value)(t:List Int)(w:World)(ht:Held .i32 w v t)(hl:t.length<=9223372036854775807):Calls Tryd.prog 105 #[v,.func (.func 97) #[] #[]] w (ll w (!aM t)):=by
 obtain ⟨ao,cap,rfl,hc⟩:=ht.view;have HC:=aa hc;clear hc ht
 go_enter Tryd.func105,Tryd.ntmps105
 go_wp2
 go_loopw [8] (fun i wr=>∃ k:Nat,k<=t.length/\i=.int .i64 k/\iJ t k/\wr=w) (fun i _=>t.length - (intOf i).toNat)
 case atStart=>exact ⟨0,Nat.zero_le _,rfl,(fun j hj=>by omega),(by first | rfl | trivial)⟩
 case round =>
  obtain ⟨k,hk,rfl,hg,yd⟩:=hrel;subst yd;have HG:=aa hg;clear hg
  by_cases hlt:k<t.length
  ·obtain ⟨b,off,rfl,hb,mx⟩:=HC.out k hlt;obtain ⟨x,hx⟩:=ab (t.getD k 0);rw [<-hx] at mx;have HX:=aa hx;clear hx
   cases hv:ai x with
   |true =>
    have HV:=aa hv;clear hv
    go_wp2_with fail
    refine (dP _ _).mono ?_;rintro e w' ⟨rfl,rfl⟩;rw [HV.out];go_wp2
    go_roundw
    case rel=>exact ⟨k+1,by omega,by go_num,(fun j hj=>by
     rcases Nat.lt_or_ge j k with h | h
     ·exact HG.out j h
     ·obtain rfl:j=k:=by omega
      rw [<-HX.out];exact HV.out),(by first | rfl | trivial)⟩
    case measure=>simp [intOf];omega
   |false =>
    have HV:=aa hv;clear hv
    go_wp2_with fail
    refine (dP _ _).mono ?_;rintro e w' ⟨rfl,rfl⟩;rw [HV.out];go_wp2;go_ret;exact ⟨k,rfl,by rw [db hlt (by rw [<-HX.out];exact HV.out)];simp,Below.refl _ _⟩
  ·obtain rfl:k=t.length:=by omega
   go_wp2;go_ret;exact ⟨-1,rfl,by rw [dv HG.out];rfl,Below.refl _ _⟩
theorem eC(v:Value)(t:List Int)(w:World)(ht:Held .i32 w v t)(hl:t.length<=9223372036854775807):Calls Tryd.prog 96 #[v,.func (.func 97) #[] #[]] w (Gives w (.bool (!aM t))):=by
 have HI:=aa (gl v t w ht hl);obtain ⟨ao,cap,rfl,_⟩:=ht.view;clear ht;generalize (!aM t)=q at HI ⊢
 go_enter Tryd.func96,Tryd.ntmps96
 go_wp2_with fail
 refine (HI.out).mono ?_;rintro e w' ⟨n,rfl,hn,hb⟩
 cases q with
 |true =>
  have h0:0<=n:=by simpa using hn
  clear hn;go_wp2;go_ret;exact ⟨ae,hb⟩
 |false =>
  have h0:n<0:=by simpa using hn
  clear hn;go_wp2;go_ret;exact ⟨ae,hb⟩
theorem dr{k:Int}{t:List Int}(h:(k == 0 || k == 3)=true):am (k,t)=((t.length:Int) == 0):=by
 unfold am;simp only [h,if_true];rw [Bool.eq_iff_iff,beq_iff_eq,beq_iff_eq];omega
theorem eS{k:Int}{t:List Int}(h:k=1\/k=2):am (k,t)=(decide (0<t.length) && decide (t.length<=16) && aM t):=by
 unfold am
 rcases h with rfl | rfl <;> rfl
theorem eT{k:Int}{t:List Int}(h0:(k == 0)=false)(h1:(k == 1)=false)(h2:(k == 2)=false)(h3:(k == 3)=false):am (k,t)=false:=by
 unfold am;simp only [h0,h1,h2,h3]
 rfl
theorem jE(k:Int)(tv:Value)(t:List Int)(w:World)(ht:Held .i32 w tv t)(hl:t.length<=9223372036854775807):Calls Tryd.prog 81 #[.agg #[.int .i64 k,tv]] w (Gives w (.bool (am (k,t)))):=by
 have HT:=aa ht;obtain ⟨ao,cap,rfl,_⟩:=ht.view;clear ht;have HB:=aa (l7 w (.cells #[.int .i64 k,.slice ao t.length cap] 85))
 by_cases h0:k=0
 ·subst h0;have HR:=aa (dr (k:=0) (t:=t) rfl)
  go_enter Tryd.func81,Tryd.ntmps81
  go_wp2;go_ret;exact ⟨aq (by rw [HR.out];rfl),HB.out⟩
 by_cases h3:k=3
 ·subst h3;have HR:=aa (dr (k:=3) (t:=t) rfl)
  go_enter Tryd.func81,Tryd.ntmps81
  go_wp2;go_ret;exact ⟨aq (by rw [HR.out];rfl),HB.out⟩
 by_cases h12:k=1\/k=2
 ·have HR:=aa (eS (t:=t) h12);have oU:=aa (eC _ t _ (HT.out.below HB.out) hl)
  by_cases hz:0<t.length
  ·by_cases h16:t.length<=16
   ·generalize aM t=q at HR oU;have HQ:=aa (show am (k,t)=q by rw [HR.out,decide_eq_true hz,decide_eq_true h16];rfl);clear HR
    rcases h12 with rfl | rfl
    all_goals
     go_enter Tryd.func81,Tryd.ntmps81
     go_wp2_with fail
     refine (oU.out).mono ?_;rintro e w' ⟨rfl,hb⟩;have hb2:=HB.out.trans (hb.mono HB.out.size);go_wp2;go_ret;exact ⟨aq (by rw [HQ.out];cases q <;> rfl),hb2⟩
   ·have HQ:=aa (show am (k,t)=false by rw [HR.out,decide_eq_false h16];simp);clear HR oU
    rcases h12 with rfl | rfl
    all_goals
     go_enter Tryd.func81,Tryd.ntmps81
     go_wp2;go_ret;exact ⟨aq (by rw [HQ.out];try rfl),HB.out⟩
  ·have HQ:=aa (show am (k,t)=false by rw [HR.out,decide_eq_false hz];rfl);have hz0:t.length=0:=by omega
   obtain rfl:t=[]:=List.eq_nil_of_length_eq_zero hz0;simp only [List.length_nil] at HB ⊢;clear HR oU hz hz0
   rcases h12 with rfl | rfl
   all_goals
    go_enter Tryd.func81,Tryd.ntmps81
    go_wp2;go_ret;exact ⟨aq (by rw [HQ.out];try rfl),HB.out⟩
 ·have b0:(k == 0)=false:=by simpa using h0
  have b1:(k == 1)=false:=by simp;omega
  have b2:(k == 2)=false:=by simp;omega
  have b3:(k == 3)=false:=by simpa using h3
  have HQ:=aa (eT (t:=t) b0 b1 b2 b3);clear h0 h3 h12
  go_enter Tryd.func81,Tryd.ntmps81
  go_wp2;go_ret;exact ⟨aq (by rw [HQ.out];try rfl),HB.out⟩
end Go.Proofs.YtechjomepdahiaaDoor
