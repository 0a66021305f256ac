import Derived.Test.YthdphijabffpiaaZ0
import Derived.Test.YthdphijabffpiaaProg
import Derived.Test.YthdphijabffpiaaMg1
import Derived.Shelf.Abstract
import Derived.Deep.LoopGhost
set_option maxRecDepth 100000
set_option linter.unusedVariables false
set_option linter.unusedSimpArgs false
set_option maxHeartbeats 400000
namespace Go.Proofs.Ythdphijabffpiaa
open Go.RowKit Go.ChangeShapes Go.WideShapes
def iw(w:World)(n:Nat)(p:Nat->Bool)(e:Ending)(w':World):Prop :=
 ∃ k:Nat,k<=n/\e=.returned (.int .i64 k)/\(∀ j,j<k->p j=false)/\(∀ j,k<=j->j<n->p j=true)/\Below w.heap.size w w'
theorem fg(g:FuncId)(cb:Array Value)(n:Nat)(p:Nat->Bool)(w:World)(eg:∀ args w,(callFunc g args).run Try.prog w=.ok (.enter g args) w)(hn:n<=1000000000)
  (hf:∀ w',Below w.heap.size w w'->∀ i,i<n->Calls Try.prog g (#[.int .i64 i]++cb) w' fun e w''=>e=.returned (.bool (p i))/\Below w'.heap.size w' w'')
  (hm:∀ a b,a<=b->b<n->p a=true->p b=true) :
  Calls Try.prog 54 #[.int .i64 n,.func (.func g) #[] cb] w (iw w n p):=by
 have HF:=aa hf;have M:=aa hm;clear hf hm
 go_enter Try.func54,Try.ntmps54
 go_wp2
 go_loopg [5,6] n (fun kx s5 s6 wr=>∃ (lo hi:Nat),s5=.int .i64 lo/\s6=.int .i64 hi/\lo<=hi/\hi<=n/\hi - lo<=kx/\Below w.heap.size w wr /\
  Go.Aside ((∀ t,t<lo->p t=false)/\(∀ t,hi<=t->t<n->p t=true)))
 case atStart=>exact ⟨0,n,rfl,rfl,Nat.zero_le _,Nat.le_refl _,by omega,Below.refl _ _,(⟨fun t ht=>absurd ht (Nat.not_lt_zero _),fun t h1 h2=>by omega⟩ : (∀ t,t<0->p t=false)/\(∀ t,n<=t->t<n->p t=true))⟩
 case round =>
  obtain ⟨lo,hi,rfl,rfl,hlh,jM,hg,iN,I⟩:=hrel
  by_cases hlt:lo<hi
  ·have hc:=HF.out _ iN ((lo+hi) / 2) (by omega);rw [show (((lo+hi) / 2:Nat):Int)=((lo:Int)+(hi:Int)) / 2 by omega] at hc
   cases hp:p ((lo+hi) / 2) <;> rw [hp] at hc
   ·have HP:=aa hp;clear hp
    go_wp2_with (go_at_fn g;refine hc.mono ?_;rintro e w' ⟨rfl,jY⟩)
    go_roundg (hi - ((lo+hi) / 2+1))
    case measure=>omega
    case rel =>
     have I2:Go.Aside ((∀ t,t<(lo+hi) / 2+1->p t=false)/\(∀ t,hi<=t->t<n->p t=true)):=⟨fun t ht=>(by
      cases h:p t with
      | false=>rfl
      | true=>have:=M.out t ((lo+hi) / 2) (by omega) (by omega) h;rw [HP.out] at this;cases this),I.out.2⟩
     exact ⟨(lo+hi) / 2+1,hi,by rw [show ((lo:Int)+(hi:Int)) / 2+1=(((lo+hi) / 2+1:Nat):Int) by omega],rfl,by omega,jM,Nat.le_refl _,iN.trans (jY.mono iN.size),I2⟩
   ·have HP:=aa hp;clear hp
    go_wp2_with (go_at_fn g;refine hc.mono ?_;rintro e w' ⟨rfl,jY⟩)
    go_roundg ((lo+hi) / 2 - lo)
    case measure=>omega
    case rel =>
     have I2:Go.Aside ((∀ t,t<lo->p t=false)/\(∀ t,(lo+hi) / 2<=t->t<n->p t=true)):=⟨I.out.1,fun t ht kp=>M.out ((lo+hi) / 2) t ht kp HP.out⟩;exact ⟨lo,(lo+hi) / 2,rfl,by rw [show ((lo:Int)+(hi:Int)) / 2=(((lo+hi) / 2:Nat):Int) by omega],by omega,by omega,Nat.le_refl _,iN.trans (jY.mono iN.size),I2⟩
  ·obtain rfl:hi=lo:=by omega
   have HI:=aa I.out;clear I;go_wp2;go_ret;exact ⟨hi,jM,rfl,HI.out.1,HI.out.2,iN⟩
end Go.Proofs.Ythdphijabffpiaa
