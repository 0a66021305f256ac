import Derived.Test.YtoeggiplcaegoaaGreatDoorZ0
import Derived.Test.YtoeggiplcaegoaaGreatDoorHgC
set_option maxRecDepth 100000
set_option linter.unusedVariables false
set_option linter.unusedSimpArgs false
set_option maxHeartbeats 2000000
namespace Go.Proofs.YtoeggiplcaegoaaGreatDoor
open Go.RowKit Go.ChangeShapes Go.WideShapes
theorem kw(r:Int)(w:World)(h1 : -2147483648<=r)(h2:r<=2147483647)(h:r<44032\/55203<r):Calls Tryz.prog 191 #[.int .i32 r] w fun e w'=>e=.returned (.tuple #[.int .i64 0,.int .i64 0,.int .i64 0])/\w=w':=by
 rcases h with h | h
 all_goals
  go_enter Tryz.func191,Tryz.ntmps191
  go_wp2
  go_ret3
  exact ⟨rfl,rfl⟩
theorem oD(r:Int)(w:World)(h1:44032<=r)(h2:r<=55203):Calls Tryz.prog 191 #[.int .i32 r] w fun e w'=>e=.returned (.tuple #[.int .i64 (spL r),.int .i64 (spV r),.int .i64 (spT r)])/\w=w':=by
 go_enter Tryz.func191,Tryz.ntmps191
 go_wp2
 go_loop [6,7] (fun at_ l=>∃ i:Int,0<=i/\i<=19/\l=.int .i64 (4352+i)/\at_=.int .i64 (44032+588 * i)/\44032+588 * i<=r) (fun _ l=>(4371 - intOf l).toNat)
 case atStart=>exact ⟨0,by omega,by omega,rfl,rfl,by omega⟩
 case round =>
  obtain ⟨i,i0,i1,rfl,rfl,hi⟩:=hrel;have hi19:i<19:=by omega
  go_wp2
  go_loop [6,8] (fun at_ v=>∃ j:Int,0<=j/\j<=21/\v=.int .i64 (4449+j)/\at_=.int .i64 (44032+588 * i+28 * j)/\44032+588 * i+28 * j<=r) (fun _ v=>(4470 - intOf v).toNat)
  case atStart=>exact ⟨0,by omega,by omega,rfl,(by simp),by omega⟩
  case round =>
   obtain ⟨j,j0,j1,rfl,rfl,hj⟩:=hrel
   by_cases hj21:j<21
   ·by_cases hlt:r<44032+588 * i+28 * j+28
    ·have O2:dW r=true:=by unfold dW;simp;omega
     have ea:spL r=4352+i:=by unfold spL;rw [if_pos O2];omega
     have eb:spV r=4449+j:=by unfold spV;rw [if_pos O2];omega
     have ec:spT r=if r=44032+588 * i+28 * j then 0 else 4519+r - (44032+588 * i+28 * j):=by
      unfold spT;rw [O2];simp only [true_and];have:(r - 44032) % 28=r - (44032+588 * i+28 * j):=by omega
      rw [this];omega
     clear O2;have EA:=ab ea;have EB:=ab eb;have EC:=ab ec;clear ea eb ec
     by_cases hz:r=44032+588 * i+28 * j
     ·have hz2:(4519+r - (44032+588 * i+28 * j) == 4519)=true:=by simp;omega
      have HZ:=ab hz;clear hz;go_wp2
      go_ret3
      refine ⟨?_,rfl⟩;rw [EA.out,EB.out,EC.out,if_pos HZ.out]
      rfl
     ·have hz2:(4519+r - (44032+588 * i+28 * j) == 4519)=false:=by simp;omega
      go_wp2
      go_ret3
      refine ⟨?_,rfl⟩;rw [EA.out,EB.out,EC.out,if_neg hz]
      rfl
    ·go_wp2
     go_round
     case rel=>exact ⟨j+1,by omega,by omega,by rw [Int.add_assoc],by congr 1;omega,by omega⟩
     case measure=>simp [intOf];omega
   ·obtain rfl:j=21:=by omega
    go_wp2
    go_round
    case rel=>exact ⟨i+1,by omega,by omega,by rw [Int.add_assoc],by congr 1;omega,by omega⟩
    case measure=>simp [intOf];omega
theorem oE(r:Int)(w:World)(h1 : -2147483648<=r)(h2:r<=2147483647):Calls Tryz.prog 191 #[.int .i32 r] w fun e w'=>e=.returned (.tuple #[.int .i64 (spL r),.int .i64 (spV r),.int .i64 (spT r)])/\w=w':=by
 rcases kt r with ⟨h3,hs⟩ | ⟨h3,h4,hs⟩ | ⟨h3,hs⟩
 ·rw [show spL r=0 from by simp [spL,hs],show spV r=0 from by simp [spV,hs],show spT r=0 from by simp [spT,hs]];exact kw r w h1 h2 (.inl h3)
 ·exact oD r w h3 h4
 ·rw [show spL r=0 from by simp [spL,hs],show spV r=0 from by simp [spV,hs],show spT r=0 from by simp [spT,hs]];exact kw r w h1 h2 (.inr h3)
theorem oF(r:Int)(w:World)(b1 : -2147483648<=r)(b2:r<=2147483647):Calls Tryz.prog 126 #[.int .i32 r] w fun e w'=>e=.returned (.int .i64 (bi r))/\w=w':=by
 rcases ku r with h1 | ⟨h1,h2⟩ | ⟨h1,h2⟩ | ⟨h1,h2⟩ | ⟨h1,h2⟩ | ⟨h1,h2⟩ | ⟨h1,h2⟩ | ⟨h1,h2,h3⟩ | ⟨h1,h2,h3⟩ | ⟨h1,h2⟩ | ⟨h1,h2⟩ | ⟨h1,h2⟩ | ⟨h1,h2⟩ | h1
 all_goals
  first
  |rw [show bi r=9 from by unfold bi;rw [if_pos (by omega)]]
  |rw [show bi r=10 from by unfold bi;rw [if_neg (by omega),if_pos (by omega)]]
  |rw [show bi r=11 from by unfold bi;rw [if_neg (by omega),if_neg (by omega),if_pos (by omega)]]
  |rw [show bi r=0 from by unfold bi;rw [if_neg (by omega),if_neg (by omega),if_neg (by omega),if_pos (by omega)]]
  |rw [show bi r=12 from by unfold bi;rw [if_neg (by omega),if_neg (by omega),if_neg (by omega),if_neg (by omega),if_pos (by omega)]]
  |rw [show bi r=13 from by unfold bi;rw [if_neg (by omega),if_neg (by omega),if_neg (by omega),if_neg (by omega),if_neg (by omega)]]
  have hs:(spL r=0)\/(spL r≠0/\spT r=0)\/(spL r≠0/\spT r≠0):=by omega
  first
  |have HS:=ab (show spL r=0 from by unfold spL dW;rw [if_neg (by simp;omega)])
   have hg:True:=trivial
  |have hl0:(spL r == 0)=false:=by simp only [beq_eq_false_iff_ne];unfold spL dW;rw [if_pos (by simp;omega)];omega
   have HS:=ab (show spT r=0 from by unfold spT dW;rw [if_neg (by simp;omega)])
  |have hl0:(spL r == 0)=false:=by simp only [beq_eq_false_iff_ne];unfold spL dW;rw [if_pos (by simp;omega)];omega
   have E0:(spT r == 0)=false:=by simp only [beq_eq_false_iff_ne];unfold spT dW;rw [if_pos (by simp;omega)];omega
   have HS:=ab trivial
  clear hs
  go_enter Tryz.func126,Tryz.ntmps126
  go_wp2_with (go_at_call 191;refine (oE r _ b1 b2).mono ?_;rintro e w' ⟨rfl,rfl⟩;try rw [HS.out])
  go_ret;exact ⟨rfl,rfl⟩
end Go.Proofs.YtoeggiplcaegoaaGreatDoor
