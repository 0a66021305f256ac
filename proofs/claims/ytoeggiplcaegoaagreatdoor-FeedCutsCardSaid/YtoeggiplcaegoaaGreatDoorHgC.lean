import Derived.Test.YtoeggiplcaegoaaGreatDoorZ0
import Derived.Test.YtoeggiplcaegoaaGreatDoorProg
import Derived.Test.YtoeggiplcaegoaaGreatDoorMg1
import Derived.OpenShut
set_option maxRecDepth 100000
set_option linter.unusedVariables false
set_option linter.unusedSimpArgs false
set_option maxHeartbeats 2000000
namespace Go.Proofs.YtoeggiplcaegoaaGreatDoor
open Go.RowKit Go.ChangeShapes Go.WideShapes
def dW(r:Int):Bool:=decide (44032<=r) && decide (r<=55203)
theorem kt(r:Int):(r<44032/\dW r=false)\/(44032<=r/\r<=55203/\dW r=true)\/(55203<r/\dW r=false):=by unfold dW;simp;omega
theorem oC(r:Int)(w:World):Calls Tryz.prog 280 #[.int .i32 r] w fun e w'=>e=.returned (.bool (dW r))/\w=w':=by
 rcases kt r with ⟨h2,hs⟩ | ⟨h2,h3,hs⟩ | ⟨h2,hs⟩
 all_goals
  rw [hs];clear hs
  go_enter Tryz.func280,Tryz.ntmps280
  go_wp2;go_ret;exact ⟨al (by first | rfl | (simp;omega)),rfl⟩
def spL(r:Int):Int:=if dW r=true then 4352+(r - 44032) / 588 else 0
def spV(r:Int):Int:=if dW r=true then 4449+(r - 44032) % 588 / 28 else 0
def spT(r:Int):Int:=if dW r=true/\(r - 44032) % 28≠0 then 4519+(r - 44032) % 28 else 0
def bi(r:Int):Int :=
 if (4352<=r/\r<=4447)\/(43360<=r/\r<=43388) then 9
 else if (4448<=r/\r<=4519)\/(55216<=r/\r<=55238) then 10
 else if (4520<=r/\r<=4607)\/(55243<=r/\r<=55291) then 11
 else if r<44032\/55203<r then 0
 else if (r - 44032) % 28=0 then 12 else 13
theorem ku(r:Int):(r<4352)\/(4352<=r/\r<=4447)\/(4448<=r/\r<=4519)\/(4520<=r/\r<=4607)\/(4607<r/\r<43360)\/(43360<=r/\r<=43388)\/(43388<r/\r<44032)\/(44032<=r/\r<=55203/\(r - 44032) % 28=0)\/(44032<=r/\r<=55203/\0<(r - 44032) % 28)\/(55203<r/\r<55216)\/(55216<=r/\r<=55238)\/(55238<r/\r<55243)\/(55243<=r/\r<=55291)\/(55291<r):=by omega
theorem mT(r:Int)(w:World):Calls Tryz.prog 240 #[.int .i32 r] w fun e w'=>e=.returned (.int .i64 (bi r))/\w=w':=by
 rcases ku r with h1 | ⟨h1,h2⟩ | ⟨h1,h2⟩ | ⟨h1,h2⟩ | ⟨h1,h2⟩ | ⟨h1,h2⟩ | ⟨h1,h2⟩ | ⟨h1,h2,h3⟩ | ⟨h1,h2,h3⟩ | ⟨h1,h2⟩ | ⟨h1,h2⟩ | ⟨h1,h2⟩ | ⟨h1,h2⟩ | h1
 all_goals
  first
  | rw [show bi r=9 from by unfold bi;rw [if_pos (by omega)]]
  | rw [show bi r=10 from by unfold bi;rw [if_neg (by omega),if_pos (by omega)]]
  | rw [show bi r=11 from by unfold bi;rw [if_neg (by omega),if_neg (by omega),if_pos (by omega)]]
  | rw [show bi r=0 from by unfold bi;rw [if_neg (by omega),if_neg (by omega),if_neg (by omega),if_pos (by omega)]]
  | rw [show bi r=12 from by unfold bi;rw [if_neg (by omega),if_neg (by omega),if_neg (by omega),if_neg (by omega),if_pos (by omega)]]
  | rw [show bi r=13 from by unfold bi;rw [if_neg (by omega),if_neg (by omega),if_neg (by omega),if_neg (by omega),if_neg (by omega)]]
  first
  | have HS:=ab (show dW r=true from by unfold dW;simp;omega)
  | have HS:=ab (show dW r=false from by unfold dW;simp;omega)
  try have h4:((r - 44032) % 28 == 0)=true:=by simpa using h3
  try have h5:((r - 44032) % 28 == 0)=false:=by simp;omega
  go_enter Tryz.func240,Tryz.ntmps240
  go_wp2_with (go_at_call 280;refine (oC r _).mono ?_;rintro e w' ⟨rfl,rfl⟩;rw [HS.out])
  go_ret;exact ⟨rfl,rfl⟩
end Go.Proofs.YtoeggiplcaegoaaGreatDoor
