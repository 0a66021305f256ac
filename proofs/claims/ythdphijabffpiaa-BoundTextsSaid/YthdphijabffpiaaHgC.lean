import Derived.Test.YthdphijabffpiaaZ0
import Derived.Test.YthdphijabffpiaaProg
import Derived.Test.YthdphijabffpiaaMg1
import Derived.OpenShut
set_option maxRecDepth 100000
set_option linter.unusedVariables false
set_option linter.unusedSimpArgs false
set_option maxHeartbeats 2000000
namespace Go.Proofs.Ythdphijabffpiaa
open Go.RowKit Go.ChangeShapes Go.WideShapes
def cT(r:Int):Bool:=decide (44032<=r) && decide (r<=55203)
theorem eG(r:Int):(r<44032/\cT r=false)\/(44032<=r/\r<=55203/\cT r=true)\/(55203<r/\cT r=false):=by unfold cT;simp;omega
theorem eu(r:Int)(w:World):Calls Try.prog 53 #[.int .i32 r] w fun e w'=>e=.returned (.bool (cT r))/\w=w':=by
 rcases eG r with ⟨h2,hs⟩ | ⟨h2,h3,hs⟩ | ⟨h2,hs⟩
 all_goals
  rw [hs];clear hs
  go_enter Try.func53,Try.ntmps53
  go_wp2;go_ret;exact ⟨az (by first | rfl | (simp;omega)),rfl⟩
def aR(r:Int):Int :=
 if (4352<=r/\r<=4447)\/(43360<=r/\r<=43388) then 9
 else if (4448<=r/\r<=4519)\/(55216<=r/\r<=55238) then 10
 else if (4520<=r/\r<=4607)\/(55243<=r/\r<=55291) then 11
 else if r<44032\/55203<r then 0
 else if (r - 44032) % 28=0 then 12 else 13
theorem eH(r:Int):(r<4352)\/(4352<=r/\r<=4447)\/(4448<=r/\r<=4519)\/(4520<=r/\r<=4607)\/(4607<r/\r<43360)\/(43360<=r/\r<=43388)\/(43388<r/\r<44032)\/(44032<=r/\r<=55203/\(r - 44032) % 28=0)\/(44032<=r/\r<=55203/\0<(r - 44032) % 28)\/(55203<r/\r<55216)\/(55216<=r/\r<=55238)\/(55238<r/\r<55243)\/(55243<=r/\r<=55291)\/(55291<r):=by omega
theorem d7(r:Int)(w:World):Calls Try.prog 35 #[.int .i32 r] w fun e w'=>e=.returned (.int .i64 (aR r))/\w=w':=by
 rcases eH r with h1 | ⟨h1,h2⟩ | ⟨h1,h2⟩ | ⟨h1,h2⟩ | ⟨h1,h2⟩ | ⟨h1,h2⟩ | ⟨h1,h2⟩ | ⟨h1,h2,h3⟩ | ⟨h1,h2,h3⟩ | ⟨h1,h2⟩ | ⟨h1,h2⟩ | ⟨h1,h2⟩ | ⟨h1,h2⟩ | h1
 all_goals
  first
  | rw [show aR r=9 from by unfold aR;rw [if_pos (by omega)]]
  | rw [show aR r=10 from by unfold aR;rw [if_neg (by omega),if_pos (by omega)]]
  | rw [show aR r=11 from by unfold aR;rw [if_neg (by omega),if_neg (by omega),if_pos (by omega)]]
  | rw [show aR r=0 from by unfold aR;rw [if_neg (by omega),if_neg (by omega),if_neg (by omega),if_pos (by omega)]]
  | rw [show aR r=12 from by unfold aR;rw [if_neg (by omega),if_neg (by omega),if_neg (by omega),if_neg (by omega),if_pos (by omega)]]
  | rw [show aR r=13 from by unfold aR;rw [if_neg (by omega),if_neg (by omega),if_neg (by omega),if_neg (by omega),if_neg (by omega)]]
  first
  | have HS:=aa (show cT r=true from by unfold cT;simp;omega)
  | have HS:=aa (show cT r=false from by unfold cT;simp;omega)
  try have h4:((r - 44032) % 28 == 0)=true:=by simpa using h3
  try have h5:((r - 44032) % 28 == 0)=false:=by simp;omega
  go_enter Try.func35,Try.ntmps35
  go_wp2_with (go_at_call 53;refine (eu r _).mono ?_;rintro e w' ⟨rfl,rfl⟩;rw [HS.out])
  go_ret;exact ⟨rfl,rfl⟩
end Go.Proofs.Ythdphijabffpiaa
