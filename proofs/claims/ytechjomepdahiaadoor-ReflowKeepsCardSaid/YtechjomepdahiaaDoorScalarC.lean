import Derived.Test.YtechjomepdahiaaDoorZ0
import Derived.Test.YtechjomepdahiaaDoorMg1
set_option maxRecDepth 100000
set_option linter.unusedVariables false
set_option linter.unusedSimpArgs false
set_option maxHeartbeats 400000
namespace Go.Proofs.YtechjomepdahiaaDoor
open Go.RowKit
theorem cd(r:Int)(w:World):Calls Tryd.prog 98 #[.int .i32 r] w fun e w'=>e=.returned (.bool (ar r))/\w=w':=by
 by_cases h0:0<=r
 ·by_cases h1:r<=1114111
  ·by_cases h2:r<55296
   ·have hv:ar r=true:=validB_true.2 (by omega);rw [hv]
    go_enter Tryd.func98,Tryd.ntmps98
    go_wp2;go_ret;exact ⟨rfl,rfl⟩
   ·by_cases h3:57343<r
    ·have hv:ar r=true:=validB_true.2 (by omega);rw [hv]
     go_enter Tryd.func98,Tryd.ntmps98
     go_wp2;go_ret;exact ⟨rfl,rfl⟩
    ·have hv:ar r=false:=by unfold ar;simp;omega
     rw [hv]
     go_enter Tryd.func98,Tryd.ntmps98
     go_wp2;go_ret;exact ⟨rfl,rfl⟩
  ·have hv:ar r=false:=by unfold ar;simp;omega
   rw [hv]
   go_enter Tryd.func98,Tryd.ntmps98
   go_wp2;go_ret;exact ⟨rfl,rfl⟩
 ·have hv:ar r=false:=by unfold ar;simp;omega
  rw [hv]
  go_enter Tryd.func98,Tryd.ntmps98
  go_wp2;go_ret;exact ⟨rfl,rfl⟩
end Go.Proofs.YtechjomepdahiaaDoor
