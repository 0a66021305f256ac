import Derived.Test.YtechjomepdahiaaDoorZ0
import Derived.Test.YtechjomepdahiaaDoorMg1
set_option maxRecDepth 100000
set_option linter.unusedVariables false
set_option linter.unusedSimpArgs false
set_option maxHeartbeats 400000
namespace Go.Proofs.YtechjomepdahiaaDoor
open Go.RowKit
theorem cl(r:Int)(w:World):Calls Tryd.prog 98 #[.int .i32 r] w fun e w'=>e=.returned (.bool (aj r))/\w=w':=by
 by_cases h0:0<=r
 ·by_cases h1:r<=1114111
  ·by_cases h2:r<55296
   ·have hv:aj r=true:=validB_true.2 (by omega);rw [hv]
    go_enter Tryd.func98,Tryd.ntmps98
    go_wp2;go_ret;exact ⟨rfl,rfl⟩
   ·by_cases h3:57343<r
    ·have hv:aj r=true:=validB_true.2 (by omega);rw [hv]
     go_enter Tryd.func98,Tryd.ntmps98
     go_wp2;go_ret;exact ⟨rfl,rfl⟩
    ·have hv:aj r=false:=by unfold aj;simp;omega
     rw [hv]
     go_enter Tryd.func98,Tryd.ntmps98
     go_wp2;go_ret;exact ⟨rfl,rfl⟩
  ·have hv:aj r=false:=by unfold aj;simp;omega
   rw [hv]
   go_enter Tryd.func98,Tryd.ntmps98
   go_wp2;go_ret;exact ⟨rfl,rfl⟩
 ·have hv:aj r=false:=by unfold aj;simp;omega
  rw [hv]
  go_enter Tryd.func98,Tryd.ntmps98
  go_wp2;go_ret;exact ⟨rfl,rfl⟩
theorem cV(r:Int)(w:World)(h0:0<=r):Calls Tryd.prog 117 #[.int .i32 r] w fun e w'=>e=.returned (.int .u8 (128+r % 64))/\w=w':=by
 have h1:=g5 r h0;have h2:=dm 128 (r % 64) 6 (by decide) (by decide) (by decide) (by omega) (by omega) (by omega);have h3:r % 64 % 256=r % 64:=by omega
 go_enter Tryd.func117,Tryd.ntmps117
 go_wp2;go_ret;exact ⟨ax (by simp [h1,h2,h3]),rfl⟩
theorem cO(r:Int)(w:World):Calls Tryd.prog 116 #[.int .i32 r] w fun e w'=>e=.returned (.int .i64 (aF r))/\w=w':=by
 by_cases hv:aj r=true
 ·have hr:=validB_true.1 hv;obtain ⟨h0,h1,_⟩:=hr;have hs:aF r=if r<128 then 1 else if r<2048 then 2 else if r<65536 then 3 else 4:=by simp [aF,hv]
  have HS:=aa hs;clear hs
  by_cases h128:r<128
  ·go_enter Tryd.func116,Tryd.ntmps116
   go_wp2_with (go_at_call 98;refine (cl _ _).mono ?_;rintro e w' ⟨rfl,rfl⟩)
   go_ret;exact ⟨ax (by rw [HS.out];simp [h128]),rfl⟩
  ·go_enter Tryd.func116,Tryd.ntmps116
   go_wp2_with (go_at_call 98;refine (cl _ _).mono ?_;rintro e w' ⟨rfl,rfl⟩)
   all_goals go_ret
   all_goals exact ⟨ax (by rw [HS.out];(repeat (first | rw [if_pos (by omega)] | rw [if_neg (by omega)]));all_goals rfl),rfl⟩
 ·have hf:aj r=false:=by simpa using hv
  have hs:aF r=0:=by simp [aF,hf]
  rw [hs]
  go_enter Tryd.func116,Tryd.ntmps116
  go_wp2_with (go_at_call 98;refine (cl _ _).mono ?_;rintro e w' ⟨rfl,rfl⟩)
  go_ret;exact ⟨rfl,rfl⟩
def cm(B:Nat)(w:World)(n:Nat)(xs:List Int)(e:Ending)(w':World):Prop :=
 ∃ v',e=.returned v'/\w'.ownsRow B 5 1 v' n (xs.map (Value.int .u8))/\Below B w w'
theorem jn(B:Nat)(v:Value)(n:Nat)(xs:List Int)(r:Int)(w:World)(hown:w.ownsRow B 5 1 v n (xs.map (Value.int .u8)))(hB:B<=w.heap.size)(hn:n<=140737488355000)
  (hv:aj r=true) (h1:0<=r) (h2:r<128):Calls Tryd.prog 110 #[v,.int .i32 r] w (cm B w (n+1) (xs++[r])):=by
 have hs:aF r=1:=by
  unfold aF;rw [if_neg (by simp [hv])]
  repeat (first | rw [if_pos (by omega)] | rw [if_neg (by omega)])
 have hm:r % 256=r:=by omega
 have HS:=aa hs;clear hs hv
 go_enter Tryd.func110,Tryd.ntmps110
 go_wp2_with fail
 refine (cO _ _).mono ?_;rintro e w' ⟨rfl,rfl⟩;rw [HS.out]
 go_wp2_with (at_builtin;refine aO w rfl (.tmp 9) (.tmp 12) 46 rfl B 5 (.int .u8 0) 1 Tryd.underlying46 Tryd.info5 rfl v n (xs.map (Value.int .u8)) rfl hown [.int .u8 (r)] 1 1 rfl rfl (by intro u hu;simp at hu;rcases hu with rfl <;> rfl) (by omega) (by omega) hB ?_)
 intro v' w' hown' hb;clear hown;go_wp2;go_ret;exact ⟨v',rfl,by simpa using hown',hb⟩
theorem jo(B:Nat)(v:Value)(n:Nat)(xs:List Int)(r:Int)(w:World)(hown:w.ownsRow B 5 1 v n (xs.map (Value.int .u8)))(hB:B<=w.heap.size)(hn:n<=140737488355000)
  (hv:aj r=true) (h1:128<=r) (h2:r<2048):Calls Tryd.prog 110 #[v,.int .i32 r] w (cm B w (n+2) (xs++[192+r / 64,128+r % 64])):=by
 have hs:aF r=2:=by
  unfold aF;rw [if_neg (by simp [hv])]
  repeat (first | rw [if_pos (by omega)] | rw [if_neg (by omega)])
 have hj:=dm 192 (r / 64) 6 (by decide) (by decide) (by decide) (by omega) (by omega) (by omega);have hm:r / 64 % 256=r / 64:=by omega
 have HS:=aa hs;clear hs hv
 go_enter Tryd.func110,Tryd.ntmps110
 go_wp2_with fail
 refine (cO _ _).mono ?_;rintro e w' ⟨rfl,rfl⟩;rw [HS.out]
 go_wp2_with fail
 refine (cV r _ (by omega)).mono ?_;rintro e w' ⟨rfl,rfl⟩
 go_wp2_with (at_builtin;refine aO w rfl (.tmp 16) (.tmp 23) 46 rfl B 5 (.int .u8 0) 1 Tryd.underlying46 Tryd.info5 rfl v n (xs.map (Value.int .u8)) rfl hown [.int .u8 (192+r / 64),.int .u8 (128+r % 64)] 2 2 rfl rfl (by intro u hu;simp at hu;rcases hu with rfl | rfl <;> rfl) (by omega) (by omega) hB ?_)
 intro v' w' hown' hb;clear hown;go_wp2;go_ret;exact ⟨v',rfl,by simpa using hown',hb⟩
theorem jp(B:Nat)(v:Value)(n:Nat)(xs:List Int)(r:Int)(w:World)(hown:w.ownsRow B 5 1 v n (xs.map (Value.int .u8)))(hB:B<=w.heap.size)(hn:n<=140737488355000)
  (hv:aj r=true) (h1:2048<=r) (h2:r<65536):Calls Tryd.prog 110 #[v,.int .i32 r] w (cm B w (n+3) (xs++[224+r / 4096,128+r / 64 % 64,128+r % 64])):=by
 have hs:aF r=3:=by
  unfold aF;rw [if_neg (by simp [hv])]
  repeat (first | rw [if_pos (by omega)] | rw [if_neg (by omega)])
 have hj:=dm 224 (r / 4096) 4 (by decide) (by decide) (by decide) (by omega) (by omega) (by omega);have hm:r / 4096 % 256=r / 4096:=by omega
 have HS:=aa hs;clear hs hv
 go_enter Tryd.func110,Tryd.ntmps110
 go_wp2_with fail
 refine (cO _ _).mono ?_;rintro e w' ⟨rfl,rfl⟩;rw [HS.out]
 go_wp2_with fail
 refine (cV (r / 64) _ (by omega)).mono ?_;rintro e w' ⟨rfl,rfl⟩
 go_wp2_with fail
 refine (cV r _ (by omega)).mono ?_;rintro e w' ⟨rfl,rfl⟩
 go_wp2_with (at_builtin;refine aO w rfl (.tmp 27) (.tmp 37) 46 rfl B 5 (.int .u8 0) 1 Tryd.underlying46 Tryd.info5 rfl v n (xs.map (Value.int .u8)) rfl hown [.int .u8 (224+r / 4096),.int .u8 (128+r / 64 % 64),.int .u8 (128+r % 64)] 3 3 rfl rfl (by intro u hu;simp at hu;rcases hu with rfl | rfl | rfl <;> rfl) (by omega) (by omega) hB ?_)
 intro v' w' hown' hb;clear hown;go_wp2;go_ret;exact ⟨v',rfl,by simpa using hown',hb⟩
theorem jq(B:Nat)(v:Value)(n:Nat)(xs:List Int)(r:Int)(w:World)(hown:w.ownsRow B 5 1 v n (xs.map (Value.int .u8)))(hB:B<=w.heap.size)(hn:n<=140737488355000)
  (hv:aj r=true) (h1:65536<=r) (h2:r<1114112):Calls Tryd.prog 110 #[v,.int .i32 r] w (cm B w (n+4) (xs++[240+r / 262144,128+r / 4096 % 64,128+r / 64 % 64,128+r % 64])):=by
 have hs:aF r=4:=by
  unfold aF;rw [if_neg (by simp [hv])]
  repeat (first | rw [if_pos (by omega)] | rw [if_neg (by omega)])
 have hj:=dm 240 (r / 262144) 3 (by decide) (by decide) (by decide) (by omega) (by omega) (by omega);have hm:r / 262144 % 256=r / 262144:=by omega
 have HS:=aa hs;clear hs hv
 go_enter Tryd.func110,Tryd.ntmps110
 go_wp2_with fail
 refine (cO _ _).mono ?_;rintro e w' ⟨rfl,rfl⟩;rw [HS.out]
 go_wp2_with fail
 refine (cV (r / 4096) _ (by omega)).mono ?_;rintro e w' ⟨rfl,rfl⟩
 go_wp2_with fail
 refine (cV (r / 64) _ (by omega)).mono ?_;rintro e w' ⟨rfl,rfl⟩
 go_wp2_with fail
 refine (cV r _ (by omega)).mono ?_;rintro e w' ⟨rfl,rfl⟩
 go_wp2_with (at_builtin;refine aO w rfl (.tmp 41) (.tmp 54) 46 rfl B 5 (.int .u8 0) 1 Tryd.underlying46 Tryd.info5 rfl v n (xs.map (Value.int .u8)) rfl hown [.int .u8 (240+r / 262144),.int .u8 (128+r / 4096 % 64),.int .u8 (128+r / 64 % 64),.int .u8 (128+r % 64)] 4 4 rfl rfl (by intro u hu;simp at hu;rcases hu with rfl | rfl | rfl | rfl <;> rfl) (by omega) (by omega) hB ?_)
 intro v' w' hown' hb;clear hown;go_wp2;go_ret;exact ⟨v',rfl,by simpa using hown',hb⟩
theorem jr(B:Nat)(v:Value)(n:Nat)(xs:List Int)(r:Int)(w:World)(hown:w.ownsRow B 5 1 v n (xs.map (Value.int .u8)))
  (hv:aj r=false):Calls Tryd.prog 110 #[v,.int .i32 r] w (cm B w n xs):=by
 have HS:=aa (show aF r=0 from by unfold aF;rw [if_pos hv]);clear hv
 go_enter Tryd.func110,Tryd.ntmps110
 go_wp2_with fail
 refine (cO _ _).mono ?_;rintro e w' ⟨rfl,rfl⟩;rw [HS.out];go_wp2;go_ret;exact ⟨v,rfl,hown,Below.refl _ _⟩
theorem gi(B:Nat)(v:Value)(n:Nat)(xs:List Int)(r:Int)(w:World)(hown:w.ownsRow B 5 1 v n (xs.map (Value.int .u8)))(hB:B<=w.heap.size)(hn:n<=140737488355000) :
  Calls Tryd.prog 110 #[v,.int .i32 r] w (cm B w (n+(av r).length) (xs++av r)):=by
 cases hv:aj r with
 |false =>
  have hf:av r=[]:=by simp [av,hv]
  rw [hf]
  simpa using jr B v n xs r w hown hv
 |true =>
  have hr:=validB_true.1 hv
  by_cases h1:r<128
  ·have hf:av r=[r]:=by unfold av;rw [if_neg (by simp [hv]),if_pos h1]
   rw [hf];exact jn B v n xs r w hown hB hn hv (by omega) h1
  ·by_cases h2:r<2048
   ·have hf:av r=[192+r / 64,128+r % 64]:=by unfold av;rw [if_neg (by simp [hv]),if_neg h1,if_pos h2]
    rw [hf];exact jo B v n xs r w hown hB hn hv (by omega) h2
   ·by_cases h3:r<65536
    ·have hf:av r=[224+r / 4096,128+r / 64 % 64,128+r % 64]:=by unfold av;rw [if_neg (by simp [hv]),if_neg h1,if_neg h2,if_pos h3]
     rw [hf];exact jp B v n xs r w hown hB hn hv (by omega) h3
    ·have hf:av r=[240+r / 262144,128+r / 4096 % 64,128+r / 64 % 64,128+r % 64]:=by unfold av;rw [if_neg (by simp [hv]),if_neg h1,if_neg h2,if_neg h3]
     rw [hf];exact jq B v n xs r w hown hB hn hv (by omega) (by omega)
end Go.Proofs.YtechjomepdahiaaDoor
