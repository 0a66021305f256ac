import Derived.Test.YtechjomepdahiaaDoorZ0
import Derived.Test.YtechjomepdahiaaDoorMg1
set_option maxRecDepth 100000
set_option linter.unusedVariables false
set_option linter.unusedSimpArgs false
set_option maxHeartbeats 400000
namespace Go.Proofs.YtechjomepdahiaaDoor
open Go.RowKit
theorem cA(r:Int)(w:World):Calls Tryd.prog 98 #[.int .i32 r] w fun e w'=>e=.returned (.bool (ai r))/\w=w':=by
 by_cases h0:0<=r
 ·by_cases h1:r<=1114111
  ·by_cases h2:r<55296
   ·have hv:ai r=true:=validB_true.2 (by omega);rw [hv]
    go_enter Tryd.func98,Tryd.ntmps98
    go_wp2;go_ret;exact ⟨rfl,rfl⟩
   ·by_cases h3:57343<r
    ·have hv:ai r=true:=validB_true.2 (by omega);rw [hv]
     go_enter Tryd.func98,Tryd.ntmps98
     go_wp2;go_ret;exact ⟨rfl,rfl⟩
    ·have hv:ai r=false:=by unfold ai;simp;omega
     rw [hv]
     go_enter Tryd.func98,Tryd.ntmps98
     go_wp2;go_ret;exact ⟨rfl,rfl⟩
  ·have hv:ai r=false:=by unfold ai;simp;omega
   rw [hv]
   go_enter Tryd.func98,Tryd.ntmps98
   go_wp2;go_ret;exact ⟨rfl,rfl⟩
 ·have hv:ai r=false:=by unfold ai;simp;omega
  rw [hv]
  go_enter Tryd.func98,Tryd.ntmps98
  go_wp2;go_ret;exact ⟨rfl,rfl⟩
theorem dm(r:Int)(w:World)(h0:0<=r):Calls Tryd.prog 117 #[.int .i32 r] w fun e w'=>e=.returned (.int .u8 (128+r % 64))/\w=w':=by
 have h1:=jA r h0;have h2:=dM 128 (r % 64) 6 (by decide) (by decide) (by decide) (by omega) (by omega) (by omega);have h3:r % 64 % 256=r % 64:=by omega
 go_enter Tryd.func117,Tryd.ntmps117
 go_wp2;go_ret;exact ⟨aq (by simp [h1,h2,h3]),rfl⟩
theorem c9(r:Int)(w:World):Calls Tryd.prog 116 #[.int .i32 r] w fun e w'=>e=.returned (.int .i64 (aJ r))/\w=w':=by
 by_cases hv:ai r=true
 ·have hr:=validB_true.1 hv;obtain ⟨h0,h1,_⟩:=hr;have hs:aJ r=if r<128 then 1 else if r<2048 then 2 else if r<65536 then 3 else 4:=by simp [aJ,hv]
  have HS:=aa hs;clear hs
  by_cases h128:r<128
  ·go_enter Tryd.func116,Tryd.ntmps116
   go_wp2_with (go_at_call 98;refine (cA _ _).mono ?_;rintro e w' ⟨rfl,rfl⟩)
   go_ret;exact ⟨aq (by rw [HS.out];simp [h128]),rfl⟩
  ·go_enter Tryd.func116,Tryd.ntmps116
   go_wp2_with (go_at_call 98;refine (cA _ _).mono ?_;rintro e w' ⟨rfl,rfl⟩)
   all_goals go_ret
   all_goals exact ⟨aq (by rw [HS.out];(repeat (first | rw [if_pos (by omega)] | rw [if_neg (by omega)]));all_goals rfl),rfl⟩
 ·have hf:ai r=false:=by simpa using hv
  have hs:aJ r=0:=by simp [aJ,hf]
  rw [hs]
  go_enter Tryd.func116,Tryd.ntmps116
  go_wp2_with (go_at_call 98;refine (cA _ _).mono ?_;rintro e w' ⟨rfl,rfl⟩)
  go_ret;exact ⟨rfl,rfl⟩
def cB(B:Nat)(w:World)(n:Nat)(xs:List Int)(e:Ending)(w':World):Prop :=
 ∃ v',e=.returned v'/\w'.ownsRow B 5 1 v' n (xs.map (Value.int .u8))/\Below B w w'
theorem lg(B:Nat)(v:Value)(n:Nat)(xs:List Int)(r:Int)(w:World)(hown:w.ownsRow B 5 1 v n (xs.map (Value.int .u8)))(hB:B<=w.heap.size)(hn:n<=140737488355000)
  (hv:ai r=true) (h1:0<=r) (h2:r<128):Calls Tryd.prog 110 #[v,.int .i32 r] w (cB B w (n+1) (xs++[r])):=by
 have hs:aJ r=1:=by
  unfold aJ;rw [if_neg (by simp [hv])]
  repeat (first | rw [if_pos (by omega)] | rw [if_neg (by omega)])
 have hm:r % 256=r:=by omega
 have HS:=aa hs;clear hs hv
 go_enter Tryd.func110,Tryd.ntmps110
 go_wp2_with fail
 refine (c9 _ _).mono ?_;rintro e w' ⟨rfl,rfl⟩;rw [HS.out]
 go_wp2_with (at_builtin;refine aV w rfl (.tmp 9) (.tmp 12) 46 rfl B 5 (.int .u8 0) 1 Tryd.underlying46 Tryd.info5 rfl v n (xs.map (Value.int .u8)) rfl hown [.int .u8 (r)] 1 1 rfl rfl (by intro u hu;simp at hu;rcases hu with rfl <;> rfl) (by omega) (by omega) hB ?_)
 intro v' w' hown' hb;clear hown;go_wp2;go_ret;exact ⟨v',rfl,by simpa using hown',hb⟩
theorem lh(B:Nat)(v:Value)(n:Nat)(xs:List Int)(r:Int)(w:World)(hown:w.ownsRow B 5 1 v n (xs.map (Value.int .u8)))(hB:B<=w.heap.size)(hn:n<=140737488355000)
  (hv:ai r=true) (h1:128<=r) (h2:r<2048):Calls Tryd.prog 110 #[v,.int .i32 r] w (cB B w (n+2) (xs++[192+r / 64,128+r % 64])):=by
 have hs:aJ r=2:=by
  unfold aJ;rw [if_neg (by simp [hv])]
  repeat (first | rw [if_pos (by omega)] | rw [if_neg (by omega)])
 have hj:=dM 192 (r / 64) 6 (by decide) (by decide) (by decide) (by omega) (by omega) (by omega);have hm:r / 64 % 256=r / 64:=by omega
 have HS:=aa hs;clear hs hv
 go_enter Tryd.func110,Tryd.ntmps110
 go_wp2_with fail
 refine (c9 _ _).mono ?_;rintro e w' ⟨rfl,rfl⟩;rw [HS.out]
 go_wp2_with fail
 refine (dm r _ (by omega)).mono ?_;rintro e w' ⟨rfl,rfl⟩
 go_wp2_with (at_builtin;refine aV w rfl (.tmp 16) (.tmp 23) 46 rfl B 5 (.int .u8 0) 1 Tryd.underlying46 Tryd.info5 rfl v n (xs.map (Value.int .u8)) rfl hown [.int .u8 (192+r / 64),.int .u8 (128+r % 64)] 2 2 rfl rfl (by intro u hu;simp at hu;rcases hu with rfl | rfl <;> rfl) (by omega) (by omega) hB ?_)
 intro v' w' hown' hb;clear hown;go_wp2;go_ret;exact ⟨v',rfl,by simpa using hown',hb⟩
theorem li(B:Nat)(v:Value)(n:Nat)(xs:List Int)(r:Int)(w:World)(hown:w.ownsRow B 5 1 v n (xs.map (Value.int .u8)))(hB:B<=w.heap.size)(hn:n<=140737488355000)
  (hv:ai r=true) (h1:2048<=r) (h2:r<65536):Calls Tryd.prog 110 #[v,.int .i32 r] w (cB B w (n+3) (xs++[224+r / 4096,128+r / 64 % 64,128+r % 64])):=by
 have hs:aJ r=3:=by
  unfold aJ;rw [if_neg (by simp [hv])]
  repeat (first | rw [if_pos (by omega)] | rw [if_neg (by omega)])
 have hj:=dM 224 (r / 4096) 4 (by decide) (by decide) (by decide) (by omega) (by omega) (by omega);have hm:r / 4096 % 256=r / 4096:=by omega
 have HS:=aa hs;clear hs hv
 go_enter Tryd.func110,Tryd.ntmps110
 go_wp2_with fail
 refine (c9 _ _).mono ?_;rintro e w' ⟨rfl,rfl⟩;rw [HS.out]
 go_wp2_with fail
 refine (dm (r / 64) _ (by omega)).mono ?_;rintro e w' ⟨rfl,rfl⟩
 go_wp2_with fail
 refine (dm r _ (by omega)).mono ?_;rintro e w' ⟨rfl,rfl⟩
 go_wp2_with (at_builtin;refine aV w rfl (.tmp 27) (.tmp 37) 46 rfl B 5 (.int .u8 0) 1 Tryd.underlying46 Tryd.info5 rfl v n (xs.map (Value.int .u8)) rfl hown [.int .u8 (224+r / 4096),.int .u8 (128+r / 64 % 64),.int .u8 (128+r % 64)] 3 3 rfl rfl (by intro u hu;simp at hu;rcases hu with rfl | rfl | rfl <;> rfl) (by omega) (by omega) hB ?_)
 intro v' w' hown' hb;clear hown;go_wp2;go_ret;exact ⟨v',rfl,by simpa using hown',hb⟩
theorem lj(B:Nat)(v:Value)(n:Nat)(xs:List Int)(r:Int)(w:World)(hown:w.ownsRow B 5 1 v n (xs.map (Value.int .u8)))(hB:B<=w.heap.size)(hn:n<=140737488355000)
  (hv:ai r=true) (h1:65536<=r) (h2:r<1114112):Calls Tryd.prog 110 #[v,.int .i32 r] w (cB B w (n+4) (xs++[240+r / 262144,128+r / 4096 % 64,128+r / 64 % 64,128+r % 64])):=by
 have hs:aJ r=4:=by
  unfold aJ;rw [if_neg (by simp [hv])]
  repeat (first | rw [if_pos (by omega)] | rw [if_neg (by omega)])
 have hj:=dM 240 (r / 262144) 3 (by decide) (by decide) (by decide) (by omega) (by omega) (by omega);have hm:r / 262144 % 256=r / 262144:=by omega
 have HS:=aa hs;clear hs hv
 go_enter Tryd.func110,Tryd.ntmps110
 go_wp2_with fail
 refine (c9 _ _).mono ?_;rintro e w' ⟨rfl,rfl⟩;rw [HS.out]
 go_wp2_with fail
 refine (dm (r / 4096) _ (by omega)).mono ?_;rintro e w' ⟨rfl,rfl⟩
 go_wp2_with fail
 refine (dm (r / 64) _ (by omega)).mono ?_;rintro e w' ⟨rfl,rfl⟩
 go_wp2_with fail
 refine (dm r _ (by omega)).mono ?_;rintro e w' ⟨rfl,rfl⟩
 go_wp2_with (at_builtin;refine aV w rfl (.tmp 41) (.tmp 54) 46 rfl B 5 (.int .u8 0) 1 Tryd.underlying46 Tryd.info5 rfl v n (xs.map (Value.int .u8)) rfl hown [.int .u8 (240+r / 262144),.int .u8 (128+r / 4096 % 64),.int .u8 (128+r / 64 % 64),.int .u8 (128+r % 64)] 4 4 rfl rfl (by intro u hu;simp at hu;rcases hu with rfl | rfl | rfl | rfl <;> rfl) (by omega) (by omega) hB ?_)
 intro v' w' hown' hb;clear hown;go_wp2;go_ret;exact ⟨v',rfl,by simpa using hown',hb⟩
theorem lk(B:Nat)(v:Value)(n:Nat)(xs:List Int)(r:Int)(w:World)(hown:w.ownsRow B 5 1 v n (xs.map (Value.int .u8)))
  (hv:ai r=false):Calls Tryd.prog 110 #[v,.int .i32 r] w (cB B w n xs):=by
 have HS:=aa (show aJ r=0 from by unfold aJ;rw [if_pos hv]);clear hv
 go_enter Tryd.func110,Tryd.ntmps110
 go_wp2_with fail
 refine (c9 _ _).mono ?_;rintro e w' ⟨rfl,rfl⟩;rw [HS.out];go_wp2;go_ret;exact ⟨v,rfl,hown,Below.refl _ _⟩
theorem iH(B:Nat)(v:Value)(n:Nat)(xs:List Int)(r:Int)(w:World)(hown:w.ownsRow B 5 1 v n (xs.map (Value.int .u8)))(hB:B<=w.heap.size)(hn:n<=140737488355000) :
  Calls Tryd.prog 110 #[v,.int .i32 r] w (cB B w (n+(aj r).length) (xs++aj r)):=by
 cases hv:ai r with
 |false =>
  have hf:aj r=[]:=by simp [aj,hv]
  rw [hf]
  simpa using lk B v n xs r w hown hv
 |true =>
  have hr:=validB_true.1 hv
  by_cases h1:r<128
  ·have hf:aj r=[r]:=by unfold aj;rw [if_neg (by simp [hv]),if_pos h1]
   rw [hf];exact lg B v n xs r w hown hB hn hv (by omega) h1
  ·by_cases h2:r<2048
   ·have hf:aj r=[192+r / 64,128+r % 64]:=by unfold aj;rw [if_neg (by simp [hv]),if_neg h1,if_pos h2]
    rw [hf];exact lh B v n xs r w hown hB hn hv (by omega) h2
   ·by_cases h3:r<65536
    ·have hf:aj r=[224+r / 4096,128+r / 64 % 64,128+r % 64]:=by unfold aj;rw [if_neg (by simp [hv]),if_neg h1,if_neg h2,if_pos h3]
     rw [hf];exact li B v n xs r w hown hB hn hv (by omega) h3
    ·have hf:aj r=[240+r / 262144,128+r / 4096 % 64,128+r / 64 % 64,128+r % 64]:=by unfold aj;rw [if_neg (by simp [hv]),if_neg h1,if_neg h2,if_neg h3]
     rw [hf];exact lj B v n xs r w hown hB hn hv (by omega) (by omega)
end Go.Proofs.YtechjomepdahiaaDoor
