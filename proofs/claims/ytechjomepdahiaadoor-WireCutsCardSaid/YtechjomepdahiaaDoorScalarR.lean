import Derived.Test.YtechjomepdahiaaDoorZ0
import Derived.Test.YtechjomepdahiaaDoorMg1
import Derived.Deep.QuietTactic
import Derived.BigQuiet
set_option maxRecDepth 100000
set_option linter.unusedVariables false
set_option linter.unusedSimpArgs false
set_option maxHeartbeats 400000
namespace Go.Proofs.YtechjomepdahiaaDoor
open Go.RowKit Go.ChangeShapes Go.WideShapes
theorem bR(r:Int)(w:World):Calls Tryd.prog 80 #[.int .i32 r] w fun e w'=>e=.returned (.bool (ai r))/\w=w':=by
 have hv:(ai r=true/\0<=r/\r<=1114111/\r<55296)\/(ai r=true/\0<=r/\r<=1114111/\¬ r<55296/\57343<r)\/(ai r=false/\¬ 0<=r)\/(ai r=false/\0<=r/\¬ r<=1114111)\/(ai r=false/\0<=r/\r<=1114111/\¬ r<55296/\¬ 57343<r):=by
  unfold ai;simp;omega
 rcases hv with ⟨hv,h1,h2,h3⟩ | ⟨hv,h1,h2,h3,h4⟩ | ⟨hv,h1⟩ | ⟨hv,h1,h2⟩ | ⟨hv,h1,h2,h3,h4⟩
 all_goals
  rw [hv];clear hv
  go_enter Tryd.func80,Tryd.ntmps80
  go_wp2;go_ret;exact ⟨rfl,rfl⟩
theorem bJ(r:Int)(w:World):Calls Tryd.prog 113 #[.int .i32 r] w fun e w'=>e=.returned (.int .i64 (aH r))/\w=w':=by
 have hv:(ai r=false/\aH r=0)\/(ai r=true/\aH r=1/\¬ 127<r/\¬ 2047<r/\¬ 65535<r)\/(ai r=true/\aH r=2/\127<r/\¬ 2047<r/\¬ 65535<r)\/(ai r=true/\aH r=3/\127<r/\2047<r/\¬ 65535<r)\/(ai r=true/\aH r=4/\127<r/\2047<r/\65535<r):=by
  unfold aH
  cases ai r with
  | false=>simp
  | true=>simp;omega
 rcases hv with ⟨hv,hs⟩ | ⟨hv,hs,h1,h2,h3⟩ | ⟨hv,hs,h1,h2,h3⟩ | ⟨hv,hs,h1,h2,h3⟩ | ⟨hv,hs,h1,h2,h3⟩
 all_goals
  rw [hs];have HV:=aa hv;clear hv hs
  go_enter Tryd.func113,Tryd.ntmps113
  go_wp2_with fail
  refine (bR _ _).mono ?_;rintro e w' ⟨rfl,rfl⟩;rw [HV.out];go_wp2;go_ret;exact ⟨rfl,rfl⟩
theorem j8(r:Int)(w:World)(hv:ai r=true)(h1:0<=r)(h2:r<128):Calls Tryd.prog 104 #[.int .i32 r] w (dh .u8 w [r]):=by
 have hs:aH r=1:=by
  unfold aH;rw [if_neg (by simp [hv])]
  repeat (first | rw [if_pos (by omega)] | rw [if_neg (by omega)])
 have hm:r % 256=r:=by omega
 have HS:=aa hs;clear hs hv
 go_enter Tryd.func104,Tryd.ntmps104
 go_wp2_with fail
 refine (bJ _ _).mono ?_;rintro e w' ⟨rfl,rfl⟩;rw [HS.out];go_wp2;go_ret;exact ⟨_,rfl,dH .u8 w [.int .u8 (r)] 5 1 1 _ rfl rfl,lD _ _,Fresh.at_ _ _ _ _ _ (Nat.le_refl _)⟩
theorem j9(r:Int)(w:World)(hv:ai r=true)(h1:128<=r)(h2:r<2048):Calls Tryd.prog 104 #[.int .i32 r] w (dh .u8 w [192+r / 64,128+r % 64]):=by
 have hs:aH r=2:=by
  unfold aH;rw [if_neg (by simp [hv])]
  repeat (first | rw [if_pos (by omega)] | rw [if_neg (by omega)])
 have hm:(192+r / 64) % 256=192+r / 64:=by omega
 have qe:(128+r % 64) % 256=128+r % 64:=by omega
 have HS:=aa hs;clear hs hv
 go_enter Tryd.func104,Tryd.ntmps104
 go_wp2_with fail
 refine (bJ _ _).mono ?_;rintro e w' ⟨rfl,rfl⟩;rw [HS.out];go_wp2;go_ret;exact ⟨_,rfl,dH .u8 w [.int .u8 (192+r / 64),.int .u8 (128+r % 64)] 5 2 2 _ rfl rfl,lD _ _,Fresh.at_ _ _ _ _ _ (Nat.le_refl _)⟩
theorem kc(r:Int)(w:World)(hv:ai r=true)(h1:2048<=r)(h2:r<65536):Calls Tryd.prog 104 #[.int .i32 r] w (dh .u8 w [224+r / 4096,128+r / 64 % 64,128+r % 64]):=by
 have hs:aH r=3:=by
  unfold aH;rw [if_neg (by simp [hv])]
  repeat (first | rw [if_pos (by omega)] | rw [if_neg (by omega)])
 have hm:(224+r / 4096) % 256=224+r / 4096:=by omega
 have qe:(128+r % 64) % 256=128+r % 64:=by omega
 have hm3:(128+r / 64 % 64) % 256=128+r / 64 % 64:=by omega
 have HS:=aa hs;clear hs hv
 go_enter Tryd.func104,Tryd.ntmps104
 go_wp2_with fail
 refine (bJ _ _).mono ?_;rintro e w' ⟨rfl,rfl⟩;rw [HS.out];go_wp2;go_ret;exact ⟨_,rfl,dH .u8 w [.int .u8 (224+r / 4096),.int .u8 (128+r / 64 % 64),.int .u8 (128+r % 64)] 5 3 3 _ rfl rfl,lD _ _,Fresh.at_ _ _ _ _ _ (Nat.le_refl _)⟩
theorem kd(r:Int)(w:World)(hv:ai r=true)(h1:65536<=r)(h2:r<1114112):Calls Tryd.prog 104 #[.int .i32 r] w (dh .u8 w [240+r / 262144,128+r / 4096 % 64,128+r / 64 % 64,128+r % 64]):=by
 have hs:aH r=4:=by
  unfold aH;rw [if_neg (by simp [hv])]
  repeat (first | rw [if_pos (by omega)] | rw [if_neg (by omega)])
 have hm:(240+r / 262144) % 256=240+r / 262144:=by omega
 have qe:(128+r % 64) % 256=128+r % 64:=by omega
 have hm3:(128+r / 64 % 64) % 256=128+r / 64 % 64:=by omega
 have hm4:(128+r / 4096 % 64) % 256=128+r / 4096 % 64:=by omega
 have HS:=aa hs;clear hs hv
 go_enter Tryd.func104,Tryd.ntmps104
 go_wp2_with fail
 refine (bJ _ _).mono ?_;rintro e w' ⟨rfl,rfl⟩;rw [HS.out];go_wp2;go_ret;exact ⟨_,rfl,dH .u8 w [.int .u8 (240+r / 262144),.int .u8 (128+r / 4096 % 64),.int .u8 (128+r / 64 % 64),.int .u8 (128+r % 64)] 5 4 4 _ rfl rfl,lD _ _,Fresh.at_ _ _ _ _ _ (Nat.le_refl _)⟩
theorem ke(r:Int)(w:World)(hv:ai r=false):Calls Tryd.prog 104 #[.int .i32 r] w (dh .u8 w []):=by
 have HS:=aa (show aH r=0 from by unfold aH;rw [if_pos hv]);clear hv
 go_enter Tryd.func104,Tryd.ntmps104
 go_wp2_with fail
 refine (bJ _ _).mono ?_;rintro e w' ⟨rfl,rfl⟩;rw [HS.out];go_wp2;go_ret;exact ⟨_,rfl,Held.nil _ _,Below.refl _ _,Fresh.nil _ _ _⟩
theorem gD(r:Int)(w:World):Calls Tryd.prog 104 #[.int .i32 r] w (dh .u8 w (aj r)):=by
 cases hv:ai r with
 |false =>
  rw [show aj r=[] from by simp [aj,hv]];exact ke r w hv
 |true =>
  have hr:=validB_true.1 hv
  by_cases h1:r<128
  ·rw [show aj r=[r] from by unfold aj;rw [if_neg (by simp [hv]),if_pos h1]];exact j8 r w hv (by omega) h1
  ·by_cases h2:r<2048
   ·rw [show aj r=[192+r / 64,128+r % 64] from by unfold aj;rw [if_neg (by simp [hv]),if_neg h1,if_pos h2]];exact j9 r w hv (by omega) h2
   ·by_cases h3:r<65536
    ·rw [show aj r=[224+r / 4096,128+r / 64 % 64,128+r % 64] from by unfold aj;rw [if_neg (by simp [hv]),if_neg h1,if_neg h2,if_pos h3]];exact kc r w hv (by omega) h3
    ·rw [show aj r=[240+r / 262144,128+r / 4096 % 64,128+r / 64 % 64,128+r % 64] from by unfold aj;rw [if_neg (by simp [hv]),if_neg h1,if_neg h2,if_neg h3]];exact kd r w hv (by omega) (by omega)
theorem gE(r:Int)(w:World):Calls Tryd.prog 104 #[.int .i32 r] w (lz .u8 w (aj r)) :=
 (gD r w).mono fun _ _ ⟨v,h1,h2,h3,_⟩=>⟨v,h1,h2,h3⟩
end Go.Proofs.YtechjomepdahiaaDoor
