import Derived.Test.YtechjomepdahiaaDoorZ0
import Derived.Test.YtechjomepdahiaaDoorMg1
import Derived.Deep.QuietTactic
import Derived.BigQuiet
set_option maxRecDepth 100000
set_option linter.unusedVariables false
set_option linter.unusedSimpArgs false
set_option maxHeartbeats 400000
namespace Go.Proofs.YtechjomepdahiaaDoor
open Go.RowKit Go.ChangeShapes Go.WideShapes
theorem bL(r:Int)(w:World):Calls Tryd.prog 80 #[.int .i32 r] w fun e w'=>e=.returned (.bool (aj r))/\w=w':=by
 have hv:(aj r=true/\0<=r/\r<=1114111/\r<55296)\/(aj r=true/\0<=r/\r<=1114111/\¬ r<55296/\57343<r)\/(aj r=false/\¬ 0<=r)\/(aj r=false/\0<=r/\¬ r<=1114111)\/(aj r=false/\0<=r/\r<=1114111/\¬ r<55296/\¬ 57343<r):=by
  unfold aj;simp;omega
 rcases hv with ⟨hv,h1,h2,h3⟩ | ⟨hv,h1,h2,h3,h4⟩ | ⟨hv,h1⟩ | ⟨hv,h1,h2⟩ | ⟨hv,h1,h2,h3,h4⟩
 all_goals
  rw [hv];clear hv
  go_enter Tryd.func80,Tryd.ntmps80
  go_wp2;go_ret;exact ⟨rfl,rfl⟩
theorem bA(r:Int)(w:World):Calls Tryd.prog 113 #[.int .i32 r] w fun e w'=>e=.returned (.int .i64 (aF r))/\w=w':=by
 have hv:(aj r=false/\aF r=0)\/(aj r=true/\aF r=1/\¬ 127<r/\¬ 2047<r/\¬ 65535<r)\/(aj r=true/\aF r=2/\127<r/\¬ 2047<r/\¬ 65535<r)\/(aj r=true/\aF r=3/\127<r/\2047<r/\¬ 65535<r)\/(aj r=true/\aF r=4/\127<r/\2047<r/\65535<r):=by
  unfold aF
  cases aj r with
  | false=>simp
  | true=>simp;omega
 rcases hv with ⟨hv,hs⟩ | ⟨hv,hs,h1,h2,h3⟩ | ⟨hv,hs,h1,h2,h3⟩ | ⟨hv,hs,h1,h2,h3⟩ | ⟨hv,hs,h1,h2,h3⟩
 all_goals
  rw [hs];have HV:=aa hv;clear hv hs
  go_enter Tryd.func113,Tryd.ntmps113
  go_wp2_with fail
  refine (bL _ _).mono ?_;rintro e w' ⟨rfl,rfl⟩;rw [HV.out];go_wp2;go_ret;exact ⟨rfl,rfl⟩
theorem iT(r:Int)(w:World)(hv:aj r=true)(h1:0<=r)(h2:r<128):Calls Tryd.prog 104 #[.int .i32 r] w (cW .u8 w [r]):=by
 have hs:aF r=1:=by
  unfold aF;rw [if_neg (by simp [hv])]
  repeat (first | rw [if_pos (by omega)] | rw [if_neg (by omega)])
 have hm:r % 256=r:=by omega
 have HS:=aa hs;clear hs hv
 go_enter Tryd.func104,Tryd.ntmps104
 go_wp2_with fail
 refine (bA _ _).mono ?_;rintro e w' ⟨rfl,rfl⟩;rw [HS.out];go_wp2;go_ret;exact ⟨_,rfl,dp .u8 w [.int .u8 (r)] 5 1 1 _ rfl rfl,j0 _ _,Fresh.at_ _ _ _ _ _ (Nat.le_refl _)⟩
theorem iU(r:Int)(w:World)(hv:aj r=true)(h1:128<=r)(h2:r<2048):Calls Tryd.prog 104 #[.int .i32 r] w (cW .u8 w [192+r / 64,128+r % 64]):=by
 have hs:aF r=2:=by
  unfold aF;rw [if_neg (by simp [hv])]
  repeat (first | rw [if_pos (by omega)] | rw [if_neg (by omega)])
 have hm:(192+r / 64) % 256=192+r / 64:=by omega
 have oM:(128+r % 64) % 256=128+r % 64:=by omega
 have HS:=aa hs;clear hs hv
 go_enter Tryd.func104,Tryd.ntmps104
 go_wp2_with fail
 refine (bA _ _).mono ?_;rintro e w' ⟨rfl,rfl⟩;rw [HS.out];go_wp2;go_ret;exact ⟨_,rfl,dp .u8 w [.int .u8 (192+r / 64),.int .u8 (128+r % 64)] 5 2 2 _ rfl rfl,j0 _ _,Fresh.at_ _ _ _ _ _ (Nat.le_refl _)⟩
theorem iV(r:Int)(w:World)(hv:aj r=true)(h1:2048<=r)(h2:r<65536):Calls Tryd.prog 104 #[.int .i32 r] w (cW .u8 w [224+r / 4096,128+r / 64 % 64,128+r % 64]):=by
 have hs:aF r=3:=by
  unfold aF;rw [if_neg (by simp [hv])]
  repeat (first | rw [if_pos (by omega)] | rw [if_neg (by omega)])
 have hm:(224+r / 4096) % 256=224+r / 4096:=by omega
 have oM:(128+r % 64) % 256=128+r % 64:=by omega
 have hm3:(128+r / 64 % 64) % 256=128+r / 64 % 64:=by omega
 have HS:=aa hs;clear hs hv
 go_enter Tryd.func104,Tryd.ntmps104
 go_wp2_with fail
 refine (bA _ _).mono ?_;rintro e w' ⟨rfl,rfl⟩;rw [HS.out];go_wp2;go_ret;exact ⟨_,rfl,dp .u8 w [.int .u8 (224+r / 4096),.int .u8 (128+r / 64 % 64),.int .u8 (128+r % 64)] 5 3 3 _ rfl rfl,j0 _ _,Fresh.at_ _ _ _ _ _ (Nat.le_refl _)⟩
theorem iW(r:Int)(w:World)(hv:aj r=true)(h1:65536<=r)(h2:r<1114112):Calls Tryd.prog 104 #[.int .i32 r] w (cW .u8 w [240+r / 262144,128+r / 4096 % 64,128+r / 64 % 64,128+r % 64]):=by
 have hs:aF r=4:=by
  unfold aF;rw [if_neg (by simp [hv])]
  repeat (first | rw [if_pos (by omega)] | rw [if_neg (by omega)])
 have hm:(240+r / 262144) % 256=240+r / 262144:=by omega
 have oM:(128+r % 64) % 256=128+r % 64:=by omega
 have hm3:(128+r / 64 % 64) % 256=128+r / 64 % 64:=by omega
 have hm4:(128+r / 4096 % 64) % 256=128+r / 4096 % 64:=by omega
 have HS:=aa hs;clear hs hv
 go_enter Tryd.func104,Tryd.ntmps104
 go_wp2_with fail
 refine (bA _ _).mono ?_;rintro e w' ⟨rfl,rfl⟩;rw [HS.out];go_wp2;go_ret;exact ⟨_,rfl,dp .u8 w [.int .u8 (240+r / 262144),.int .u8 (128+r / 4096 % 64),.int .u8 (128+r / 64 % 64),.int .u8 (128+r % 64)] 5 4 4 _ rfl rfl,j0 _ _,Fresh.at_ _ _ _ _ _ (Nat.le_refl _)⟩
theorem iX(r:Int)(w:World)(hv:aj r=false):Calls Tryd.prog 104 #[.int .i32 r] w (cW .u8 w []):=by
 have HS:=aa (show aF r=0 from by unfold aF;rw [if_pos hv]);clear hv
 go_enter Tryd.func104,Tryd.ntmps104
 go_wp2_with fail
 refine (bA _ _).mono ?_;rintro e w' ⟨rfl,rfl⟩;rw [HS.out];go_wp2;go_ret;exact ⟨_,rfl,Held.nil _ _,Below.refl _ _,Fresh.nil _ _ _⟩
theorem fF(r:Int)(w:World):Calls Tryd.prog 104 #[.int .i32 r] w (cW .u8 w (av r)):=by
 cases hv:aj r with
 |false =>
  rw [show av r=[] from by simp [av,hv]];exact iX r w hv
 |true =>
  have hr:=validB_true.1 hv
  by_cases h1:r<128
  ·rw [show av r=[r] from by unfold av;rw [if_neg (by simp [hv]),if_pos h1]];exact iT r w hv (by omega) h1
  ·by_cases h2:r<2048
   ·rw [show av r=[192+r / 64,128+r % 64] from by unfold av;rw [if_neg (by simp [hv]),if_neg h1,if_pos h2]];exact iU r w hv (by omega) h2
   ·by_cases h3:r<65536
    ·rw [show av r=[224+r / 4096,128+r / 64 % 64,128+r % 64] from by unfold av;rw [if_neg (by simp [hv]),if_neg h1,if_neg h2,if_pos h3]];exact iV r w hv (by omega) h3
    ·rw [show av r=[240+r / 262144,128+r / 4096 % 64,128+r / 64 % 64,128+r % 64] from by unfold av;rw [if_neg (by simp [hv]),if_neg h1,if_neg h2,if_neg h3]];exact iW r w hv (by omega) (by omega)
theorem fG(r:Int)(w:World):Calls Tryd.prog 104 #[.int .i32 r] w (jX .u8 w (av r)) :=
 (fF r w).mono fun _ _ ⟨v,h1,h2,h3,_⟩=>⟨v,h1,h2,h3⟩
theorem g9(v u:Value)(xs ys:List Int)(w:World)(hx:Held .u8 w v xs)(hy:Held .u8 w u ys) :
  Calls Tryd.prog 22 #[v,u] w fun e w'=>e=.returned (.bool ((strOfNums xs).toList == (strOfNums ys).toList))/\w=w':=by
 have h1:=cn (P:=Tryd.prog) hx 46 5 9 Tryd.underlying46 Tryd.underlying5 Tryd.underlying9;have h2:=cn (P:=Tryd.prog) hy 46 5 9 Tryd.underlying46 Tryd.underlying5 Tryd.underlying9;generalize strOfNums xs=s at *;generalize strOfNums ys=t at *;clear hx hy
 go_enter Tryd.func22,Tryd.ntmps22
 go_wp2;go_ret;exact ⟨rfl,rfl⟩
end Go.Proofs.YtechjomepdahiaaDoor
