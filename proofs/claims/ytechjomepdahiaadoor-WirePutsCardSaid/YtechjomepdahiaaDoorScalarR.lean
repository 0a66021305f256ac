import Derived.Test.YtechjomepdahiaaDoorZ0
import Derived.Test.YtechjomepdahiaaDoorMg1
import Derived.Deep.QuietTactic
import Derived.BigQuiet
set_option maxRecDepth 100000
set_option linter.unusedVariables false
set_option linter.unusedSimpArgs false
set_option maxHeartbeats 400000
namespace Go.Proofs.YtechjomepdahiaaDoor
open Go.RowKit Go.ChangeShapes Go.WideShapes
theorem bT(r:Int)(w:World):Calls Tryd.prog 80 #[.int .i32 r] w fun e w'=>e=.returned (.bool (ai r))/\w=w':=by
 have hv:(ai r=true/\0<=r/\r<=1114111/\r<55296)\/(ai r=true/\0<=r/\r<=1114111/\¬ r<55296/\57343<r)\/(ai r=false/\¬ 0<=r)\/(ai r=false/\0<=r/\¬ r<=1114111)\/(ai r=false/\0<=r/\r<=1114111/\¬ r<55296/\¬ 57343<r):=by
  unfold ai;simp;omega
 rcases hv with ⟨hv,h1,h2,h3⟩ | ⟨hv,h1,h2,h3,h4⟩ | ⟨hv,h1⟩ | ⟨hv,h1,h2⟩ | ⟨hv,h1,h2,h3,h4⟩
 all_goals
  rw [hv];clear hv
  go_enter Tryd.func80,Tryd.ntmps80
  go_wp2;go_ret;exact ⟨rfl,rfl⟩
theorem bM(r:Int)(w:World):Calls Tryd.prog 113 #[.int .i32 r] w fun e w'=>e=.returned (.int .i64 (aJ r))/\w=w':=by
 have hv:(ai r=false/\aJ r=0)\/(ai r=true/\aJ r=1/\¬ 127<r/\¬ 2047<r/\¬ 65535<r)\/(ai r=true/\aJ r=2/\127<r/\¬ 2047<r/\¬ 65535<r)\/(ai r=true/\aJ r=3/\127<r/\2047<r/\¬ 65535<r)\/(ai r=true/\aJ r=4/\127<r/\2047<r/\65535<r):=by
  unfold aJ
  cases ai r with
  | false=>simp
  | true=>simp;omega
 rcases hv with ⟨hv,hs⟩ | ⟨hv,hs,h1,h2,h3⟩ | ⟨hv,hs,h1,h2,h3⟩ | ⟨hv,hs,h1,h2,h3⟩ | ⟨hv,hs,h1,h2,h3⟩
 all_goals
  rw [hs];have HV:=aa hv;clear hv hs
  go_enter Tryd.func113,Tryd.ntmps113
  go_wp2_with fail
  refine (bT _ _).mono ?_;rintro e w' ⟨rfl,rfl⟩;rw [HV.out];go_wp2;go_ret;exact ⟨rfl,rfl⟩
theorem kB(r:Int)(w:World)(hv:ai r=true)(h1:0<=r)(h2:r<128):Calls Tryd.prog 104 #[.int .i32 r] w (dp .u8 w [r]):=by
 have hs:aJ r=1:=by
  unfold aJ;rw [if_neg (by simp [hv])]
  repeat (first | rw [if_pos (by omega)] | rw [if_neg (by omega)])
 have hm:r % 256=r:=by omega
 have HS:=aa hs;clear hs hv
 go_enter Tryd.func104,Tryd.ntmps104
 go_wp2_with fail
 refine (bM _ _).mono ?_;rintro e w' ⟨rfl,rfl⟩;rw [HS.out];go_wp2;go_ret;exact ⟨_,rfl,dN .u8 w [.int .u8 (r)] 5 1 1 _ rfl rfl,l7 _ _,Fresh.at_ _ _ _ _ _ (Nat.le_refl _)⟩
theorem kC(r:Int)(w:World)(hv:ai r=true)(h1:128<=r)(h2:r<2048):Calls Tryd.prog 104 #[.int .i32 r] w (dp .u8 w [192+r / 64,128+r % 64]):=by
 have hs:aJ r=2:=by
  unfold aJ;rw [if_neg (by simp [hv])]
  repeat (first | rw [if_pos (by omega)] | rw [if_neg (by omega)])
 have hm:(192+r / 64) % 256=192+r / 64:=by omega
 have rg:(128+r % 64) % 256=128+r % 64:=by omega
 have HS:=aa hs;clear hs hv
 go_enter Tryd.func104,Tryd.ntmps104
 go_wp2_with fail
 refine (bM _ _).mono ?_;rintro e w' ⟨rfl,rfl⟩;rw [HS.out];go_wp2;go_ret;exact ⟨_,rfl,dN .u8 w [.int .u8 (192+r / 64),.int .u8 (128+r % 64)] 5 2 2 _ rfl rfl,l7 _ _,Fresh.at_ _ _ _ _ _ (Nat.le_refl _)⟩
theorem kD(r:Int)(w:World)(hv:ai r=true)(h1:2048<=r)(h2:r<65536):Calls Tryd.prog 104 #[.int .i32 r] w (dp .u8 w [224+r / 4096,128+r / 64 % 64,128+r % 64]):=by
 have hs:aJ r=3:=by
  unfold aJ;rw [if_neg (by simp [hv])]
  repeat (first | rw [if_pos (by omega)] | rw [if_neg (by omega)])
 have hm:(224+r / 4096) % 256=224+r / 4096:=by omega
 have rg:(128+r % 64) % 256=128+r % 64:=by omega
 have hm3:(128+r / 64 % 64) % 256=128+r / 64 % 64:=by omega
 have HS:=aa hs;clear hs hv
 go_enter Tryd.func104,Tryd.ntmps104
 go_wp2_with fail
 refine (bM _ _).mono ?_;rintro e w' ⟨rfl,rfl⟩;rw [HS.out];go_wp2;go_ret;exact ⟨_,rfl,dN .u8 w [.int .u8 (224+r / 4096),.int .u8 (128+r / 64 % 64),.int .u8 (128+r % 64)] 5 3 3 _ rfl rfl,l7 _ _,Fresh.at_ _ _ _ _ _ (Nat.le_refl _)⟩
theorem kE(r:Int)(w:World)(hv:ai r=true)(h1:65536<=r)(h2:r<1114112):Calls Tryd.prog 104 #[.int .i32 r] w (dp .u8 w [240+r / 262144,128+r / 4096 % 64,128+r / 64 % 64,128+r % 64]):=by
 have hs:aJ r=4:=by
  unfold aJ;rw [if_neg (by simp [hv])]
  repeat (first | rw [if_pos (by omega)] | rw [if_neg (by omega)])
 have hm:(240+r / 262144) % 256=240+r / 262144:=by omega
 have rg:(128+r % 64) % 256=128+r % 64:=by omega
 have hm3:(128+r / 64 % 64) % 256=128+r / 64 % 64:=by omega
 have hm4:(128+r / 4096 % 64) % 256=128+r / 4096 % 64:=by omega
 have HS:=aa hs;clear hs hv
 go_enter Tryd.func104,Tryd.ntmps104
 go_wp2_with fail
 refine (bM _ _).mono ?_;rintro e w' ⟨rfl,rfl⟩;rw [HS.out];go_wp2;go_ret;exact ⟨_,rfl,dN .u8 w [.int .u8 (240+r / 262144),.int .u8 (128+r / 4096 % 64),.int .u8 (128+r / 64 % 64),.int .u8 (128+r % 64)] 5 4 4 _ rfl rfl,l7 _ _,Fresh.at_ _ _ _ _ _ (Nat.le_refl _)⟩
theorem kF(r:Int)(w:World)(hv:ai r=false):Calls Tryd.prog 104 #[.int .i32 r] w (dp .u8 w []):=by
 have HS:=aa (show aJ r=0 from by unfold aJ;rw [if_pos hv]);clear hv
 go_enter Tryd.func104,Tryd.ntmps104
 go_wp2_with fail
 refine (bM _ _).mono ?_;rintro e w' ⟨rfl,rfl⟩;rw [HS.out];go_wp2;go_ret;exact ⟨_,rfl,Held.nil _ _,Below.refl _ _,Fresh.nil _ _ _⟩
theorem gX(r:Int)(w:World):Calls Tryd.prog 104 #[.int .i32 r] w (dp .u8 w (aj r)):=by
 cases hv:ai r with
 |false =>
  rw [show aj r=[] from by simp [aj,hv]];exact kF r w hv
 |true =>
  have hr:=validB_true.1 hv
  by_cases h1:r<128
  ·rw [show aj r=[r] from by unfold aj;rw [if_neg (by simp [hv]),if_pos h1]];exact kB r w hv (by omega) h1
  ·by_cases h2:r<2048
   ·rw [show aj r=[192+r / 64,128+r % 64] from by unfold aj;rw [if_neg (by simp [hv]),if_neg h1,if_pos h2]];exact kC r w hv (by omega) h2
   ·by_cases h3:r<65536
    ·rw [show aj r=[224+r / 4096,128+r / 64 % 64,128+r % 64] from by unfold aj;rw [if_neg (by simp [hv]),if_neg h1,if_neg h2,if_pos h3]];exact kD r w hv (by omega) h3
    ·rw [show aj r=[240+r / 262144,128+r / 4096 % 64,128+r / 64 % 64,128+r % 64] from by unfold aj;rw [if_neg (by simp [hv]),if_neg h1,if_neg h2,if_neg h3]];exact kE r w hv (by omega) (by omega)
theorem gY(r:Int)(w:World):Calls Tryd.prog 104 #[.int .i32 r] w (l3 .u8 w (aj r)) :=
 (gX r w).mono fun _ _ ⟨v,h1,h2,h3,_⟩=>⟨v,h1,h2,h3⟩
theorem jB(v u:Value)(xs ys:List Int)(w:World)(hx:Held .u8 w v xs)(hy:Held .u8 w u ys) :
  Calls Tryd.prog 22 #[v,u] w fun e w'=>e=.returned (.bool ((strOfNums xs).toList == (strOfNums ys).toList))/\w=w':=by
 have h1:=cC (P:=Tryd.prog) hx 46 5 9 Tryd.underlying46 Tryd.underlying5 Tryd.underlying9;have h2:=cC (P:=Tryd.prog) hy 46 5 9 Tryd.underlying46 Tryd.underlying5 Tryd.underlying9;generalize strOfNums xs=s at *;generalize strOfNums ys=t at *;clear hx hy
 go_enter Tryd.func22,Tryd.ntmps22
 go_wp2;go_ret;exact ⟨rfl,rfl⟩
def dO(xs ys:List Int):Bool:=decide (xs=ys)
theorem kG{xs ys:List Int}(hl:ys.length=xs.length)(h:∀ j,j<xs.length->xs.getD j 0=ys.getD j 0):dO xs ys=true:=by
 unfold dO;rw [decide_eq_true_eq]
 apply List.ext_getElem hl.symm
 intro i h1 h2;have:=h i h1
 simpa [List.getD,List.getElem?_eq_getElem h1,List.getElem?_eq_getElem h2] using this
theorem jC{xs ys:List Int}(j:Nat)(h:xs.getD j 0≠ys.getD j 0):dO xs ys=false:=by
 unfold dO;rw [decide_eq_false_iff_not];rintro rfl;exact h rfl
theorem jD{xs ys:List Int}(h:¬ ys.length=xs.length):dO xs ys=false:=by
 unfold dO;rw [decide_eq_false_iff_not];rintro rfl;exact h rfl
def kH(xs ys:List Int)(k:Nat):Prop:=∀ j,j<k->xs.getD j 0=ys.getD j 0
theorem kI(v u:Value)(xs ys:List Int)(w:World)(hx:Held .i32 w v xs)(hy:Held .i32 w u ys)(hlen:xs.length<=9223372036854775807) :
  Calls Tryd.prog 48 #[v,u] w (Gives w (.bool (dO xs ys))):=by
 obtain ⟨ao,ca,rfl,hc⟩:=hx.view;obtain ⟨bo,cb,rfl,hd⟩:=hy.view;have HC:=aa hc;have HD:=aa hd;clear hc hd hx hy
 by_cases hl:ys.length=xs.length
 ·have HL:=aa hl;rw [hl];clear hl
  go_enter Tryd.func48,Tryd.ntmps48
  go_wp2
  go_loopw [5] (fun i wr=>∃ k:Nat,k<=xs.length/\i=.int .i64 k/\kH xs ys k/\Below w.heap.size w wr) (fun i _=>xs.length - (intOf i).toNat)
  case atStart=>exact ⟨0,Nat.zero_le _,rfl,(fun j hj=>by omega),Below.refl _ _⟩
  case round =>
   obtain ⟨k,hk,rfl,qu,mP⟩:=hrel;have HA:=aa qu;clear qu
   by_cases hlt:k<xs.length
   ·obtain ⟨b1,o1,rfl,hb1,mx⟩:=HC.out k hlt;obtain ⟨b2,o2,rfl,hb2,uD⟩:=HD.out k (by rw [HL.out];exact hlt);have mx:=(mP.cell (p:=⟨b1,o1+k,none⟩) hb1).trans mx;have uD:=(mP.cell (p:=⟨b2,o2+k,none⟩) hb2).trans uD
    by_cases he:xs.getD k 0=ys.getD k 0
    ·have HE:kH xs ys (k+1):=by
      intro j hj
      by_cases h:j=k
      ·subst h;exact he
      ·exact HA.out j (by omega)
     rw [<-he] at uD;clear he;generalize xs.getD k 0=x at mx uD;go_wp2
     go_quiet (fail)
     have mP:=mP.drewN nq;go_wp2
     go_roundw
     case rel=>exact ⟨k+1,by omega,by go_num,HE,mP⟩
     case measure=>simp [intOf];omega
    ·have E:=aa (jC k he);generalize xs.getD k 0=x at mx he;generalize ys.getD k 0=y at uD he;go_wp2
     go_quiet (fail)
     have mP:=mP.drewN nq;go_wp2;go_ret;exact ⟨aq (by rw [E.out];rfl),mP⟩
   ·have e:dO xs ys=true:=kG HL.out (fun j hj=>HA.out j (by omega));have E:=aa e;clear e;go_wp2;go_ret;exact ⟨aq (by rw [E.out];rfl),mP⟩
 ·rw [jD hl]
  go_enter Tryd.func48,Tryd.ntmps48
  go_wp2;go_ret;exact ⟨rfl,Below.refl _ _⟩
end Go.Proofs.YtechjomepdahiaaDoor
