import Derived.Test.YthdphijabffpiaaZ0
import Derived.Test.YthdphijabffpiaaMg1
set_option maxRecDepth 100000
set_option linter.unusedVariables false
set_option linter.unusedSimpArgs false
set_option maxHeartbeats 2000000
namespace Go.Proofs.Ythdphijabffpiaa
open Go.RowKit Go.ChangeShapes Go.WideShapes
theorem gM(a b:Int)(w:World):Calls Try.prog 33 #[.int .i64 a,.int .i64 b] w fun e w'=>e=.returned (.int .i64 (bN a b))/\w=w':=by
 have ka:=gN a;have kb:=gN b;have hj:bN a b=bq (clI a) (clI b):=rfl;rw [hj];clear hj;obtain ⟨x,hx⟩:=ab (clI a);obtain ⟨y,hy⟩:=ab (clI b);rw [<-hx,<-hy];rw [<-hx] at ka;rw [<-hy] at kb;have HX:=aa hx;have HY:=aa hy;clear hx hy
 rcases dl x y with ⟨h1,h2,hs⟩ | ⟨h1,h2,hs⟩ | ⟨h1,h2,h3,hs⟩ | ⟨h1,h2,h3,h4,hs⟩ | ⟨h1,h2,h3,h4,hs⟩
 ·subst h1;subst h2;rw [hs]
  go_enter Try.func33,Try.ntmps33
  go_wp2_with fail
  refine (aD a _).mono ?_;rintro e w' ⟨rfl,rfl⟩;rw [<-HX.out]
  go_wp2_with fail
  refine (aD b _).mono ?_;rintro e w' ⟨rfl,rfl⟩;rw [<-HY.out];go_wp2;go_ret;exact ⟨ae,rfl⟩
 ·rw [hs];have hq:((x == 1) && (y == 2))=false:=by simp;omega
  have H2:=aa h2;clear h2 hs
  by_cases e1:x=1
  ·have e2:y≠2:=by omega
   subst e1
   go_enter Try.func33,Try.ntmps33
   go_wp2_with fail
   refine (aD a _).mono ?_;rintro e w' ⟨rfl,rfl⟩;rw [<-HX.out]
   go_wp2_with fail
   refine (aD b _).mono ?_;rintro e w' ⟨rfl,rfl⟩;rw [<-HY.out]
   go_wp2_with fail
   refine (aY _ _).mono ?_;rintro e w' ⟨rfl,rfl⟩;rw [H2.out];go_wp2;go_ret;exact ⟨ae,rfl⟩
  ·clear hq;have e2:(x == 1)=false:=by simp;omega
   clear e1 h1
   go_enter Try.func33,Try.ntmps33
   go_wp2_with fail
   refine (aD a _).mono ?_;rintro e w' ⟨rfl,rfl⟩;rw [<-HX.out]
   go_wp2_with fail
   refine (aD b _).mono ?_;rintro e w' ⟨rfl,rfl⟩;rw [<-HY.out]
   go_wp2_with fail
   refine (aY _ _).mono ?_;rintro e w' ⟨rfl,rfl⟩;rw [H2.out];go_wp2;go_ret;exact ⟨ae,rfl⟩
 ·rw [hs];have H2:=aa h2;have H3:=aa h3;clear h2 h3 hs;have e2:(x == 1)=false:=by simp;omega
  clear h1
  go_enter Try.func33,Try.ntmps33
  go_wp2_with fail
  refine (aD a _).mono ?_;rintro e w' ⟨rfl,rfl⟩;rw [<-HX.out]
  go_wp2_with fail
  refine (aD b _).mono ?_;rintro e w' ⟨rfl,rfl⟩;rw [<-HY.out]
  go_wp2_with fail
  refine (aY _ _).mono ?_;rintro e w' ⟨rfl,rfl⟩;rw [H2.out]
  go_wp2_with fail
  refine (aY _ _).mono ?_;rintro e w' ⟨rfl,rfl⟩;rw [H3.out];go_wp2;go_ret;exact ⟨ae,rfl⟩
 ·rw [hs];have H2:=aa h2;have H3:=aa h3;have H4:=aa h4;clear h2 h3 h4 hs;have e2:(x == 1)=false:=by simp;omega
  clear h1
  go_enter Try.func33,Try.ntmps33
  go_wp2_with fail
  refine (aD a _).mono ?_;rintro e w' ⟨rfl,rfl⟩;rw [<-HX.out]
  go_wp2_with fail
  refine (aD b _).mono ?_;rintro e w' ⟨rfl,rfl⟩;rw [<-HY.out]
  go_wp2_with fail
  refine (aY _ _).mono ?_;rintro e w' ⟨rfl,rfl⟩;rw [H2.out]
  go_wp2_with fail
  refine (aY _ _).mono ?_;rintro e w' ⟨rfl,rfl⟩;rw [H3.out]
  go_wp2_with fail
  refine (fB _ _ _).mono ?_;rintro e w' ⟨rfl,rfl⟩;rw [H4.out];go_wp2;go_ret;exact ⟨ae,rfl⟩
 ·have H2:=aa h2;have H3:=aa h3;have H4:=aa h4;have HS:=aa hs;clear h2 h3 h4 hs;have hc:(y=4/\bq x y=1)\/(y=5/\bq x y=1)\/(y=8/\bq x y=1)\/(x=7/\y≠4/\y≠5/\y≠8/\bq x y=1)\/(y=0/\x=5/\bq x y=2)\/(y=0/\x=4/\bq x y=2)\/(x=6/\y=6/\bq x y=2)\/(y=0/\x≠7/\x≠4/\x≠5/\x≠6/\bq x y=0)\/(y=0/\x=6/\bq x y=0)\/(y≠4/\y≠5/\y≠8/\x≠7/\y≠0/\x≠6/\bq x y=0)\/(y≠4/\y≠5/\y≠8/\x=6/\y≠6/\y≠0/\bq x y=0):=by
   rw [HS.out]
   by_cases a1:y=4
   ·exact .inl ⟨a1,by rw [if_pos (.inl a1)]⟩
   by_cases a2:y=5
   ·exact .inr (.inl ⟨a2,by rw [if_pos (.inr (.inl a2))]⟩)
   by_cases a3:y=8
   ·exact .inr (.inr (.inl ⟨a3,by rw [if_pos (.inr (.inr (.inl a3)))]⟩))
   by_cases a4:x=7
   ·exact .inr (.inr (.inr (.inl ⟨a4,a1,a2,a3,by rw [if_pos (.inr (.inr (.inr a4)))]⟩)))
   rw [if_neg (by omega)];refine .inr (.inr (.inr (.inr ?_)))
   by_cases a5:y=0
   ·by_cases b1:x=5
    ·exact .inl ⟨a5,b1,by rw [if_pos (.inl ⟨a5,.inl b1⟩)]⟩
    by_cases b2:x=4
    ·exact .inr (.inl ⟨a5,b2,by rw [if_pos (.inl ⟨a5,.inr b2⟩)]⟩)
    rw [if_neg (by omega)]
    by_cases b3:x=6
    ·exact .inr (.inr (.inr (.inr (.inl ⟨a5,b3,rfl⟩))))
    ·exact .inr (.inr (.inr (.inl ⟨a5,a4,b2,b1,b3,rfl⟩)))
   ·by_cases b3:x=6
    ·by_cases b4:y=6
     ·exact .inr (.inr (.inl ⟨b3,b4,by rw [if_pos (.inr ⟨b3,b4⟩)]⟩))
     ·rw [if_neg (by omega)];exact .inr (.inr (.inr (.inr (.inr (.inr ⟨a1,a2,a3,b3,b4,a5,rfl⟩)))))
    ·rw [if_neg (by omega)];exact .inr (.inr (.inr (.inr (.inr (.inl ⟨a1,a2,a3,a4,a5,b3,rfl⟩)))))
  have HC:=aa hc;have e2:(x == 1)=false:=by simp;omega
  clear hc HS
  go_enter Try.func33,Try.ntmps33
  go_wp2_with fail
  refine (aD a _).mono ?_;rintro e w' ⟨rfl,rfl⟩;rw [<-HX.out]
  go_wp2_with fail
  refine (aD b _).mono ?_;rintro e w' ⟨rfl,rfl⟩;rw [<-HY.out]
  go_wp2_with fail
  refine (aY _ _).mono ?_;rintro e w' ⟨rfl,rfl⟩;rw [H2.out]
  go_wp2_with fail
  refine (aY _ _).mono ?_;rintro e w' ⟨rfl,rfl⟩;rw [H3.out]
  go_wp2_with fail
  refine (fB _ _ _).mono ?_;rintro e w' ⟨rfl,rfl⟩;rw [H4.out];clear HX HY H2 H3 H4
  rcases HC.out with ⟨g1,hs⟩ | ⟨g1,hs⟩ | ⟨g1,hs⟩ | ⟨g1,g2,g3,g4,hs⟩ | ⟨g1,g2,hs⟩ | ⟨g1,g2,hs⟩ | ⟨g1,g2,hs⟩ | ⟨g1,g2,g3,g4,g5,hs⟩ | ⟨g1,g2,hs⟩ | ⟨g1,g2,g3,g4,g5,g6,hs⟩ | ⟨g1,g2,g3,g4,g5,g6,hs⟩
  all_goals
   clear HC;have HS:=aa hs;clear hs
   try subst g1
   try subst g2
   try subst g4
   try have t1:(x == 1)=false:=by simp;omega
   try have t2:(x == 7)=false:=by simp;omega
   try have t3:(x == 5)=false:=by simp;omega
   try have t4:(x == 4)=false:=by simp;omega
   try have t5:(x == 6)=false:=by simp;omega
   try have t6:(y == 2)=false:=by simp;omega
   try have t7:(y == 4)=false:=by simp;omega
   try have t8:(y == 5)=false:=by simp;omega
   try have t9:(y == 8)=false:=by simp;omega
   try have t10:(y == 0)=false:=by simp;omega
   try have t11:(y == 6)=false:=by simp;omega
   clear ka kb
   try clear g1
   try clear g2
   try clear g3
   try clear g4
   try clear g5
   try clear g6
   try clear h1
   go_wp2;go_ret;exact ⟨az (by rw [HS.out];rfl),rfl⟩
end Go.Proofs.Ythdphijabffpiaa
