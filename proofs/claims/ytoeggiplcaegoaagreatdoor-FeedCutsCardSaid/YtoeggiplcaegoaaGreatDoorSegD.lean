import Derived.Test.YtoeggiplcaegoaaGreatDoorZ0
import Derived.Test.YtoeggiplcaegoaaGreatDoorMg2
set_option maxRecDepth 100000
set_option linter.unusedVariables false
set_option linter.unusedSimpArgs false
set_option maxHeartbeats 400000
namespace Go.Proofs.YtoeggiplcaegoaaGreatDoor
open Go.RowKit Go.ChangeShapes Go.WideShapes
def AD(w:World)(g:Nat)(tl:Bool)(la cj pi:Int)(od:Bool):Prop:=Has w g [.bool tl,.int .i64 la,.int .u8 cj,.int .u8 pi,.bool od] 141
def cC(tl:Bool)(la cj pi:Int)(od:Bool)(br:Int)(pc:Bool)(cv:Int):Bool :=
 if tl=false then false else if cq la br=1 then true else if cv=1/\cj=2 then true else if pc=true/\pi=2 then true else (br == 6 && od)
theorem pG(tl:Bool)(la cj pi:Int)(od:Bool)(br:Int)(pc:Bool)(cv:Int) :
  (tl=false/\cC tl la cj pi od br pc cv=false)\/(tl=true/\(cq la br == 1)=true/\cC tl la cj pi od br pc cv=true)
  \/ (tl=true/\(cq la br == 1)=false/\(cv == 1)=true/\(cj == 2)=true/\cC tl la cj pi od br pc cv=true)
  \/ (tl=true/\(cq la br == 1)=false/\((cv == 1)=false\/(cv == 1)=true/\(cj == 2)=false)/\pc=true/\(pi == 2)=true/\cC tl la cj pi od br pc cv=true)
  \/ (tl=true/\(cq la br == 1)=false/\((cv == 1)=false\/(cv == 1)=true/\(cj == 2)=false)/\(pc=false\/pc=true/\(pi == 2)=false)/\((br == 6)=false/\cC tl la cj pi od br pc cv=false\/(br == 6)=true/\cC tl la cj pi od br pc cv=od)):=by
 unfold cC
 cases tl with
 |false=>simp
 |true =>
  by_cases h1:cq la br=1
  ·simp [h1]
  by_cases h2:cv=1/\cj=2
  ·simp [h1,h2]
  have Kf:((cv == 1)=false\/(cv == 1)=true/\(cj == 2)=false):=by
   by_cases h:cv=1
   ·exact .inr ⟨by simpa using h,by simp;intro e;exact h2 ⟨h,e⟩⟩
   ·exact .inl (by simpa using h)
  by_cases h3:pc=true/\pi=2
  ·refine .inr (.inr (.inr (.inl ⟨rfl,by simpa using h1,Kf,h3.1,by simpa using h3.2,?_⟩)));rw [if_neg (by simp),if_neg h1,if_neg h2,if_pos h3]
  have h3':(pc=false\/pc=true/\(pi == 2)=false):=by
   cases pc with
   | false=>exact .inl rfl
   | true=>exact .inr ⟨rfl,by simp;intro e;exact h3 ⟨rfl,e⟩⟩
  refine .inr (.inr (.inr (.inr ⟨rfl,by simpa using h1,Kf,h3',?_⟩)));rw [if_neg (by simp),if_neg h1,if_neg h2,if_neg h3]
  by_cases h4:br=6 <;> simp [h4]
end Go.Proofs.YtoeggiplcaegoaaGreatDoor
