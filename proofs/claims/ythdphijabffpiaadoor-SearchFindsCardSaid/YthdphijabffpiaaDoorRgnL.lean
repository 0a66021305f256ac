import Derived.Test.YthdphijabffpiaaDoorZ0
import Derived.Test.YthdphijabffpiaaDoorErfL
import Derived.Test.YthdphijabffpiaaDoorAudA
set_option maxRecDepth 100000
set_option linter.unusedVariables false
set_option linter.unusedSimpArgs false
set_option maxHeartbeats 400000
namespace Go.Proofs.YthdphijabffpiaaDoor
open Go.RowKit Go.ChangeShapes Go.WideShapes
def sentFive : List (String × List UInt8 × Nat) := [("linotype/api.ErrForm", [102, 111, 114, 109], 1), ("linotype/api.ErrRange", [114, 97, 110, 103, 101], 2), ("linotype/api.ErrLong", [108, 111, 110, 103], 3), ("linotype/api.ErrKind", [107, 105, 110, 100], 4), ("linotype/api.ErrNone", [110, 111, 110, 101], 7)]
def gL:Nat->Nat
 | 1=>0 | 2=>1 | 3=>2 | 4=>3 | _=>4
theorem fP{W:World}(h:laidMet Tryd.prog (sentFive.map fun x=>(x.1,F.sentD x.2.1)) W):∃ sa,Five W sa:=by
 obtain ⟨ps,hv,jN,gZ⟩:=h;obtain ⟨ads,h1,h2,h3,h4⟩:=F.laidVars_sents Tryd.underlying36 F.esRow Tryd.underlying163 Tryd.underlying185 rfl rfl Tryd.underlying9 (by kernel_rfl) (by kernel_rfl) sentFive ps
  (by intro x hx;simp only [sentFive,List.mem_cons,List.not_mem_nil,or_false] at hx;rcases hx with rfl | rfl | rfl | rfl | rfl <;> exact ⟨by kernel_rfl,by kernel_rfl⟩) hv gZ jN
 refine ⟨fun k=>ads.getD (gL k) default,⟨fun k hk=>?_⟩⟩;simp only [List.mem_cons,List.not_mem_nil,or_false] at hk
 rcases hk with rfl | rfl | rfl | rfl | rfl
 ·exact h2 0 (by decide)
 ·exact h2 1 (by decide)
 ·exact h2 2 (by decide)
 ·exact h2 3 (by decide)
 ·exact h2 4 (by decide)
theorem eb{W:World}(h:laidMetH Tryd.prog (sentFive.map fun x=>(x.1,F.sentD x.2.1)) W):∃ sa,Five W sa:=fP h
end Go.Proofs.YthdphijabffpiaaDoor
