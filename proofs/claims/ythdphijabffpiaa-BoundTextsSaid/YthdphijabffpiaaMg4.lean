import Derived.Test.YthdphijabffpiaaZ0
import Derived.Test.YthdphijabffpiaaMg3
import Derived.Test.YthdphijabffpiaaSegE
import Derived.Test.YthdphijabffpiaaTabG
import Derived.Test.YthdphijabffpiaaMg1
set_option maxRecDepth 100000
set_option linter.unusedVariables false
set_option linter.unusedSimpArgs false
set_option maxHeartbeats 400000
namespace Go.Proofs.Ythdphijabffpiaa
open Go.RowKit Go.ChangeShapes Go.WideShapes
def At(w:World)(g:Nat)(xs:List Pr)(k:Nat):Prop:=aX w g (decide (0<k)) (lSt xs k) (cSt xs k) (pSt xs k) (oSt xs k)
theorem iz(xs:List Pr)(k:Nat):0<=cSt xs k/\cSt xs k<=255/\0<=pSt xs k/\pSt xs k<=255:=by
 have h1:=gF xs k;have h2:=gG xs k;omega
def im(w:World)(g:Nat)(xs:List Pr)(k:Nat)(e:Ending)(w':World):Prop:=e=.returned (.bool (jR xs k))/\At w' g xs (k+1)/\But g w.heap.size w w'
theorem hM(w:World)(g:Nat)(xs:List Pr)(k:Nat)(h:At w g xs k):Calls Try.prog 18 #[.pointer (some ⟨g,0,none⟩),.agg #[.int .i64 (xs.getD k Pr.none).br,.bool (xs.getD k Pr.none).pc,.int .i64 (xs.getD k Pr.none).cv,.int .i64 (xs.getD k Pr.none).ea]] w (im w g xs k):=by
 obtain ⟨c0,c1,p0,p1⟩:=iz xs k;refine (gO g _ _ _ _ _ _ _ _ _ w h c0 c1 p0 p1).mono ?_;rintro e w' ⟨rfl,hs,hb⟩;refine ⟨by rw [dL],?_,hb⟩;unfold At;rw [decide_eq_true (show 0<k+1 by omega)];exact hs
end Go.Proofs.Ythdphijabffpiaa
