import Derived.Test.YthdphijabffpiaaZ0
import Derived.Test.YthdphijabffpiaaUcdK
import Derived.Test.YthdphijabffpiaaMg1
import Derived.Test.YthdphijabffpiaaMg4
set_option maxRecDepth 100000
set_option linter.unusedVariables false
set_option linter.unusedSimpArgs false
set_option maxHeartbeats 400000
namespace Go.Proofs.Ythdphijabffpiaa
open Go.RowKit Go.ChangeShapes Go.WideShapes
def aG(r:Int):Pr:=⟨bb r,av tPict r,bd r,cg r⟩
def ai(xs:List Int):List Pr:=xs.map aG
theorem bR{xs:List Int}{k:Nat}(h:k<xs.length):(ai xs).getD k Pr.none=aG (xs.getD k 0):=by
 have h':k<(ai xs).length:=by simpa [ai] using h
 simp [List.getD,List.getElem?_eq_getElem h,ai]
def bT(xs:List Int):Prop:=∀ i,i<xs.length -> -2147483648<=xs.getD i 0/\xs.getD i 0<=2147483647
theorem fS{w:World}{B B' e size:Nat}{v:Value}{n:Nat}{xs:List Value}(h:w.ownsRow B e size v n xs)(hb:B'<=B):w.ownsRow B' e size v n xs:=by
 refine ⟨h.1,?_⟩
 rcases h.2 with hn | ⟨g,cap,cur,rfl,hB,rest⟩
 ·exact .inl hn
 ·exact .inr ⟨g,cap,cur,rfl,Nat.le_trans hb hB,rest⟩
theorem fT(r:Int):dx r=.agg #[.int .i64 (aG r).br,.bool (aG r).pc,.int .i64 (aG r).cv,.int .i64 (aG r).ea]:=rfl
end Go.Proofs.Ythdphijabffpiaa
