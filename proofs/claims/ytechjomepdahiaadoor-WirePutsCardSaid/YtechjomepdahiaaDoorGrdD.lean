import Derived.Test.YtechjomepdahiaaDoorZ0
import Derived.Test.YtechjomepdahiaaDoorMg4
import Derived.Test.YtechjomepdahiaaDoorGrdW
import Derived.Test.YtechjomepdahiaaDoorMg2
set_option maxRecDepth 100000
set_option linter.unusedVariables false
set_option linter.unusedSimpArgs false
set_option maxHeartbeats 400000
namespace Go.Proofs.YtechjomepdahiaaDoor
open Go.RowKit Go.ChangeShapes Go.WideShapes
section
variable {w w' : World} {B gg wd : Nat} {v v' : Value} {Xs Xs' : List (Option Nat)} {Rs : List Rw}
end
def OfTold(sa:Nat->Addr)(w:World)(Ls:List Ln)(e:Ending)(w':World):Prop:=(dR Ls->∃ gg gr Rs,e=.returned (.tuple #[.pointer (some ⟨gg,0,none⟩),.nilIface])/\ge w' w.heap.size gg gr (bB Ls) Rs/\Rs.map ks=Ls)/\(∀ i c:Nat,cJ Ls i c->∃ u,e=.returned (.tuple #[.pointer none,u])/\F.IsErr sa w' u [(i:Int)] c)/\Below w.heap.size w w'
theorem OfTold.bad{sa:Nat->Addr}{w w':World}{Ls:List Ln}{k c:Nat}{u:Value}(hk:k<Ls.length)(h:∀ j,j<k->bH (bB Ls) (Ls.getD j zl)=0)(hc:bH (bB Ls) (Ls.getD k zl)=c)(hn:c≠0)(he:F.IsErr sa w' u [(k:Int)] c)(hb:Below w.heap.size w w'):OfTold sa w Ls (.returned (.tuple #[.pointer none,u])) w':=by
 refine ⟨fun hg=>absurd (hc.symm.trans (hg k hk)) hn,fun i c' hf=>?_,hb⟩;obtain ⟨rfl,rfl⟩:=fO hk h (by rw [hc];exact hn) hf;exact ⟨u,rfl,by rw [hc];exact he⟩
end Go.Proofs.YtechjomepdahiaaDoor
