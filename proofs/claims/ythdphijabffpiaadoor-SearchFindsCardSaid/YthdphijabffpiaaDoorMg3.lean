import Derived.Test.YthdphijabffpiaaDoorZ0
import Derived.Test.YthdphijabffpiaaDoorMg1
import Derived.Lib.MinMax
import Derived.Test.YthdphijabffpiaaDoorCellC
import Derived.Test.YthdphijabffpiaaDoorErrS
import Derived.Deep.Cut
import Derived.Deep.CutRange
import Derived.Deep.MidRow
import Derived.Test.YthdphijabffpiaaDoorMg2
set_option maxRecDepth 100000
set_option linter.unusedVariables false
set_option linter.unusedSimpArgs false
set_option maxHeartbeats 400000
namespace Go.Proofs.YthdphijabffpiaaDoor
open Go.RowKit Go.ChangeShapes Go.WideShapes
def gH{α:Type}(E:Elem α)(Z:ak)(ty:TypeId)(w:World)(L:List α)(e:Ending)(w':World):Prop:=∃ v',e=.returned v'/\OwnE E Z w' w.heap.size ty v' L/\Below w.heap.size w w'
theorem OwnE.some{α:Type}{E:Elem α}{Z:ak}{w:World}{B:Nat}{ty:TypeId}{v:Value}{L:List α}(h:OwnE E Z w B ty v L)(hl:0<L.length):∃ g cap,v=.slice (some ⟨g,0,none⟩) L.length cap/\B<=g/\g<w.heap.size:=by
 obtain ⟨CS,h1,_⟩:=h
 rcases h1.2 with ⟨rfl,h0⟩ | ⟨g,cap,cur,rfl,hB,hg,_⟩
 ·omega
 ·exact ⟨g,cap,rfl,hB,(Array.getElem?_eq_some_iff.1 hg).1⟩
theorem OwnE.zone{α:Type}{E:Elem α}{Z Y:ak}{w:World}{B:Nat}{ty:TypeId}{v:Value}{L:List α}(h:OwnE E Z w B ty v L)(hy:∀ b,b<w.heap.size->Z b->Y b):OwnE E Y w B ty v L:=h.keep (.refl _ _) hy
section
section
variable {Z Y S : ak} {w w' : World} {B g gc : Nat} {L : List Cl} {wrap : Bool}
end
end
section
section
variable (sa : Nat → Addr) (Y : ak) (L : List Cl) (v : Value) (w : World)
end
end
section
section
variable {Z : ak} {w wx wy : World} {B g gc n cap : Nat} {L1 : List Cl} {wrap : Bool}
end
section
variable (sa : Nat → Addr) (Z Y : ak) (B g gc : Nat) (L p : List Cl) (wrap : Bool) (at_ : Int) (v : Value) (w : World)
end
end
section
variable {Yo : ak}
abbrev Ln:=List Cl × Bool
abbrev zl:Ln:=([],false)
def lineE:Elem Ln:=prE gD fl
theorem line_rep{Z:ak}{w:World}{C:List Value}{x:Ln}:lineE.rep Z w C x↔∃ v,C=[v,.bool x.2]/\HeldE cellE Z w v x.1:=by
 constructor
 ·rintro ⟨C1,C2,rfl,⟨v,rfl,h⟩,rfl⟩;exact ⟨v,rfl,h⟩
 ·rintro ⟨v,rfl,h⟩;exact ⟨[v],[_],rfl,⟨v,rfl,h⟩,rfl⟩
theorem aH{Z:ak}{w:World}{ao:Option Addr}{n cap:Nat}{L:List Ln}(h:HeldE lineE Z w (.slice ao n cap) L):n=L.length/\n<=cap/\∀ i,i<L.length->∃ b off v,ao=some ⟨b,off,none⟩/\b<w.heap.size/\Z b /\
  w.cell? ⟨b,off+i * 2,none⟩=some v/\w.cell? ⟨b,off+i * 2+1,none⟩=some (.bool (L.getD i zl).2)/\HeldE cellE Z w v (L.getD i zl).1:=by
 obtain ⟨h1,h2,h3⟩:=h.spots;refine ⟨h1,h2,fun i hi=>?_⟩;obtain ⟨b,off,rfl,hb,hz,C,hC,hr⟩:=h3 i hi;obtain ⟨v,rfl,ht⟩:=line_rep.1 hr;exact ⟨b,off,v,rfl,hb,hz,hC 0 (by decide),hC 1 (by decide),ht⟩
structure Rw where
 g:Nat
 gc:Nat
 L:List Cl
 wrap:Bool
def r0:Rw:=⟨0,0,[],false⟩
section
variable {Z Y S : ak} {w w' : World} {B : Nat} {Rs : List Rw}
end
section
variable {S : ak} {w w' : World} {B gg gr wd : Nat} {Rs : List Rw}
end
end
section
section
variable {w w' : World} {B gg wd : Nat} {v : Value} {Xs : List (Option Nat)} {Rs : List Rw}
theorem dm{b:Nat}{C D:Array Value}{t u:TypeId}(h:w.heap[b]? = some (.cells C t (0,0)))(k:w.heap[b]? = some (.cells D u (0,0)))(hn:t≠u):False:=by
 rw [h] at k;simp only [Option.some.injEq,Obj.cells.injEq] at k;exact hn k.2.1
end
end
section
variable {Yo : ak}
end
end Go.Proofs.YthdphijabffpiaaDoor
