import Derived.Test.YtechjomepdahiaaDoorZ0
import Derived.Test.YtechjomepdahiaaDoorGrdR
import Derived.Test.YtechjomepdahiaaDoorCellS
set_option maxRecDepth 100000
set_option linter.unusedVariables false
set_option linter.unusedSimpArgs false
set_option maxHeartbeats 400000
namespace Go.Proofs.YtechjomepdahiaaDoor
open Go.RowKit Go.ChangeShapes Go.WideShapes
def bH(n0:Nat)(l:Ln):Nat:=if l.1.length=0\/1024<l.1.length then 3 else if aI l.1=false then 5 else if l.1.length≠n0 then 3 else 0
def bB(Ls:List Ln):Nat:=(Ls.getD 0 zl).1.length
def dR(Ls:List Ln):Prop:=∀ k,k<Ls.length->bH (bB Ls) (Ls.getD k zl)=0
def cJ(Ls:List Ln)(i c:Nat):Prop:=i<Ls.length/\(∀ j,j<i->bH (bB Ls) (Ls.getD j zl)=0)/\bH (bB Ls) (Ls.getD i zl)=c/\c≠0
theorem ia(Ls:List Ln):dR Ls\/∃ i c,cJ Ls i c:=by
 have h:∀ n,n<=Ls.length->(∀ j,j<n->bH (bB Ls) (Ls.getD j zl)=0)\/∃ i c,cJ Ls i c:=by
  intro n
  induction n with
  |zero=>intro _;exact .inl fun j hj=>absurd hj (Nat.not_lt_zero _)
  |succ n ih =>
   intro hn
   rcases ih (by omega) with h | h
   ·by_cases e:bH (bB Ls) (Ls.getD n zl)=0
    ·refine .inl fun j hj=>?_
     by_cases ej:j=n
     ·subst ej;exact e
     ·exact h j (by omega)
    ·exact .inr ⟨n,_,by omega,h,rfl,e⟩
   ·exact .inr h
 exact h Ls.length (Nat.le_refl _)
theorem fO{Ls:List Ln}{k i c:Nat}(hk:k<Ls.length)(h:∀ j,j<k->bH (bB Ls) (Ls.getD j zl)=0)(hn:bH (bB Ls) (Ls.getD k zl)≠0)(hb:cJ Ls i c):i=k/\c=bH (bB Ls) (Ls.getD k zl):=by
 obtain ⟨h1,h2,h3,h4⟩:=hb
 rcases Nat.lt_trichotomy i k with hl | rfl | hl
 ·exact absurd (h3.symm.trans (h i hl)) h4
 ·exact ⟨rfl,h3.symm⟩
 ·exact absurd (h2 k hl) hn
theorem iN{Ls:List Ln}{i c:Nat}(h:∀ j,j<Ls.length->bH (bB Ls) (Ls.getD j zl)=0)(hb:cJ Ls i c):False:=hb.2.2.2 (hb.2.2.1.symm.trans (h i hb.1))
def WrongTold(w:World)(Ls:List Ln)(e:Ending)(w':World):Prop:=(dR Ls->e=.returned (.tuple #[.int .i64 (-1),.int .i64 0]))/\(∀ i c:Nat,cJ Ls i c->e=.returned (.tuple #[.int .i64 i,.int .i64 c]))/\Below w.heap.size w w'
theorem WrongTold.bad{w w':World}{Ls:List Ln}{k c:Nat}(hk:k<Ls.length)(h:∀ j,j<k->bH (bB Ls) (Ls.getD j zl)=0)(hc:bH (bB Ls) (Ls.getD k zl)=c)(hn:c≠0)(hb:Below w.heap.size w w'):WrongTold w Ls (.returned (.tuple #[.int .i64 k,.int .i64 c])) w':=by
 refine ⟨fun hg=>absurd (hc.symm.trans (hg k hk)) hn,fun i c' hf=>?_,hb⟩;obtain ⟨rfl,rfl⟩:=fO hk h (by rw [hc];exact hn) hf;rw [hc]
end Go.Proofs.YtechjomepdahiaaDoor
