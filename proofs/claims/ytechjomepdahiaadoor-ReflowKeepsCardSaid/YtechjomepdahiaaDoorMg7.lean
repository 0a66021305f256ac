import Derived.Test.YtechjomepdahiaaDoorZ0
import Derived.Test.YtechjomepdahiaaDoorRflB
import Derived.Test.YtechjomepdahiaaDoorMg2
import Derived.Test.YtechjomepdahiaaDoorMg4
set_option maxRecDepth 100000
set_option linter.unusedVariables false
set_option linter.unusedSimpArgs false
set_option maxHeartbeats 400000
namespace Go.Proofs.YtechjomepdahiaaDoor
open Go.RowKit Go.ChangeShapes Go.WideShapes
theorem dQ(w:Nat)(x:Cl):aj (aF w x)=true:=by
 unfold aF
 split
 ·decide
 ·exact eO _ _
theorem bX:∀ n:Nat,aj (List.replicate n zc)=true
 | 0=>rfl
 | n+1=>by rw [List.replicate_succ,<-List.singleton_append];exact aX (by decide) (bX n)
theorem cV{w:Nat}{C:List Cl}(g:Bool)(hl:C.length<=w)(hs:aj C=true):(aP w C g).1.length=w/\aj (aP w C g).1=true/\(aP w C g).2=g :=
 ⟨by unfold aP;simp;omega,aX hs (bX _),rfl⟩
theorem cW(w:Nat)(X:List Cl)(h:1<=w)(hr:∀ k,k<X.length->ap (X.getD k zc)=true):∀ k,k<=X.length->(∀ l ∈ (aG w X k).1,l.1.length=w/\aj l.1=true/\l.2=true)/\aj (aG w X k).2=true
 |0=>fun _=>⟨fun l hl=>absurd hl List.not_mem_nil,rfl⟩
 |k+1=>fun hk=>by
  obtain ⟨h1,h2⟩:=cW w X h hr k (by omega);have hs:=dQ w (X.getD k zc);have hc:=(bw w X h k).1;unfold aG
  split
  ·refine ⟨fun l hl=>?_,hs⟩
   rcases List.mem_append.1 hl with hl | hl
   ·exact h1 l hl
   ·rw [List.mem_singleton.1 hl];exact cV true hc h2
  ·exact ⟨h1,aX h2 hs⟩
theorem dn(w:Nat)(X:List Cl)(h:1<=w)(hr:∀ k,k<X.length->ap (X.getD k zc)=true):0<(aE w X).length/\∀ j,j<(aE w X).length->((aE w X).getD j zl).1.length=w/\aj ((aE w X).getD j zl).1=true/\((aE w X).getD j zl).2=decide (j+1<(aE w X).length):=by
 obtain ⟨h1,h2⟩:=cW w X h hr X.length (Nat.le_refl _);have hc:=(bw w X h X.length).1;unfold aE;obtain ⟨Ls,jp⟩:=ab ((aG w X X.length).1);rw [<-jp] at h1 ⊢;rw [List.length_append,List.length_singleton];refine ⟨by omega,fun j hj=>?_⟩;rw [aC]
 by_cases hl:j<Ls.length
 ·rw [if_pos hl,decide_eq_true (by omega)];refine h1 _ ?_;rw [show Ls.getD j zl=Ls[j] from by simp [List.getD,List.getElem?_eq_getElem hl]];exact List.getElem_mem _
 ·rw [if_neg hl,show j - Ls.length=0 by omega,decide_eq_false (by omega)];exact cV false hc h2
end Go.Proofs.YtechjomepdahiaaDoor
