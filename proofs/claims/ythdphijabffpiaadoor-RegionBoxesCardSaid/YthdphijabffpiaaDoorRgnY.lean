import Derived.Test.YthdphijabffpiaaDoorZ0
import Derived.Test.YthdphijabffpiaaDoorRgnS
import Derived.Test.YthdphijabffpiaaDoorRgnX
set_option maxRecDepth 100000
set_option linter.unusedVariables false
set_option linter.unusedSimpArgs false
set_option maxHeartbeats 400000
namespace Go.Proofs.YthdphijabffpiaaDoor
open Go.RowKit Go.ChangeShapes Go.WideShapes
theorem cS(L:List Cl)(n:Nat):∀ k,k<=n->aw (L.take n) k=aw L k
 |0,_=>rfl
 |k+1,h=>by
  have ih:=cS L n k (by omega);have e:(L.take n).getD k zc=L.getD k zc:=by rw [List.getD_eq_getElem?_getD,List.getD_eq_getElem?_getD,List.getElem?_take_of_lt (by omega)]
  unfold aw;rw [e,ih]
theorem fT(L:List Cl)(f t:Nat)(hf:aO L f<=am L t)(ht:am L t<L.length):dk L f t=aE L (aO L f) (am L t) (aw L (am L t+1)):=by
 unfold dk aE;have hm:aJ L f t=(L.take (am L t+1)).drop (aO L f):=by unfold aJ;rw [List.drop_take]
 have hl:=bB L (am L t+1);rw [bA L _ _ _ (by omega),Nat.min_eq_left (by omega),hm]
 congr 1
 unfold aU;rw [bT,List.length_drop,List.length_take,Nat.min_eq_left (show am L t+1<=L.length by omega),show aO L f+(am L t+1 - aO L f)=am L t+1 by omega,cS L _ _ (Nat.le_refl _),List.take_drop]
 by_cases h:aO L f<=aw L (am L t+1)
 ·rw [show aO L f+(aw L (am L t+1) - aO L f)=aw L (am L t+1) by omega,List.take_take,Nat.min_eq_left hl]
 ·rw [List.drop_eq_nil_of_le (by simp;omega),List.drop_eq_nil_of_le (by simp;omega)]
def dN(L:List Cl)(t k:Nat):Bool:=decide ((L.getD k zc).1=0) || (decide (t<k) && !(decide ((L.getD k zc).1=3) && decide (k=t+1)))
def fw(L:List Cl)(t m:Nat):Prop:=am L t+1<=m\/aw L m=aw L (am L t+1)
theorem fU(L:List Cl)(t k:Nat)(gV:a8 L L.length=true)(ht:t<L.length)(hk:k<L.length)(hp:fw L t (k+1))(hq:dN L t k=true):fw L t k:=by
 have kA:=bd L gV;unfold dN at hq;simp only [Bool.or_eq_true,Bool.and_eq_true,decide_eq_true_eq,Bool.not_eq_true',Bool.and_eq_false_iff,decide_eq_false_iff_not] at hq;unfold fw at hp ⊢;have hT:(am L t=t+1/\(L.getD t zc).1=2)\/(am L t=t/\(L.getD t zc).1≠2):=by
  unfold am
  split
  ·next h=>exact .inl ⟨rfl,h⟩
  ·next h=>exact .inr ⟨rfl,h⟩
 rcases Nat.lt_or_ge (am L t) k with h | h
 ·exact .inl (by omega)
 ·have h0:(L.getD k zc).1=0:=by
   rcases hq with h1 | ⟨h1,h2⟩
   ·exact h1
   ·rcases hT with ⟨e,e2⟩ | ⟨e,_⟩
    ·have kN:k=t+1:=by omega
     have:=(kA.1 t ht e2).2;rw [<-kN] at this
     rcases h2 with h2 | h2
     ·exact absurd this h2
     ·exact absurd kN h2
    ·omega
  have hs:aw L (k+1)=aw L k:=by
   show (if (L.getD k zc).1=0 then aw L k else k+1)=_;rw [if_pos h0]
  rcases hp with hp | hp
  ·have e:am L t+1=k+1:=by omega
   exact .inr (by rw [e,hs])
  ·exact .inr (by rw [<-hs,hp])
theorem f7(L:List Cl)(t m:Nat)(gV:a8 L L.length=true)(ht:t<L.length)(hm:m<=L.length)(hp:fw L t m)(hq:∀ k,m=k+1->dN L t k=false):m=aw L (am L t+1):=by
 have kA:=bd L gV;unfold fw at hp
 cases m with
 |zero =>
  rcases hp with hp | hp
  ·omega
  ·rw [<-hp];rfl
 |succ k =>
  have hq:=hq k rfl;unfold dN at hq;simp only [Bool.or_eq_false_iff,Bool.and_eq_false_iff,decide_eq_false_iff_not,Bool.not_eq_false',Bool.and_eq_true,decide_eq_true_eq] at hq;have hs:aw L (k+1)=k+1:=by
   show (if (L.getD k zc).1=0 then aw L k else k+1)=_;rw [if_neg hq.1]
  rcases hp with hp | hp
  ·rcases Nat.lt_or_ge (am L t) k with h | h
   ·exfalso;have hle:t<=am L t:=by unfold am;split <;> omega
    rcases hq.2 with h2 | ⟨h2,h3⟩
    ·omega
    ·have:=(kA.2 k (by omega) h2).2;rw [show k - 1=t by omega] at this;have:am L t=t+1:=if_pos this;omega
   ·have e:am L t=k:=by omega
    rw [e,hs]
  ·rw [<-hp,hs]
end Go.Proofs.YthdphijabffpiaaDoor
