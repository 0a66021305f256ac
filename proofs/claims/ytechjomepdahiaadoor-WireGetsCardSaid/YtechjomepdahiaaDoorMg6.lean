import Derived.Test.YtechjomepdahiaaDoorZ0
import Derived.Test.YtechjomepdahiaaDoorAudF
import Derived.Test.YtechjomepdahiaaDoorMg2
import Derived.Test.YtechjomepdahiaaDoorMg3
set_option maxRecDepth 100000
set_option linter.unusedVariables false
set_option linter.unusedSimpArgs false
set_option maxHeartbeats 400000
namespace Go.Proofs.YtechjomepdahiaaDoor
open Go.RowKit Go.ChangeShapes Go.WideShapes
def aA(n:Nat):List Int:=if h:n<128 then [(n:Int)] else ((128+n % 128:Nat):Int) :: aA (n / 128)
termination_by n
decreasing_by omega
theorem cB{n:Nat}(h:n<128):aA n=[(n:Int)]:=by rw [aA,dif_pos h]
theorem dj{n:Nat}(h:128<=n):aA n=((128+n % 128:Nat):Int) :: aA (n / 128):=by rw [aA,dif_neg (by omega)]
theorem aE{n:Nat}(h:n<2097152):1<=(aA n).length/\(aA n).length<=3:=by
 by_cases h1:n<128
 ·rw [cB h1];simp
 ·rw [dj (by omega)]
  by_cases h2:n / 128<128
  ·rw [cB h2];simp
  ·rw [dj (by omega),cB (by omega)];simp
theorem bO(n:Nat):∀ x ∈ aA n,0<=x/\x<=255:=by
 induction n using Nat.strongRecOn with
 |_ n ih =>
  by_cases h1:n<128
  ·rw [cB h1];intro x hx;rw [List.mem_singleton.1 hx];omega
  ·rw [dj (by omega)];intro x hx
   rcases List.mem_cons.1 hx with rfl | hx
   ·omega
   ·exact ih (n / 128) (by omega) x hx
def blk(c:Cl):Bool:=c.1 == 0
def clB(c:Cl):List Int:=if c.2.length=0 then [] else aA (2 * (c.2.flatMap av).length+(if c.1=2 then 1 else 0))++c.2.flatMap av
def aC(b:Bool):List Cl->Nat
 | []=>0
 | c :: l=>if blk c=b then aC b l+1 else 0
theorem cU(b:Bool):∀ l:List Cl,aC b l<=l.length
 |[]=>Nat.le_refl _
 |c :: l=>by
  unfold aC;have:=cU b l
  split
  ·simp only [List.length_cons];omega
  ·exact Nat.zero_le _
def aD:List Cl->List Int
 | []=>[]
 | c :: l=>aA (2 * (aC (blk c) l+1)+(if blk c=true then 0 else 1))++(clB c++(l.take (aC (blk c) l)).flatMap clB)++aD (l.drop (aC (blk c) l))
termination_by l=>l.length
decreasing_by simp only [List.length_drop,List.length_cons];omega
theorem ci:aD []=[]:=by rw [aD]
theorem cC(c:Cl)(l:List Cl):aD (c :: l)=aA (2 * (aC (blk c) l+1)+(if blk c=true then 0 else 1))++(clB c++(l.take (aC (blk c) l)).flatMap clB)++aD (l.drop (aC (blk c) l)):=by rw [aD]
def lnB(l:Ln):List Int:=(if l.2=true then 1 else 0) :: aD l.1
def cD(v:Vw):Int:=(if v.pd=true then 1 else 0)+(if v.au=true then 2 else 0)
def bG(v:Vw):List Int:=76 :: (aA v.w.toNat++aA v.h.toNat++aA v.r.toNat++aA v.c.toNat++[cD v]++v.L.flatMap lnB)
def bd:Nat->Nat
 | 0=>1
 | f+1=>bd f * 128
def fr(f:List Int):Nat:=((List.range (f.length+1)).find? fun k=>aK f k == f.length).getD 0
theorem gG{f:List Int}{K:Nat}(h:aK f K=f.length):fr f=K:=by
 unfold fr;have hK:K<f.length+1:=by have:=jw f K;omega
 cases hf:(List.range (f.length+1)).find? fun k=>aK f k == f.length with
 |none =>
  rw [List.find?_eq_none] at hf;exact absurd (by rw [beq_iff_eq];exact h) (hf K (List.mem_range.2 hK))
 |some k =>
  have:=List.find?_some hf;rw [beq_iff_eq] at this;exact fT f (this.trans h.symm)
def eY(f:List Int):List Int:=dN f (fr f)
def jE(f:List Int):Bool:=!bI f (fr f)
end Go.Proofs.YtechjomepdahiaaDoor
