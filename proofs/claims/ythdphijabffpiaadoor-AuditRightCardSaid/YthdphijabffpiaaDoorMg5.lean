import Derived.Test.YthdphijabffpiaaDoorZ0
import Derived.Test.YthdphijabffpiaaDoorGrdR
import Derived.Test.YthdphijabffpiaaDoorCellS
import Derived.Test.YthdphijabffpiaaDoorMg4
import Derived.Test.YthdphijabffpiaaDoorMg3
import Derived.Test.YthdphijabffpiaaDoorMg1
import Derived.Test.YthdphijabffpiaaDoorCursorD
set_option maxRecDepth 100000
set_option linter.unusedVariables false
set_option linter.unusedSimpArgs false
set_option maxHeartbeats 400000
namespace Go.Proofs.YthdphijabffpiaaDoor
open Go.RowKit Go.ChangeShapes Go.WideShapes
def aX(n0:Nat)(l:Ln):Nat:=if l.1.length=0\/1024<l.1.length then 3 else if aF l.1=false then 5 else if l.1.length≠n0 then 3 else 0
def aY(Ls:List Ln):Nat:=(Ls.getD 0 zl).1.length
def cf(Ls:List Ln):Prop:=∀ k,k<Ls.length->aX (aY Ls) (Ls.getD k zl)=0
def bt(Ls:List Ln)(i c:Nat):Prop:=i<Ls.length/\(∀ j,j<i->aX (aY Ls) (Ls.getD j zl)=0)/\aX (aY Ls) (Ls.getD i zl)=c/\c≠0
theorem df(Ls:List Ln):cf Ls\/∃ i c,bt Ls i c:=by
 have h:∀ n,n<=Ls.length->(∀ j,j<n->aX (aY Ls) (Ls.getD j zl)=0)\/∃ i c,bt Ls i c:=by
  intro n
  induction n with
  |zero=>intro _;exact .inl fun j hj=>absurd hj (Nat.not_lt_zero _)
  |succ n ih =>
   intro hn
   rcases ih (by omega) with h | h
   ·by_cases e:aX (aY Ls) (Ls.getD n zl)=0
    ·refine .inl fun j hj=>?_
     by_cases ej:j=n
     ·subst ej;exact e
     ·exact h j (by omega)
    ·exact .inr ⟨n,_,by omega,h,rfl,e⟩
   ·exact .inr h
 exact h Ls.length (Nat.le_refl _)
theorem ea{Ls:List Ln}{k i c:Nat}(hk:k<Ls.length)(h:∀ j,j<k->aX (aY Ls) (Ls.getD j zl)=0)(hn:aX (aY Ls) (Ls.getD k zl)≠0)(hb:bt Ls i c):i=k/\c=aX (aY Ls) (Ls.getD k zl):=by
 obtain ⟨h1,h2,h3,h4⟩:=hb
 rcases Nat.lt_trichotomy i k with hl | rfl | hl
 ·exact absurd (h3.symm.trans (h i hl)) h4
 ·exact ⟨rfl,h3.symm⟩
 ·exact absurd (h2 k hl) hn
theorem dB{Ls:List Ln}{i c:Nat}(h:∀ j,j<Ls.length->aX (aY Ls) (Ls.getD j zl)=0)(hb:bt Ls i c):False:=hb.2.2.2 (hb.2.2.1.symm.trans (h i hb.1))
def WrongTold(w:World)(Ls:List Ln)(e:Ending)(w':World):Prop:=(cf Ls->e=.returned (.tuple #[.int .i64 (-1),.int .i64 0]))/\(∀ i c:Nat,bt Ls i c->e=.returned (.tuple #[.int .i64 i,.int .i64 c]))/\Below w.heap.size w w'
theorem WrongTold.bad{w w':World}{Ls:List Ln}{k c:Nat}(hk:k<Ls.length)(h:∀ j,j<k->aX (aY Ls) (Ls.getD j zl)=0)(hc:aX (aY Ls) (Ls.getD k zl)=c)(hn:c≠0)(hb:Below w.heap.size w w'):WrongTold w Ls (.returned (.tuple #[.int .i64 k,.int .i64 c])) w':=by
 refine ⟨fun hg=>absurd (hc.symm.trans (hg k hk)) hn,fun i c' hf=>?_,hb⟩;obtain ⟨rfl,rfl⟩:=ea hk h (by rw [hc];exact hn) hf;rw [hc]
section
section
variable {w w' : World} {B gg wd : Nat} {v v' : Value} {Xs Xs' : List (Option Nat)} {Rs : List Rw}
end
end
theorem WrongTold.say{w w':World}{Ls:List Ln}{e:Ending}(h:WrongTold w Ls e w'):∃ a c:Int,e=.returned (.tuple #[.int .i64 a,.int .i64 c])/\((cf Ls/\a = -1)\/(0<=a/\¬ cf Ls))/\Below w.heap.size w w':=by
 obtain ⟨h1,h2,h3⟩:=h
 rcases df Ls with hg | ⟨i,c,hf⟩
 ·exact ⟨-1,0,h1 hg,.inl ⟨hg,rfl⟩,h3⟩
 ·exact ⟨i,c,h2 i c hf,.inr ⟨by omega,fun hg=>dB hg hf⟩,h3⟩
abbrev Fnd:=List Int × Nat
def aI(L:List Cl)(i:Nat):Nat:=if aq (L.getD i zc)=false then 5 else if bA L i=false then 2 else 0
def aQ(L:List Cl)(i:Nat):List Fnd:=if aI L i=0 then [] else [([(i:Int)],aI L i)]
def al(L:List Cl)(k:Nat):List Fnd:=(List.range k).flatMap (aQ L)
theorem aR(L:List Cl)(k:Nat):al L (k+1)=al L k++aQ L k:=by
 unfold al;rw [List.range_succ,List.flatMap_append]
 simp
def dI(w:Int)(L:List Cl):List Fnd:=if (L.length:Int)=w then [] else [([],4)]
def az(w:Int)(L:List Cl):List Fnd:=dI w L++al L L.length
def bj(i:Nat)(t:List Fnd):List Fnd:=t.map fun x=>((i:Int) :: x.1,x.2)
theorem cg(i:Nat):bj i []=[]:=rfl
def am(w:Int)(Ls:List Ln)(k:Nat):List Fnd:=(List.range k).flatMap fun i=>bj i (az w (Ls.getD i zl).1)
theorem aJ(w:Int)(Ls:List Ln)(k:Nat):am w Ls (k+1)=am w Ls k++bj k (az w (Ls.getD k zl).1):=by
 unfold am;rw [List.range_succ,List.flatMap_append]
 simp
def aj(n:Int):Bool:=decide (1<=n) && decide (n<=1024)
structure Vw where
 w:Int
 h:Int
 L:List Ln
 r:Int
 c:Int
 pd:Bool
 au:Bool
def ch(v:Vw):List Fnd:=if aj v.w=true/\aj v.h=true/\v.h=(v.L.length:Int) then [] else [([],3)]
def bh(v:Vw):List Fnd:=if ai v.r v.c v.pd v.w v.h=true then [] else [([],8)]
def aH(v:Vw):List Fnd:=ch v++am v.w v.L v.L.length++bh v
def a5(go:Bool)(t:List Fnd):List Fnd:=if go=true then t else t.take 1
theorem c8(go:Bool):a5 go []=[]:=by cases go <;> rfl
theorem dX(t:List Fnd):a5 true t=t:=rfl
theorem em{go:Bool}{x:Fnd}:a5 go [x]=[x]:=by cases go <;> rfl
def aN(v:Vw):Bool:=(aH v).isEmpty
def cE(sa:Nat->Addr):Nat->Value
 | 0=>.nilIface
 | c+1=>.iface 163 (.pointer (some (sa c)))
theorem dY(L:List Cl)(i:Nat):(aq (L.getD i zc)=false/\aI L i=5)\/(aq (L.getD i zc)=true/\(L.getD i zc).1=2/\aw L ((i:Int)+1)≠3/\aI L i=2)\/(aq (L.getD i zc)=true/\(L.getD i zc).1=2/\aw L ((i:Int)+1)=3/\aI L i=0) \/
  (aq (L.getD i zc)=true/\(L.getD i zc).1=3/\aw L ((i:Int) - 1)≠2/\aI L i=2)\/(aq (L.getD i zc)=true/\(L.getD i zc).1=3/\aw L ((i:Int) - 1)=2/\aI L i=0)\/(aq (L.getD i zc)=true/\(L.getD i zc).1≠2/\(L.getD i zc).1≠3/\aI L i=0):=by
 unfold aI bA;obtain ⟨x,hx⟩:=ab (L.getD i zc);rw [<-hx];obtain ⟨K,hK⟩:=ab (x.1);obtain ⟨A,hA⟩:=ab (aw L ((i:Int)+1));obtain ⟨B,hB⟩:=ab (aw L ((i:Int) - 1));rw [<-hK,<-hA,<-hB];clear hx hK hA hB
 cases hr:aq x with
 |false=>exact .inl ⟨rfl,by simp⟩
 |true =>
  right
  by_cases h2:K=2
  ·subst h2
   by_cases h3:A=3
   ·exact .inr (.inl ⟨rfl,rfl,h3,by simp [h3]⟩)
   ·exact .inl ⟨rfl,rfl,h3,by simp [h3]⟩
  ·by_cases h3:K=3
   ·subst h3
    by_cases h4:B=2
    ·exact .inr (.inr (.inr (.inl ⟨rfl,rfl,h4,by simp [h4]⟩)))
    ·exact .inr (.inr (.inl ⟨rfl,rfl,h4,by simp [h4]⟩))
   ·exact .inr (.inr (.inr (.inr ⟨rfl,h2,h3,by simp [h2,h3]⟩)))
theorem dH{P:Program}{α β γ δ κ:Type}{E:Elem α}{F:Elem β}{G:Elem γ}{D:Elem δ}{K:Elem κ}{ok0:α->Prop}{ok1:β->Prop}{ok2:γ->Prop}{ok3:δ->Prop}{ok4:κ->Prop}{t:TypeId}{f0 f1 f2 f3 f4:Field}
  (hu:P.underlying t=some (.struct #[f0,f1,f2,f3,f4])) (hc:P.cellsOf t=E.size+(F.size+(G.size+(D.size+K.size)))) (h0:f0.offset=0) (h1:f1.offset=E.size) (h2:f2.offset=E.size+F.size) (h3:f3.offset=E.size+F.size+G.size) (h4:f4.offset=E.size+F.size+G.size+D.size)
  (he:aM P E ok0 f0.type) (hf:aM P F ok1 f1.type) (hg:aM P G ok2 f2.type) (hd:aM P D ok3 f3.type) (hk:aM P K ok4 f4.type) :
  aM P (prE E (prE F (prE G (prE D K)))) (fun x=>ok0 x.1/\ok1 x.2.1/\ok2 x.2.2.1/\ok3 x.2.2.2.1/\ok4 x.2.2.2.2) t:=by
 refine ⟨hc,fun {H} enc W base fuel cs x h=>?_⟩;obtain ⟨xs,n,_,rfl,hl,hlen,ij⟩:=DataW.trod_struct hu h
 match xs,hlen with
 |[y0,y1,y2,y3,y4],_ =>
  have t0:DataW.trod enc P W base (fun _=>true) true n f0.type ((cs.drop f0.offset).take (P.cellsOf f0.type))=some y0:=by simpa using ij 0 f0 rfl
  have t1:DataW.trod enc P W base (fun _=>true) true n f1.type ((cs.drop f1.offset).take (P.cellsOf f1.type))=some y1:=by simpa using ij 1 f1 rfl
  have t2:DataW.trod enc P W base (fun _=>true) true n f2.type ((cs.drop f2.offset).take (P.cellsOf f2.type))=some y2:=by simpa using ij 2 f2 rfl
  have t3:DataW.trod enc P W base (fun _=>true) true n f3.type ((cs.drop f3.offset).take (P.cellsOf f3.type))=some y3:=by simpa using ij 3 f3 rfl
  have t4:DataW.trod enc P W base (fun _=>true) true n f4.type ((cs.drop f4.offset).take (P.cellsOf f4.type))=some y4:=by simpa using ij 4 f4 rfl
  rw [he.1,h0] at t0;rw [hf.1,h1] at t1;rw [hg.1,h2] at t2;rw [hd.1,h3] at t3;rw [hk.1,h4] at t4;obtain ⟨x0,r0,k0⟩:=he.2 enc W base _ _ _ t0;obtain ⟨x1,r1,k1⟩:=hf.2 enc W base _ _ _ t1;obtain ⟨x2,r2,k2⟩:=hg.2 enc W base _ _ _ t2;obtain ⟨x3,r3,k3⟩:=hd.2 enc W base _ _ _ t3;obtain ⟨x4,r4,k4⟩:=hk.2 enc W base _ _ _ t4;refine ⟨(x0,x1,x2,x3,x4),⟨_,_,?_,r0,_,_,rfl,r1,_,_,rfl,r2,_,_,rfl,r3,r4⟩,k0,k1,k2,k3,k4⟩;rw [hc] at hl;rw [List.take_of_length_le (l:=List.drop (E.size+F.size+G.size+D.size) cs) (by simp;omega),a4,a4,a4,List.drop_zero,List.take_append_drop]
def e6:Elem (Int × Int × List Ln × (Int × Int × Bool) × Bool):=prE (cd .i64) (prE (cd .i64) (prE (slE lineE) (prE (prE (cd .i64) (prE (cd .i64) dJ)) dJ)))
theorem eG{H:Type}{enc:TypeId × Value->H}{W:World}{base:Nat}{x:Value}{d:DataW H}{p:List MemPlace}(hv:Value.okWide Tryd.prog W .any base 26 x)(h:DataW.Trod enc Tryd.prog W 0 (fun _=>true) true 26 x d p) :
  ∃ (v:Vw) (lv:Value),x=.agg #[.int .i64 v.w,.int .i64 v.h,lv,.int .i64 v.r,.int .i64 v.c,.bool v.pd,.bool v.au]/\HeldE lineE (fun _=>True) W lv v.L/\(Lit.int .i64 v.w).wf=true/\(Lit.int .i64 v.h).wf=true:=by
 obtain ⟨cs,⟨a,b,L,⟨r,c,pd⟩,au⟩,rfl,⟨C1,C2,hC,rfl,C3,C4,rfl,rfl,C5,C6,rfl,⟨lv,rfl,hl⟩,C7,C8,rfl,⟨D1,D2,rfl,rfl,D3,D4,rfl,rfl,rfl⟩,rfl⟩,hk⟩:=cS (E:=e6) Tryd.underlying26 (dH Tryd.underlying26 (by kernel_rfl) rfl rfl rfl rfl rfl (aU (k:=.i64) Tryd.underlying3 (by kernel_rfl)) (aU (k:=.i64) Tryd.underlying3 (by kernel_rfl)) (bp Tryd.underlying22 (by kernel_rfl) (by decide) (cj Tryd.underlying30 (by kernel_rfl) rfl rfl (bp Tryd.underlying28 (by kernel_rfl) (by decide) (cj Tryd.underlying74 (by kernel_rfl) rfl rfl (aU Tryd.underlying3 (by kernel_rfl)) (bp Tryd.underlying57 (by kernel_rfl) (by decide) (aU Tryd.underlying21 (by kernel_rfl))))) (bF Tryd.underlying4 (by kernel_rfl)))) (cR Tryd.underlying24 (by kernel_rfl) rfl rfl rfl (aU (k:=.i64) Tryd.underlying3 (by kernel_rfl)) (aU (k:=.i64) Tryd.underlying3 (by kernel_rfl)) (bF Tryd.underlying4 (by kernel_rfl))) (bF Tryd.underlying4 (by kernel_rfl))) hv h;refine ⟨⟨a,b,L,r,c,pd,au⟩,lv,?_,hl.zone (fun _ _ _=>trivial),hk.1,hk.2.1⟩
 congr 1
 apply Array.toList_inj.1
 rw [hC];rfl
end Go.Proofs.YthdphijabffpiaaDoor
