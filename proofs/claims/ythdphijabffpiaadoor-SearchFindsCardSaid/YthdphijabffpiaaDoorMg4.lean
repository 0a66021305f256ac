import Derived.Test.YthdphijabffpiaaDoorZ0
import Derived.Test.YthdphijabffpiaaDoorGrdR
import Derived.Test.YthdphijabffpiaaDoorCellS
import Derived.Test.YthdphijabffpiaaDoorMg3
import Derived.Test.YthdphijabffpiaaDoorMg2
import Derived.Test.YthdphijabffpiaaDoorMg1
import Derived.Test.YthdphijabffpiaaDoorCursorD
set_option maxRecDepth 100000
set_option linter.unusedVariables false
set_option linter.unusedSimpArgs false
set_option maxHeartbeats 400000
namespace Go.Proofs.YthdphijabffpiaaDoor
open Go.RowKit Go.ChangeShapes Go.WideShapes
def bB(n0:Nat)(l:Ln):Nat:=if l.1.length=0\/1024<l.1.length then 3 else if bX l.1=false then 5 else if l.1.length≠n0 then 3 else 0
def bC(Ls:List Ln):Nat:=(Ls.getD 0 zl).1.length
def c5(Ls:List Ln):Prop:=∀ k,k<Ls.length->bB (bC Ls) (Ls.getD k zl)=0
def cf(Ls:List Ln)(i c:Nat):Prop:=i<Ls.length/\(∀ j,j<i->bB (bC Ls) (Ls.getD j zl)=0)/\bB (bC Ls) (Ls.getD i zl)=c/\c≠0
theorem eH(Ls:List Ln):c5 Ls\/∃ i c,cf Ls i c:=by
 have h:∀ n,n<=Ls.length->(∀ j,j<n->bB (bC Ls) (Ls.getD j zl)=0)\/∃ i c,cf Ls i c:=by
  intro n
  induction n with
  |zero=>intro _;exact .inl fun j hj=>absurd hj (Nat.not_lt_zero _)
  |succ n ih =>
   intro hn
   rcases ih (by omega) with h | h
   ·by_cases e:bB (bC Ls) (Ls.getD n zl)=0
    ·refine .inl fun j hj=>?_
     by_cases ej:j=n
     ·subst ej;exact e
     ·exact h j (by omega)
    ·exact .inr ⟨n,_,by omega,h,rfl,e⟩
   ·exact .inr h
 exact h Ls.length (Nat.le_refl _)
theorem fI{Ls:List Ln}{k i c:Nat}(hk:k<Ls.length)(h:∀ j,j<k->bB (bC Ls) (Ls.getD j zl)=0)(hn:bB (bC Ls) (Ls.getD k zl)≠0)(hb:cf Ls i c):i=k/\c=bB (bC Ls) (Ls.getD k zl):=by
 obtain ⟨h1,h2,h3,h4⟩:=hb
 rcases Nat.lt_trichotomy i k with hl | rfl | hl
 ·exact absurd (h3.symm.trans (h i hl)) h4
 ·exact ⟨rfl,h3.symm⟩
 ·exact absurd (h2 k hl) hn
theorem e6{Ls:List Ln}{i c:Nat}(h:∀ j,j<Ls.length->bB (bC Ls) (Ls.getD j zl)=0)(hb:cf Ls i c):False:=hb.2.2.2 (hb.2.2.1.symm.trans (h i hb.1))
def WrongTold(w:World)(Ls:List Ln)(e:Ending)(w':World):Prop:=(c5 Ls->e=.returned (.tuple #[.int .i64 (-1),.int .i64 0]))/\(∀ i c:Nat,cf Ls i c->e=.returned (.tuple #[.int .i64 i,.int .i64 c]))/\Below w.heap.size w w'
theorem WrongTold.bad{w w':World}{Ls:List Ln}{k c:Nat}(hk:k<Ls.length)(h:∀ j,j<k->bB (bC Ls) (Ls.getD j zl)=0)(hc:bB (bC Ls) (Ls.getD k zl)=c)(hn:c≠0)(hb:Below w.heap.size w w'):WrongTold w Ls (.returned (.tuple #[.int .i64 k,.int .i64 c])) w':=by
 refine ⟨fun hg=>absurd (hc.symm.trans (hg k hk)) hn,fun i c' hf=>?_,hb⟩;obtain ⟨rfl,rfl⟩:=fI hk h (by rw [hc];exact hn) hf;rw [hc]
section
section
variable {w w' : World} {B gg wd : Nat} {v v' : Value} {Xs Xs' : List (Option Nat)} {Rs : List Rw}
end
end
theorem WrongTold.say{w w':World}{Ls:List Ln}{e:Ending}(h:WrongTold w Ls e w'):∃ a c:Int,e=.returned (.tuple #[.int .i64 a,.int .i64 c])/\((c5 Ls/\a = -1)\/(0<=a/\¬ c5 Ls))/\Below w.heap.size w w':=by
 obtain ⟨h1,h2,h3⟩:=h
 rcases eH Ls with hg | ⟨i,c,hf⟩
 ·exact ⟨-1,0,h1 hg,.inl ⟨hg,rfl⟩,h3⟩
 ·exact ⟨i,c,h2 i c hf,.inr ⟨by omega,fun hg=>e6 hg hf⟩,h3⟩
abbrev Fnd:=List Int × Nat
def aY(L:List Cl)(i:Nat):Nat:=if aw (L.getD i zc)=false then 5 else if bH L i=false then 2 else 0
def br(L:List Cl)(i:Nat):List Fnd:=if aY L i=0 then [] else [([(i:Int)],aY L i)]
def al(L:List Cl)(k:Nat):List Fnd:=(List.range k).flatMap (br L)
theorem bs(L:List Cl)(k:Nat):al L (k+1)=al L k++br L k:=by
 unfold al;rw [List.range_succ,List.flatMap_append]
 simp
def fm(w:Int)(L:List Cl):List Fnd:=if (L.length:Int)=w then [] else [([],4)]
def aG(w:Int)(L:List Cl):List Fnd:=fm w L++al L L.length
def bW(i:Nat)(t:List Fnd):List Fnd:=t.map fun x=>((i:Int) :: x.1,x.2)
theorem dk(i:Nat):bW i []=[]:=rfl
def am(w:Int)(Ls:List Ln)(k:Nat):List Fnd:=(List.range k).flatMap fun i=>bW i (aG w (Ls.getD i zl).1)
theorem bf(w:Int)(Ls:List Ln)(k:Nat):am w Ls (k+1)=am w Ls k++bW k (aG w (Ls.getD k zl).1):=by
 unfold am;rw [List.range_succ,List.flatMap_append]
 simp
def ax(n:Int):Bool:=decide (1<=n) && decide (n<=1024)
structure Vw where
 w:Int
 h:Int
 L:List Ln
 r:Int
 c:Int
 pd:Bool
 au:Bool
def dl(v:Vw):List Fnd:=if ax v.w=true/\ax v.h=true/\v.h=(v.L.length:Int) then [] else [([],3)]
def bU(v:Vw):List Fnd:=if ai v.r v.c v.pd v.w v.h=true then [] else [([],8)]
def bg(v:Vw):List Fnd:=dl v++am v.w v.L v.L.length++bU v
def bI(go:Bool)(t:List Fnd):List Fnd:=if go=true then t else t.take 1
theorem eA(go:Bool):bI go []=[]:=by cases go <;> rfl
theorem f7{go:Bool}{x:Fnd}:bI go [x]=[x]:=by cases go <;> rfl
def aM(v:Vw):Bool:=(bg v).isEmpty
def dK(sa:Nat->Addr):Nat->Value
 | 0=>.nilIface
 | c+1=>.iface 163 (.pointer (some (sa c)))
theorem fD(L:List Cl)(i:Nat):(aw (L.getD i zc)=false/\aY L i=5)\/(aw (L.getD i zc)=true/\(L.getD i zc).1=2/\aA L ((i:Int)+1)≠3/\aY L i=2)\/(aw (L.getD i zc)=true/\(L.getD i zc).1=2/\aA L ((i:Int)+1)=3/\aY L i=0) \/
  (aw (L.getD i zc)=true/\(L.getD i zc).1=3/\aA L ((i:Int) - 1)≠2/\aY L i=2)\/(aw (L.getD i zc)=true/\(L.getD i zc).1=3/\aA L ((i:Int) - 1)=2/\aY L i=0)\/(aw (L.getD i zc)=true/\(L.getD i zc).1≠2/\(L.getD i zc).1≠3/\aY L i=0):=by
 unfold aY bH;obtain ⟨x,hx⟩:=ab (L.getD i zc);rw [<-hx];obtain ⟨K,hK⟩:=ab (x.1);obtain ⟨A,hA⟩:=ab (aA L ((i:Int)+1));obtain ⟨B,hB⟩:=ab (aA L ((i:Int) - 1));rw [<-hK,<-hA,<-hB];clear hx hK hA hB
 cases hr:aw x with
 |false=>exact .inl ⟨rfl,by simp⟩
 |true =>
  right
  by_cases h2:K=2
  ·subst h2
   by_cases h3:A=3
   ·exact .inr (.inl ⟨rfl,rfl,h3,by simp [h3]⟩)
   ·exact .inl ⟨rfl,rfl,h3,by simp [h3]⟩
  ·by_cases h3:K=3
   ·subst h3
    by_cases h4:B=2
    ·exact .inr (.inr (.inr (.inl ⟨rfl,rfl,h4,by simp [h4]⟩)))
    ·exact .inr (.inr (.inl ⟨rfl,rfl,h4,by simp [h4]⟩))
   ·exact .inr (.inr (.inr (.inr ⟨rfl,h2,h3,by simp [h2,h3]⟩)))
def gM:Elem (Int × Int × List Ln × (Int × Int × Bool) × Bool):=prE (aF .i64) (prE (aF .i64) (prE (slE lineE) (prE (prE (aF .i64) (prE (aF .i64) fl)) fl)))
theorem cS{P:Program}{α:Type}{E:Elem α}{ok:α->Prop}{t:TypeId}(h:bG P E ok t):a9 P E ok t:=⟨h.1,fun enc W base fuel cs x hx _=>h.2 enc W base fuel cs x hx⟩
theorem eL{P:Program}{α β:Type}{E:Elem α}{F:Elem β}{ok:α->Prop}{ok':β->Prop}{t:TypeId}{f0 f1:Field}(hu:P.underlying t=some (.struct #[f0,f1]))(hc:P.cellsOf t=E.size+F.size)(h0:f0.offset=0)(h1:f1.offset=E.size)(he:a9 P E ok f0.type)(hf:a9 P F ok' f1.type):a9 P (prE E F) (fun x=>ok x.1/\ok' x.2) t:=by
 refine ⟨hc,fun {H} enc W base fuel cs x h hz=>?_⟩;obtain ⟨y0,y1,n,e,hl,t0,t1⟩:=trod_struct2 hu h;rw [he.1,h0] at t0;rw [hf.1,h1] at t1;have hz2:∀ z ∈ y0.1.weights P f0.type++(y1.1.weights P f1.type++[]),z<=reachBytes:=by
  rw [e] at hz;simp only [DataW.weights,hu] at hz
  simpa [DataW.weightsEach] using hz
 obtain ⟨x0,r0,k0⟩:=he.2 enc W base _ _ _ t0 (fun z h=>hz2 z (List.mem_append.2 (.inl h)));obtain ⟨x1,r1,k1⟩:=hf.2 enc W base _ _ _ t1 (fun z h=>hz2 z (List.mem_append.2 (.inr (List.mem_append.2 (.inl h)))));refine ⟨(x0,x1),⟨_,_,?_,r0,r1⟩,k0,k1⟩;rw [hc] at hl;simp only [List.drop_zero];rw [List.take_of_length_le (l:=List.drop E.size cs) (by simp;omega),List.take_append_drop]
theorem eM{P:Program}{α β γ δ κ:Type}{E:Elem α}{F:Elem β}{G:Elem γ}{D:Elem δ}{K:Elem κ}{ok0:α->Prop}{ok1:β->Prop}{ok2:γ->Prop}{ok3:δ->Prop}{ok4:κ->Prop}{t:TypeId}{f0 f1 f2 f3 f4:Field}
  (hu:P.underlying t=some (.struct #[f0,f1,f2,f3,f4])) (hc:P.cellsOf t=E.size+(F.size+(G.size+(D.size+K.size)))) (h0:f0.offset=0) (h1:f1.offset=E.size) (h2:f2.offset=E.size+F.size) (h3:f3.offset=E.size+F.size+G.size) (h4:f4.offset=E.size+F.size+G.size+D.size)
  (he:a9 P E ok0 f0.type) (hf:a9 P F ok1 f1.type) (hg:a9 P G ok2 f2.type) (hd:a9 P D ok3 f3.type) (hk:a9 P K ok4 f4.type) :
  a9 P (prE E (prE F (prE G (prE D K)))) (fun x=>ok0 x.1/\ok1 x.2.1/\ok2 x.2.2.1/\ok3 x.2.2.2.1/\ok4 x.2.2.2.2) t:=by
 refine ⟨hc,fun {H} enc W base fuel cs x h hz=>?_⟩;obtain ⟨xs,n,_,rfl,hl,hlen,mf⟩:=DataW.trod_struct hu h
 match xs,hlen with
 |[y0,y1,y2,y3,y4],_ =>
  have hz2:∀ z ∈ y0.1.weights P f0.type++(y1.1.weights P f1.type++(y2.1.weights P f2.type++(y3.1.weights P f3.type++(y4.1.weights P f4.type++[])))),z<=reachBytes:=by
   simp only [DataW.weights,hu] at hz
   simpa [DataW.weightsEach] using hz
  have t0:DataW.trod enc P W base (fun _=>true) true n f0.type ((cs.drop f0.offset).take (P.cellsOf f0.type))=some y0:=by simpa using mf 0 f0 rfl
  have t1:DataW.trod enc P W base (fun _=>true) true n f1.type ((cs.drop f1.offset).take (P.cellsOf f1.type))=some y1:=by simpa using mf 1 f1 rfl
  have t2:DataW.trod enc P W base (fun _=>true) true n f2.type ((cs.drop f2.offset).take (P.cellsOf f2.type))=some y2:=by simpa using mf 2 f2 rfl
  have t3:DataW.trod enc P W base (fun _=>true) true n f3.type ((cs.drop f3.offset).take (P.cellsOf f3.type))=some y3:=by simpa using mf 3 f3 rfl
  have t4:DataW.trod enc P W base (fun _=>true) true n f4.type ((cs.drop f4.offset).take (P.cellsOf f4.type))=some y4:=by simpa using mf 4 f4 rfl
  rw [he.1,h0] at t0;rw [hf.1,h1] at t1;rw [hg.1,h2] at t2;rw [hd.1,h3] at t3;rw [hk.1,h4] at t4;obtain ⟨x0,r0,k0⟩:=he.2 enc W base _ _ _ t0 (fun z h=>hz2 z (List.mem_append.2 (.inl h)));obtain ⟨x1,r1,k1⟩:=hf.2 enc W base _ _ _ t1 (fun z h=>hz2 z (List.mem_append.2 (.inr (List.mem_append.2 (.inl h)))));obtain ⟨x2,r2,k2⟩:=hg.2 enc W base _ _ _ t2 (fun z h=>hz2 z (List.mem_append.2 (.inr (List.mem_append.2 (.inr (List.mem_append.2 (.inl h)))))));obtain ⟨x3,r3,k3⟩:=hd.2 enc W base _ _ _ t3 (fun z h=>hz2 z (List.mem_append.2 (.inr (List.mem_append.2 (.inr (List.mem_append.2 (.inr (List.mem_append.2 (.inl h)))))))));obtain ⟨x4,r4,k4⟩:=hk.2 enc W base _ _ _ t4 (fun z h=>hz2 z (List.mem_append.2 (.inr (List.mem_append.2 (.inr (List.mem_append.2 (.inr (List.mem_append.2 (.inr (List.mem_append.2 (.inl h)))))))))));refine ⟨(x0,x1,x2,x3,x4),⟨_,_,?_,r0,_,_,rfl,r1,_,_,rfl,r2,_,_,rfl,r3,r4⟩,k0,k1,k2,k3,k4⟩;rw [hc] at hl;rw [List.take_of_length_le (l:=List.drop (E.size+F.size+G.size+D.size) cs) (by simp;omega),bD,bD,bD,List.drop_zero,List.take_append_drop]
theorem eN:a9 Tryd.prog cellE (fun _=>True) 74:=by
 have h:=dh (P:=Tryd.prog) Tryd.underlying74 (by kernel_rfl) rfl rfl (bl (k:=.i64) Tryd.underlying3 (by kernel_rfl)) (cU Tryd.underlying57 (by kernel_rfl) (by decide) (bl (k:=.i32) Tryd.underlying21 (by kernel_rfl)));exact ⟨h.1,fun enc W base fuel cs x hx _=>by
  obtain ⟨y,hr,_⟩:=h.2 enc W base fuel cs x hx;exact ⟨y,hr,trivial⟩⟩
theorem fQ{H:Type}{enc:TypeId × Value->H}{W:World}{base:Nat}{x:Value}{d:DataW H}{p:List MemPlace}(hv:Value.okWide Tryd.prog W .any base 26 x)(h:DataW.Trod enc Tryd.prog W 0 (fun _=>true) true 26 x d p)(hz:∀ z ∈ d.weights Tryd.prog 26,z<=reachBytes) :
  ∃ (v:Vw) (lv:Value),x=.agg #[.int .i64 v.w,.int .i64 v.h,lv,.int .i64 v.r,.int .i64 v.c,.bool v.pd,.bool v.au]/\HeldE lineE (fun _=>True) W lv v.L/\(Lit.int .i64 v.w).wf=true/\(Lit.int .i64 v.h).wf=true/\∀ l ∈ v.L,l.1.length * 32<=reachBytes:=by
 have hop:a9 Tryd.prog gM _ 26:=eM Tryd.underlying26 (by kernel_rfl) rfl rfl rfl rfl rfl (du (k:=.i64) Tryd.underlying3 (by kernel_rfl)) (du (k:=.i64) Tryd.underlying3 (by kernel_rfl)) (cD Tryd.underlying22 (by kernel_rfl) (by decide) (eL Tryd.underlying30 (by kernel_rfl) rfl rfl (cD Tryd.underlying28 (by kernel_rfl) (by decide) eN) (cS (cp Tryd.underlying4 (by kernel_rfl))))) (cS (dW Tryd.underlying24 (by kernel_rfl) rfl rfl rfl (bl (k:=.i64) Tryd.underlying3 (by kernel_rfl)) (bl (k:=.i64) Tryd.underlying3 (by kernel_rfl)) (cp Tryd.underlying4 (by kernel_rfl)))) (cS (cp Tryd.underlying4 (by kernel_rfl)));obtain ⟨cs,rfl,_⟩:=okWide_struct Tryd.underlying26 hv;obtain ⟨fuel,hf⟩:=h;obtain ⟨⟨a,b,L,⟨r,c,pd⟩,au⟩,⟨C1,C2,hC,rfl,C3,C4,rfl,rfl,C5,C6,rfl,⟨lv,rfl,hl⟩,C7,C8,rfl,⟨D1,D2,rfl,rfl,D3,D4,rfl,rfl,rfl⟩,rfl⟩,hk⟩:=hop.2 enc W 0 _ _ _ hf hz;have hb:Tryd.prog.bytesOf 74=32:=by kernel_rfl
 refine ⟨⟨a,b,L,r,c,pd,au⟩,lv,?_,hl.zone (fun _ _ _=>trivial),hk.1,hk.2.1,fun l hlm=>?_⟩
 ·congr 1
  apply Array.toList_inj.1
  simp only [Value.cells] at hC;rw [hC];rfl
 ·have h9:=(hk.2.2.1.1 l hlm).1.2;rw [hb] at h9;exact h9
end Go.Proofs.YthdphijabffpiaaDoor
