import Derived.Test.YtechjomepdahiaaDoorZ0
import Derived.Test.YtechjomepdahiaaDoorMg4
import Derived.Test.YtechjomepdahiaaDoorGrdD
import Derived.Test.YtechjomepdahiaaDoorMg2
import Derived.Test.YtechjomepdahiaaDoorCursorD
set_option maxRecDepth 100000
set_option linter.unusedVariables false
set_option linter.unusedSimpArgs false
set_option maxHeartbeats 400000
namespace Go.Proofs.YtechjomepdahiaaDoor
open Go.RowKit Go.ChangeShapes Go.WideShapes
def GridM(M:Nat)(w:World)(B gg gr wd:Nat)(Rs:List Rw):Prop :=
 M<=w.heap.size/\∃ (Z:ak) (cap:Nat),(∀ b,Z b->B<=b/\b<M)/\gg<M/\gr<M/\(∀ i,i<Rs.length->(Rs.getD i r0).g<M/\(Rs.getD i r0).gc<M)/\Has w gg [.int .i64 wd,.slice (some ⟨gr,0,none⟩) Rs.length cap] 111/\B<=gg/\OwnE eb (fun _=>True) w B 112 (.slice (some ⟨gr,0,none⟩) Rs.length cap) (ptrs Rs)/\¬ Z gg/\¬ Z gr/\RowsAt Z w B Rs/\(∀ i,i<Rs.length->(Rs.getD i r0).L.length=wd)/\0<Rs.length/\Rs.length<=1024
theorem GridM.at{M:Nat}{w:World}{B gg gr wd:Nat}{Rs:List Rw}(h:GridM M w B gg gr wd Rs):e9 w B gg gr wd Rs:=by
 obtain ⟨hM,Z,cap,h1,k1,k2,k3,h2,h3,h4,h5,h6,h7,h8,h9,h10⟩:=h;exact ⟨Z,cap,fun b hz=>⟨(h1 b hz).1,Nat.lt_of_lt_of_le (h1 b hz).2 hM⟩,h2,h3,h4,h5,h6,h7,h8,h9,h10,fun _ _=>trivial⟩
theorem GridM.keep{M:Nat}{S:ak}{w w':World}{B gg gr wd:Nat}{Rs:List Rw}(h:GridM M w B gg gr wd Rs)(hu:Upd S w w')(hs:∀ b,B<=b->b<M->¬ S b):GridM M w' B gg gr wd Rs:=by
 obtain ⟨hM,Z,cap,h1,k1,k2,k3,h2,h3,h4,h5,h6,h7,h8⟩:=h;have hk:=hu.keep;refine ⟨Nat.le_trans hM hu.size,Z,cap,h1,k1,k2,k3,hk.has h2 (hs _ h3 k1),h3,?_,h5,h6,h7.upd hu (fun b hz=>hs b (h1 b hz).1 (h1 b hz).2) (fun i hi=>⟨hs _ (h7.lt i hi).2.2.2 (k3 i hi).1,hs _ (h7.lt i hi).2.2.1 (k3 i hi).2⟩),h8⟩;exact ec (hk.own h4.ptrs fun b hb=>by
  have:gr=b:=by simpa [Value.ownBlock] using hb
  subst this;exact hs _ (h4.lt gr rfl).1 k2)
theorem GridM.below{M:Nat}{w w':World}{B gg gr wd:Nat}{Rs:List Rw}(h:GridM M w B gg gr wd Rs)(hb:Below w.heap.size w w'):GridM M w' B gg gr wd Rs:=h.keep (S:=fun _=>False) (.ofBelow hb) fun _ _ _ e=>e
theorem WrongTold.say{w w':World}{Ls:List Ln}{e:Ending}(h:WrongTold w Ls e w'):∃ a c:Int,e=.returned (.tuple #[.int .i64 a,.int .i64 c])/\((dt Ls/\a = -1)\/(0<=a/\¬ dt Ls))/\Below w.heap.size w w':=by
 obtain ⟨h1,h2,h3⟩:=h
 rcases fO Ls with hg | ⟨i,c,hf⟩
 ·exact ⟨-1,0,h1 hg,.inl ⟨hg,rfl⟩,h3⟩
 ·exact ⟨i,c,h2 i c hf,.inr ⟨by omega,fun hg=>gn hg hf⟩,h3⟩
abbrev Fnd:=List Int × Nat
def aS(L:List Cl)(i:Nat):Nat:=if al (L.getD i zc)=false then 5 else if cL L i=false then 2 else 0
def bw(L:List Cl)(i:Nat):List Fnd:=if aS L i=0 then [] else [([(i:Int)],aS L i)]
def aq(L:List Cl)(k:Nat):List Fnd:=(List.range k).flatMap (bw L)
theorem bz(L:List Cl)(k:Nat):aq L (k+1)=aq L k++bw L k:=by
 unfold aq;rw [List.range_succ,List.flatMap_append]
 simp
def gH(w:Int)(L:List Cl):List Fnd:=if (L.length:Int)=w then [] else [([],4)]
def aH(w:Int)(L:List Cl):List Fnd:=gH w L++aq L L.length
def cJ(i:Nat)(t:List Fnd):List Fnd:=t.map fun x=>((i:Int) :: x.1,x.2)
theorem dY(i:Nat):cJ i []=[]:=rfl
def ar(w:Int)(Ls:List Ln)(k:Nat):List Fnd:=(List.range k).flatMap fun i=>cJ i (aH w (Ls.getD i zl).1)
theorem a8(w:Int)(Ls:List Ln)(k:Nat):ar w Ls (k+1)=ar w Ls k++cJ k (aH w (Ls.getD k zl).1):=by
 unfold ar;rw [List.range_succ,List.flatMap_append]
 simp
def ay(n:Int):Bool:=decide (1<=n) && decide (n<=1024)
structure Vw where
 w:Int
 h:Int
 L:List Ln
 r:Int
 c:Int
 pd:Bool
 au:Bool
def dZ(v:Vw):List Fnd:=if ay v.w=true/\ay v.h=true/\v.h=(v.L.length:Int) then [] else [([],3)]
def cH(v:Vw):List Fnd:=if am v.r v.c v.pd v.w v.h=true then [] else [([],8)]
def bc(v:Vw):List Fnd:=dZ v++ar v.w v.L v.L.length++cH v
def b9(go:Bool)(t:List Fnd):List Fnd:=if go=true then t else t.take 1
theorem fA(go:Bool):b9 go []=[]:=by cases go <;> rfl
theorem iL{go:Bool}{x:Fnd}:b9 go [x]=[x]:=by cases go <;> rfl
def aI(v:Vw):Bool:=(bc v).isEmpty
def eK(sa:Nat->Addr):Nat->Value
 | 0=>.nilIface
 | c+1=>.iface 186 (.pointer (some (sa c)))
theorem gX(L:List Cl)(i:Nat):(al (L.getD i zc)=false/\aS L i=5)\/(al (L.getD i zc)=true/\(L.getD i zc).1=2/\aB L ((i:Int)+1)≠3/\aS L i=2)\/(al (L.getD i zc)=true/\(L.getD i zc).1=2/\aB L ((i:Int)+1)=3/\aS L i=0) \/
  (al (L.getD i zc)=true/\(L.getD i zc).1=3/\aB L ((i:Int) - 1)≠2/\aS L i=2)\/(al (L.getD i zc)=true/\(L.getD i zc).1=3/\aB L ((i:Int) - 1)=2/\aS L i=0)\/(al (L.getD i zc)=true/\(L.getD i zc).1≠2/\(L.getD i zc).1≠3/\aS L i=0):=by
 unfold aS cL;obtain ⟨x,hx⟩:=ab (L.getD i zc);rw [<-hx];obtain ⟨K,hK⟩:=ab (x.1);obtain ⟨A,hA⟩:=ab (aB L ((i:Int)+1));obtain ⟨B,hB⟩:=ab (aB L ((i:Int) - 1));rw [<-hK,<-hA,<-hB];clear hx hK hA hB
 cases hr:al x with
 |false=>exact .inl ⟨rfl,by simp⟩
 |true =>
  right
  by_cases h2:K=2
  ·subst h2
   by_cases h3:A=3
   ·exact .inr (.inl ⟨rfl,rfl,h3,by simp [h3]⟩)
   ·exact .inl ⟨rfl,rfl,h3,by simp [h3]⟩
  ·by_cases h3:K=3
   ·subst h3
    by_cases h4:B=2
    ·exact .inr (.inr (.inr (.inl ⟨rfl,rfl,h4,by simp [h4]⟩)))
    ·exact .inr (.inr (.inl ⟨rfl,rfl,h4,by simp [h4]⟩))
   ·exact .inr (.inr (.inr (.inr ⟨rfl,h2,h3,by simp [h2,h3]⟩)))
end Go.Proofs.YtechjomepdahiaaDoor
