import Derived.Test.YtoeggiplcaegoaaGreatDoorZ0
import Derived.Test.YtoeggiplcaegoaaGreatDoorMg1
set_option maxRecDepth 100000
set_option linter.unusedVariables false
set_option linter.unusedSimpArgs false
set_option maxHeartbeats 400000
namespace Go.Proofs.YtoeggiplcaegoaaGreatDoor
open Go.RowKit Go.ChangeShapes Go.WideShapes
def DecAt(w:World)(g:Nat)(l b h:Int):Prop:=Has w g [.int .u8 l,.int .i32 b,.int .i64 h] 138
theorem DecAt.zero{w:World}{g:Nat}{l b h:Int}(hd:DecAt w g l b h):DecAt (((w.setCell ⟨g,0,none⟩ (.int .u8 0)).setCell ⟨g,1,none⟩ (.int .i32 0)).setCell ⟨g,2,none⟩ (.int .i64 0)) g 0 0 0 :=
 ((hd.set 0 _).set 1 _).set 2 _
def bO(l h x:Int):Bool:=if 1<h then fC x else decide (lo2 l<=x) && decide (x<=hi2 l)
def be(x:Int):List Int:=if ax x=0 then [65533] else if ax x=1 then [x] else []
def bB(x:Int):Int:=if 2<=ax x then x else 0
def aX(x:Int):Int:=if 2<=ax x then bY x else 0
def bC(x:Int):Int:=if 2<=ax x then 1 else 0
theorem Tryz.info21:(Tryz.prog.info? 21).map (fun i=>(i.zero,i.size,i.bytes))=some (some (.int .i32 0),1,4):=by kernel_rfl
def mxD(L h:Int):Int:=if L=2 then 32 else if L=3 then (if h=1 then 16 else 1024) else (if h=1 then 8 else if h=2 then 512 else 32768)
def wfD(l b h:Int):Prop:=(l=0/\b=0/\h=0)\/(0<=l/\l<=255/\1<=h/\h<ax l/\0<=b/\b<mxD (ax l) h)
theorem y8(L h:Int):mxD L h<=32768:=by unfold mxD;split <;> (try split) <;> (try split) <;> omega
theorem pX(l:Int):0<=ax l/\ax l<=4:=by unfold ax;omega
def dM(l b h x:Int):List Int:=if h=0 then be x else if bO l h x=true then (if h+1<ax l then [] else [b * 64+x % 64]) else 65533 :: be x
def dV(l h x:Int):Int:=if h=0 then bB x else if bO l h x=true then (if h+1<ax l then l else 0) else bB x
def cV(l b h x:Int):Int:=if h=0 then aX x else if bO l h x=true then (if h+1<ax l then b * 64+x % 64 else 0) else aX x
def dW(l h x:Int):Int:=if h=0 then bC x else if bO l h x=true then (if h+1<ax l then h+1 else 0) else bC x
theorem m6(l b h x:Int):(dM l b h x).length<=2:=by
 have:(be x).length<=1:=by unfold be;split <;> (try split) <;> simp
 unfold dM
 split
 ·omega
 ·split
  ·split <;> simp
  ·simp;omega
theorem pY(x:Int)(x0:0<=x)(x1:x<=255):wfD (bB x) (aX x) (bC x):=by
 unfold wfD bB aX bC
 by_cases h:2<=ax x
 ·rw [if_pos h,if_pos h,if_pos h];refine .inr ⟨x0,x1,by omega,by omega,?_⟩
  rcases bp x with ⟨h2,hs⟩ | ⟨h2,h3,hs⟩ | ⟨h2,h3,hs⟩ | ⟨h2,h3,hs⟩ | ⟨h2,h3,hs⟩ | ⟨h2,hs⟩
  all_goals (rw [hs] at h;try omega)
  all_goals (unfold bY mxD;rw [hs];simp;omega)
 ·rw [if_neg h,if_neg h,if_neg h];exact .inl ⟨rfl,rfl,rfl⟩
theorem yo(l b h x:Int)(hw:wfD l b h)(x0:0<=x)(x1:x<=255):wfD (dV l h x) (cV l b h x) (dW l h x):=by
 rcases hw with ⟨rfl,rfl,rfl⟩ | ⟨l0,l1,h0,h1,b0,b1⟩
 ·exact pY x x0 x1
 ·have hne:¬ h=0:=by omega
  unfold dV cV dW;rw [if_neg hne,if_neg hne,if_neg hne]
  by_cases hx:bO l h x=true
  ·rw [if_pos hx,if_pos hx,if_pos hx]
   by_cases hm:h+1<ax l
   ·rw [if_pos hm,if_pos hm,if_pos hm];refine .inr ⟨l0,l1,by omega,hm,by omega,?_⟩;have hl4:=pX l;unfold mxD at b1 ⊢;obtain h3 | h4:ax l=3\/ax l=4:=by omega
    ·obtain rfl:h=1:=by omega
     rw [h3] at b1 ⊢
     simp at b1 ⊢;omega
    ·rw [h4] at b1 ⊢;obtain rfl | rfl:h=1\/h=2:=by omega
     all_goals (simp at b1 ⊢;omega)
   ·rw [if_neg hm,if_neg hm,if_neg hm];exact .inl ⟨rfl,rfl,rfl⟩
  ·rw [if_neg hx,if_neg hx,if_neg hx];exact pY x x0 x1
abbrev St:=Int × Int × Int
def ch(s:St)(x:Int):St:=(dV s.1 s.2.2 x,cV s.1 s.2.1 s.2.2 x,dW s.1 s.2.2 x)
def cW(s:St)(x:Int):List Int:=dM s.1 s.2.1 s.2.2 x
def aF(s:St)(p:List Int):St:=p.foldl ch s
def aA:St->List Int->List Int
 | _,[]=>[]
 | s,x :: p=>cW s x++aA (ch s x) p
theorem iB(s:St)(p q:List Int):aA s (p++q)=aA s p++aA (aF s p) q:=by
 induction p generalizing s with
 | nil=>rfl
 | cons x p ih=>simp [aA,aF,ih]
theorem iC(s:St)(p q:List Int):aF s (p++q)=aF (aF s p) q:=by simp [aF]
theorem iT(s:St)(p:List Int):(aA s p).length<=2 * p.length:=by
 induction p generalizing s with
 | nil=>simp [aA]
 | cons x p ih=>have:=ih (ch s x);have:=m6 s.1 s.2.1 s.2.2 x;simp [aA,cW];omega
def wfS(s:St):Prop:=wfD s.1 s.2.1 s.2.2
theorem wR(s:St)(x:Int)(h:wfS s)(x0:0<=x)(x1:x<=255):wfS (ch s x):=yo _ _ _ _ h x0 x1
theorem jx(s:St)(p:List Int)(h:wfS s)(hp:∀ x ∈ p,0<=x/\x<=255):wfS (aF s p):=by
 induction p generalizing s with
 |nil=>exact h
 |cons x p ih =>
  have:=hp x (by simp);exact ih (ch s x) (wR s x h this.1 this.2) (fun y hy=>hp y (by simp [hy]))
theorem pZ:wfS (0,0,0):=.inl ⟨rfl,rfl,rfl⟩
theorem lP(xs:List Int)(k:Nat)(h:k<xs.length):xs.take (k+1)=xs.take k++[xs.getD k 0]:=by
 rw [List.take_succ_eq_append_getElem h]
 simp [List.getD,List.getElem?_eq_getElem h]
theorem fA(s:St)(p:List Int)(k:Nat)(h:k<p.length):aA s (p.take (k+1))=aA s (p.take k)++cW (aF s (p.take k)) (p.getD k 0):=by
 rw [lP p k h,iB]
 simp [aA]
theorem fB(s:St)(p:List Int)(k:Nat)(h:k<p.length):aF s (p.take (k+1))=ch (aF s (p.take k)) (p.getD k 0):=by
 rw [lP p k h,iC]
 rfl
end Go.Proofs.YtoeggiplcaegoaaGreatDoor
