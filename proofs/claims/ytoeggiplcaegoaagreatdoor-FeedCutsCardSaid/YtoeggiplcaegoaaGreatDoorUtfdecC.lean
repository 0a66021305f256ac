import Derived.Test.YtoeggiplcaegoaaGreatDoorZ0
import Derived.Test.YtoeggiplcaegoaaGreatDoorMg1
set_option maxRecDepth 100000
set_option linter.unusedVariables false
set_option linter.unusedSimpArgs false
set_option maxHeartbeats 400000
namespace Go.Proofs.YtoeggiplcaegoaaGreatDoor
open Go.RowKit Go.ChangeShapes Go.WideShapes
def DecAt(w:World)(g:Nat)(l b h:Int):Prop:=Has w g [.int .u8 l,.int .i32 b,.int .i64 h] 138
theorem DecAt.zero{w:World}{g:Nat}{l b h:Int}(hd:DecAt w g l b h):DecAt (((w.setCell ⟨g,0,none⟩ (.int .u8 0)).setCell ⟨g,1,none⟩ (.int .i32 0)).setCell ⟨g,2,none⟩ (.int .i64 0)) g 0 0 0 :=
 ((hd.set 0 _).set 1 _).set 2 _
def bN(l h x:Int):Bool:=if 1<h then fI x else decide (lo2 l<=x) && decide (x<=hi2 l)
def be(x:Int):List Int:=if aw x=0 then [65533] else if aw x=1 then [x] else []
def bB(x:Int):Int:=if 2<=aw x then x else 0
def aV(x:Int):Int:=if 2<=aw x then bY x else 0
def bC(x:Int):Int:=if 2<=aw x then 1 else 0
theorem Tryz.info21:(Tryz.prog.info? 21).map (fun i=>(i.zero,i.size,i.bytes))=some (some (.int .i32 0),1,4):=by kernel_rfl
def mxD(L h:Int):Int:=if L=2 then 32 else if L=3 then (if h=1 then 16 else 1024) else (if h=1 then 8 else if h=2 then 512 else 32768)
def wfD(l b h:Int):Prop:=(l=0/\b=0/\h=0)\/(0<=l/\l<=255/\1<=h/\h<aw l/\0<=b/\b<mxD (aw l) h)
theorem Aj(L h:Int):mxD L h<=32768:=by unfold mxD;split <;> (try split) <;> (try split) <;> omega
theorem qv(l:Int):0<=aw l/\aw l<=4:=by unfold aw;omega
def dR(l b h x:Int):List Int:=if h=0 then be x else if bN l h x=true then (if h+1<aw l then [] else [b * 64+x % 64]) else 65533 :: be x
def dZ(l h x:Int):Int:=if h=0 then bB x else if bN l h x=true then (if h+1<aw l then l else 0) else bB x
def da(l b h x:Int):Int:=if h=0 then aV x else if bN l h x=true then (if h+1<aw l then b * 64+x % 64 else 0) else aV x
def ed(l h x:Int):Int:=if h=0 then bC x else if bN l h x=true then (if h+1<aw l then h+1 else 0) else bC x
theorem nw(l b h x:Int):(dR l b h x).length<=2:=by
 have:(be x).length<=1:=by unfold be;split <;> (try split) <;> simp
 unfold dR
 split
 ·omega
 ·split
  ·split <;> simp
  ·simp;omega
theorem qw(x:Int)(x0:0<=x)(x1:x<=255):wfD (bB x) (aV x) (bC x):=by
 unfold wfD bB aV bC
 by_cases h:2<=aw x
 ·rw [if_pos h,if_pos h,if_pos h];refine .inr ⟨x0,x1,by omega,by omega,?_⟩
  rcases bq x with ⟨h2,hs⟩ | ⟨h2,h3,hs⟩ | ⟨h2,h3,hs⟩ | ⟨h2,h3,hs⟩ | ⟨h2,h3,hs⟩ | ⟨h2,hs⟩
  all_goals (rw [hs] at h;try omega)
  all_goals (unfold bY mxD;rw [hs];simp;omega)
 ·rw [if_neg h,if_neg h,if_neg h];exact .inl ⟨rfl,rfl,rfl⟩
theorem zy(l b h x:Int)(hw:wfD l b h)(x0:0<=x)(x1:x<=255):wfD (dZ l h x) (da l b h x) (ed l h x):=by
 rcases hw with ⟨rfl,rfl,rfl⟩ | ⟨l0,l1,h0,h1,b0,b1⟩
 ·exact qw x x0 x1
 ·have hne:¬ h=0:=by omega
  unfold dZ da ed;rw [if_neg hne,if_neg hne,if_neg hne]
  by_cases hx:bN l h x=true
  ·rw [if_pos hx,if_pos hx,if_pos hx]
   by_cases hm:h+1<aw l
   ·rw [if_pos hm,if_pos hm,if_pos hm];refine .inr ⟨l0,l1,by omega,hm,by omega,?_⟩;have hl4:=qv l;unfold mxD at b1 ⊢;obtain h3 | h4:aw l=3\/aw l=4:=by omega
    ·obtain rfl:h=1:=by omega
     rw [h3] at b1 ⊢
     simp at b1 ⊢;omega
    ·rw [h4] at b1 ⊢;obtain rfl | rfl:h=1\/h=2:=by omega
     all_goals (simp at b1 ⊢;omega)
   ·rw [if_neg hm,if_neg hm,if_neg hm];exact .inl ⟨rfl,rfl,rfl⟩
  ·rw [if_neg hx,if_neg hx,if_neg hx];exact qw x x0 x1
abbrev St:=Int × Int × Int
def ch(s:St)(x:Int):St:=(dZ s.1 s.2.2 x,da s.1 s.2.1 s.2.2 x,ed s.1 s.2.2 x)
def db(s:St)(x:Int):List Int:=dR s.1 s.2.1 s.2.2 x
def aI(s:St)(p:List Int):St:=p.foldl ch s
def aE:St->List Int->List Int
 | _,[]=>[]
 | s,x :: p=>db s x++aE (ch s x) p
theorem fO(s:St)(p q:List Int):aE s (p++q)=aE s p++aE (aI s p) q:=by
 induction p generalizing s with
 | nil=>rfl
 | cons x p ih=>simp [aE,aI,ih]
theorem iJ(s:St)(p q:List Int):aI s (p++q)=aI (aI s p) q:=by simp [aI]
theorem mc(s:St)(p:List Int):(aE s p).length<=2 * p.length:=by
 induction p generalizing s with
 | nil=>simp [aE]
 | cons x p ih=>have:=ih (ch s x);have:=nw s.1 s.2.1 s.2.2 x;simp [aE,db];omega
def wfS(s:St):Prop:=wfD s.1 s.2.1 s.2.2
theorem yj(s:St)(x:Int)(h:wfS s)(x0:0<=x)(x1:x<=255):wfS (ch s x):=zy _ _ _ _ h x0 x1
theorem jF(s:St)(p:List Int)(h:wfS s)(hp:∀ x ∈ p,0<=x/\x<=255):wfS (aI s p):=by
 induction p generalizing s with
 |nil=>exact h
 |cons x p ih =>
  have:=hp x (by simp);exact ih (ch s x) (yj s x h this.1 this.2) (fun y hy=>hp y (by simp [hy]))
theorem me:wfS (0,0,0):=.inl ⟨rfl,rfl,rfl⟩
theorem mf(xs:List Int)(k:Nat)(h:k<xs.length):xs.take (k+1)=xs.take k++[xs.getD k 0]:=by
 rw [List.take_succ_eq_append_getElem h]
 simp [List.getD,List.getElem?_eq_getElem h]
theorem fG(s:St)(p:List Int)(k:Nat)(h:k<p.length):aE s (p.take (k+1))=aE s (p.take k)++db (aI s (p.take k)) (p.getD k 0):=by
 rw [mf p k h,fO]
 simp [aE]
theorem fH(s:St)(p:List Int)(k:Nat)(h:k<p.length):aI s (p.take (k+1))=ch (aI s (p.take k)) (p.getD k 0):=by
 rw [mf p k h,iJ]
 rfl
end Go.Proofs.YtoeggiplcaegoaaGreatDoor
