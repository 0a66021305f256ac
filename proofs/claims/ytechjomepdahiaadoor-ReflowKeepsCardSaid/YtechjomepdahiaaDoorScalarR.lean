import Derived.Test.YtechjomepdahiaaDoorZ0
import Derived.Test.YtechjomepdahiaaDoorMg1
import Derived.Deep.QuietTactic
import Derived.BigQuiet
set_option maxRecDepth 100000
set_option linter.unusedVariables false
set_option linter.unusedSimpArgs false
set_option maxHeartbeats 400000
namespace Go.Proofs.YtechjomepdahiaaDoor
open Go.RowKit Go.ChangeShapes Go.WideShapes
theorem bP(r:Int)(w:World):Calls Tryd.prog 80 #[.int .i32 r] w fun e w'=>e=.returned (.bool (ar r))/\w=w':=by
 have hv:(ar r=true/\0<=r/\r<=1114111/\r<55296)\/(ar r=true/\0<=r/\r<=1114111/\¬ r<55296/\57343<r)\/(ar r=false/\¬ 0<=r)\/(ar r=false/\0<=r/\¬ r<=1114111)\/(ar r=false/\0<=r/\r<=1114111/\¬ r<55296/\¬ 57343<r):=by
  unfold ar;simp;omega
 rcases hv with ⟨hv,h1,h2,h3⟩ | ⟨hv,h1,h2,h3,h4⟩ | ⟨hv,h1⟩ | ⟨hv,h1,h2⟩ | ⟨hv,h1,h2,h3,h4⟩
 all_goals
  rw [hv];clear hv
  go_enter Tryd.func80,Tryd.ntmps80
  go_wp2;go_ret;exact ⟨rfl,rfl⟩
def bF(xs ys:List Int):Bool:=decide (xs=ys)
theorem eZ{xs ys:List Int}(hl:ys.length=xs.length)(h:∀ j,j<xs.length->xs.getD j 0=ys.getD j 0):bF xs ys=true:=by
 unfold bF;rw [decide_eq_true_eq]
 apply List.ext_getElem hl.symm
 intro i h1 h2;have:=h i h1
 simpa [List.getD,List.getElem?_eq_getElem h1,List.getElem?_eq_getElem h2] using this
theorem eE{xs ys:List Int}(j:Nat)(h:xs.getD j 0≠ys.getD j 0):bF xs ys=false:=by
 unfold bF;rw [decide_eq_false_iff_not];rintro rfl;exact h rfl
theorem eF{xs ys:List Int}(h:¬ ys.length=xs.length):bF xs ys=false:=by
 unfold bF;rw [decide_eq_false_iff_not];rintro rfl;exact h rfl
def e4(xs ys:List Int)(k:Nat):Prop:=∀ j,j<k->xs.getD j 0=ys.getD j 0
theorem dD(v u:Value)(xs ys:List Int)(w:World)(hx:Held .i32 w v xs)(hy:Held .i32 w u ys)(hlen:xs.length<=9223372036854775807) :
  Calls Tryd.prog 48 #[v,u] w (Gives w (.bool (bF xs ys))):=by
 obtain ⟨ao,ca,rfl,hc⟩:=hx.view;obtain ⟨bo,cb,rfl,hd⟩:=hy.view;have HC:=aa hc;have HD:=aa hd;clear hc hd hx hy
 by_cases hl:ys.length=xs.length
 ·have HL:=aa hl;rw [hl];clear hl
  go_enter Tryd.func48,Tryd.ntmps48
  go_wp2
  go_loopw [5] (fun i wr=>∃ k:Nat,k<=xs.length/\i=.int .i64 k/\e4 xs ys k/\Below w.heap.size w wr) (fun i _=>xs.length - (intOf i).toNat)
  case atStart=>exact ⟨0,Nat.zero_le _,rfl,(fun j hj=>by omega),Below.refl _ _⟩
  case round =>
   obtain ⟨k,hk,rfl,gh,fB⟩:=hrel;have HA:=aa gh;clear gh
   by_cases hlt:k<xs.length
   ·obtain ⟨b1,o1,rfl,hb1,fZ⟩:=HC.out k hlt;obtain ⟨b2,o2,rfl,hb2,iW⟩:=HD.out k (by rw [HL.out];exact hlt);have fZ:=(fB.cell (p:=⟨b1,o1+k,none⟩) hb1).trans fZ;have iW:=(fB.cell (p:=⟨b2,o2+k,none⟩) hb2).trans iW
    by_cases he:xs.getD k 0=ys.getD k 0
    ·have HE:e4 xs ys (k+1):=by
      intro j hj
      by_cases h:j=k
      ·subst h;exact he
      ·exact HA.out j (by omega)
     rw [<-he] at iW;clear he;generalize xs.getD k 0=x at fZ iW;go_wp2
     go_quiet (fail)
     have fB:=fB.drewN nq;go_wp2
     go_roundw
     case rel=>exact ⟨k+1,by omega,by go_num,HE,fB⟩
     case measure=>simp [intOf];omega
    ·have E:=aa (eE k he);generalize xs.getD k 0=x at fZ he;generalize ys.getD k 0=y at iW he;go_wp2
     go_quiet (fail)
     have fB:=fB.drewN nq;go_wp2;go_ret;exact ⟨am (by rw [E.out];rfl),fB⟩
   ·have e:bF xs ys=true:=eZ HL.out (fun j hj=>HA.out j (by omega));have E:=aa e;clear e;go_wp2;go_ret;exact ⟨am (by rw [E.out];rfl),fB⟩
 ·rw [eF hl]
  go_enter Tryd.func48,Tryd.ntmps48
  go_wp2;go_ret;exact ⟨rfl,Below.refl _ _⟩
end Go.Proofs.YtechjomepdahiaaDoor
