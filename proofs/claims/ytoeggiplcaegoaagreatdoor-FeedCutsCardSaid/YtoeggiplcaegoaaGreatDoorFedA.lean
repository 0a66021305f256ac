import Derived.Test.YtoeggiplcaegoaaGreatDoorZ0
import Derived.Test.YtoeggiplcaegoaaGreatDoorUtfdecC
import Derived.Test.YtoeggiplcaegoaaGreatDoorMg3
import Derived.Test.YtoeggiplcaegoaaGreatDoorMg6
set_option maxRecDepth 100000
set_option linter.unusedVariables false
set_option linter.unusedSimpArgs false
set_option maxHeartbeats 400000
namespace Go.Proofs.YtoeggiplcaegoaaGreatDoor
open Go.RowKit Go.ChangeShapes Go.WideShapes
structure FX where
 gp:Nat
 tl:Bool
 la:Int
 cj:Int
 pi:Int
 od:Bool
 op:Value
def fxL(X:FX)(l b h:Int):List Value:=[.pointer (some ⟨X.gp,0,none⟩),.int .u8 l,.int .i32 b,.int .i64 h,.bool X.tl,.int .i64 X.la,.int .u8 X.cj,.int .u8 X.pi,.bool X.od,X.op]
def FDec(X:FX)(w:World)(g:Nat)(l b h:Int):Prop:=Has w g (fxL X l b h) 143
section
variable {X : FX}
theorem fF(g:Nat)(l b h:Int)(w:World)(hd:FDec X w g l b h):Calls Tryz.prog 84 #[.pointer (some ⟨g,1,none⟩)] w fun e w'=>e=.returned (.int .i64 h)/\w=w':=by
 have c2:=hd.cell 3 _ rfl
 go_enter Tryz.func84,Tryz.ntmps84
 go_wp2;go_ret;exact ⟨rfl,rfl⟩
theorem mA(g:Nat)(l b:Int)(w:World)(hd:FDec X w g l b 0):Calls Tryz.prog 82 #[.pointer (some ⟨g,1,none⟩)] w fun e w'=>e=.returned (.slice none 0 0)/\w=w':=by
 go_enter Tryz.func82,Tryz.ntmps82
 go_wp2_with fail
 refine (fF g l b 0 _ hd).mono ?_;rintro e w' ⟨rfl,rfl⟩;go_wp2;go_ret;exact ⟨rfl,rfl⟩
def r8(X:FX)(w:World)(g:Nat)(e:Ending)(w':World):Prop:=∃ v,e=.returned v/\Held .i32 w' v [65533]/\FDec X w' g 0 0 0/\But g w.heap.size w w'
theorem FDec.zero{w:World}{g:Nat}{l b h:Int}(hd:FDec X w g l b h):FDec X (((w.setCell ⟨g,1,none⟩ (.int .u8 0)).setCell ⟨g,2,none⟩ (.int .i32 0)).setCell ⟨g,3,none⟩ (.int .i64 0)) g 0 0 0 :=
 ((hd.set 1 _).set 2 _).set 3 _
theorem cu(w:World)(g:Nat)(x y z:Value):But g w.heap.size w (((w.setCell ⟨g,1,none⟩ x).setCell ⟨g,2,none⟩ y).setCell ⟨g,3,none⟩ z) :=
 (((But.refl _ _ _).set 1 _).set 2 _).set 3 _
theorem mB(g:Nat)(l b h:Int)(w:World)(hd:FDec X w g l b h)(hh:0<h):Calls Tryz.prog 82 #[.pointer (some ⟨g,1,none⟩)] w (r8 X w g):=by
 have HD:=ab hd;have c0:=hd.cell 1 _ rfl;have c1:=hd.cell 2 _ rfl;have c2:=hd.cell 3 _ rfl;have f0:=hd.free 1;have f1:=hd.free 2;have f2:=hd.free 3;have hl:=hd.lt;have t1:(h == 0)=false:=by simp;omega
 clear hd
 go_enter Tryz.func82,Tryz.ntmps82
 go_wp2_with fail
 refine (fF g l b h _ HD.out).mono ?_;rintro e w' ⟨rfl,rfl⟩;go_wp2;go_ret;refine ⟨_,rfl,re .i32 _ _ [.int .i32 65533] 21 1 1 [65533] (by simp) rfl rfl,(HD.out.zero).alloc _,(cu w g _ _ _).alloc (Nat.le_refl _) _⟩
theorem ic(g:Nat)(l b h x:Int)(w:World)(hd:FDec X w g l b h)(l0:0<=l)(l1:l<=255)(x0:0<=x)(x1:x<=255):Calls Tryz.prog 204 #[.pointer (some ⟨g,1,none⟩),.int .u8 x] w fun e w'=>e=.returned (.bool (bN l h x))/\w=w':=by
 have c0:=hd.cell 1 _ rfl;have c2:=hd.cell 3 _ rfl;clear hd
 by_cases h1:1<h
 ·rw [show bN l h x=fI x from by unfold bN;rw [if_pos h1]]
  go_enter Tryz.func204,Tryz.ntmps204
  go_wp2_with fail
  refine (yk x _ x0 x1).mono ?_;rintro e w' ⟨rfl,rfl⟩;go_wp2;go_ret;exact ⟨rfl,rfl⟩
 ·have hs:bN l h x=(decide (lo2 l<=x) && decide (x<=hi2 l)):=by unfold bN;rw [if_neg h1]
  have HS:=ab hs;clear hs
  by_cases h2:lo2 l<=x
  ·go_enter Tryz.func204,Tryz.ntmps204
   go_wp2_with fail
   refine (mh l _ l0 l1).mono ?_;rintro e w' ⟨rfl,rfl⟩;go_wp2;go_ret;exact ⟨al (by rw [HS.out];simp [h2]),rfl⟩
  ·go_enter Tryz.func204,Tryz.ntmps204
   go_wp2_with fail
   refine (mh l _ l0 l1).mono ?_;rintro e w' ⟨rfl,rfl⟩;go_wp2;go_ret;exact ⟨al (by rw [HS.out];simp;omega),rfl⟩
def iw(X:FX)(B:Nat)(w:World)(g:Nat)(n:Nat)(xs:List Int)(l b h:Int)(e:Ending)(w':World):Prop :=
 ∃ v',e=.returned v'/\w'.ownsRow B 21 1 v' n (xs.map (Value.int .i32))/\FDec X w' g l b h/\But g B w w'
theorem jE(g B:Nat)(v:Value)(n:Nat)(xs:List Int)(x:Int)(w:World)(hd:FDec X w g 0 0 0)(hg:g<B)(hown:w.ownsRow B 21 1 v n (xs.map (Value.int .i32)))(hB:B<=w.heap.size)(hn:n<=1000000000)(x0:0<=x)(x1:x<=255) :
  Calls Tryz.prog 205 #[.pointer (some ⟨g,1,none⟩),v,.int .u8 x] w (iw X B w g (n+(be x).length) (xs++be x) (bB x) (aV x) (bC x)):=by
 have HD:=ab hd;have c0:=hd.cell 1 _ rfl;have c1:=hd.cell 2 _ rfl;have c2:=hd.cell 3 _ rfl;have f0:=hd.free 1;have f1:=hd.free 2;have f2:=hd.free 3;have hl:=hd.lt;clear hd
 rcases bq x with ⟨h2,hs⟩ | ⟨h2,h3,hs⟩ | ⟨h2,h3,hs⟩ | ⟨h2,h3,hs⟩ | ⟨h2,h3,hs⟩ | ⟨h2,hs⟩
 ·rw [show be x=[x] from by simp [be,hs],show bB x=0 from by simp [bB,hs],show aV x=0 from by simp [aV,hs],show bC x=0 from by simp [bC,hs]];have HS:=ab hs;clear hs
  go_enter Tryz.func205,Tryz.ntmps205
  go_wp2_with fail
  refine (dr x _ x0 x1).mono ?_;rintro e w' ⟨rfl,rfl⟩;rw [HS.out]
  go_wp2_with (at_builtin;refine bK w rfl (.tmp 16) (.tmp 19) 27 rfl B 21 (.int .i32 0) 4 Tryz.underlying27 Tryz.info21 rfl v n (xs.map (Value.int .i32)) rfl hown [.int .i32 x] 1 1 rfl rfl (by intro u hu;simp at hu;rcases hu with rfl <;> rfl) (by omega) (by omega) hB ?_)
  intro v' w' hown' hb;clear hown;go_wp2;go_ret;exact ⟨v',rfl,by simpa using hown',HD.out.below hb hg,.ofBelow hb⟩
 ·rw [show be x=[65533] from by simp [be,hs],show bB x=0 from by simp [bB,hs],show aV x=0 from by simp [aV,hs],show bC x=0 from by simp [bC,hs]];have HS:=ab hs;clear hs
  go_enter Tryz.func205,Tryz.ntmps205
  go_wp2_with fail
  refine (dr x _ x0 x1).mono ?_;rintro e w' ⟨rfl,rfl⟩;rw [HS.out]
  go_wp2_with (at_builtin;refine bK w rfl (.tmp 11) (.tmp 12) 27 rfl B 21 (.int .i32 0) 4 Tryz.underlying27 Tryz.info21 rfl v n (xs.map (Value.int .i32)) rfl hown [.int .i32 65533] 1 1 rfl rfl (by intro u hu;simp at hu;rcases hu with rfl <;> rfl) (by omega) (by omega) hB ?_)
  intro v' w' hown' hb;clear hown;go_wp2;go_ret;exact ⟨v',rfl,by simpa using hown',HD.out.below hb hg,.ofBelow hb⟩
 ·rw [show be x=[] from by simp [be,hs],show bB x=x from by simp [bB,hs],show aV x=bY x from by simp [aV,hs],show bC x=1 from by simp [bC,hs]];have Ja:0<=bY x/\bY x<=255:=by unfold bY;rw [hs];simp;omega
  have HS:=ab hs;clear hs
  go_enter Tryz.func205,Tryz.ntmps205
  go_wp2_with fail
  refine (dr x _ x0 x1).mono ?_;rintro e w' ⟨rfl,rfl⟩;rw [HS.out]
  go_wp2_with fail
  refine (mg x _ x0 x1).mono ?_;rintro e w' ⟨rfl,rfl⟩;go_wp2;go_ret;exact ⟨v,rfl,by simpa using gn hown (cu w g _ _ _) hg,((HD.out.set 1 _).set 2 _).set 3 _,(cu w g _ _ _).mono hB⟩
 ·rw [show be x=[] from by simp [be,hs],show bB x=x from by simp [bB,hs],show aV x=bY x from by simp [aV,hs],show bC x=1 from by simp [bC,hs]];have Ja:0<=bY x/\bY x<=255:=by unfold bY;rw [hs];simp;omega
  have HS:=ab hs;clear hs
  go_enter Tryz.func205,Tryz.ntmps205
  go_wp2_with fail
  refine (dr x _ x0 x1).mono ?_;rintro e w' ⟨rfl,rfl⟩;rw [HS.out]
  go_wp2_with fail
  refine (mg x _ x0 x1).mono ?_;rintro e w' ⟨rfl,rfl⟩;go_wp2;go_ret;exact ⟨v,rfl,by simpa using gn hown (cu w g _ _ _) hg,((HD.out.set 1 _).set 2 _).set 3 _,(cu w g _ _ _).mono hB⟩
 ·rw [show be x=[] from by simp [be,hs],show bB x=x from by simp [bB,hs],show aV x=bY x from by simp [aV,hs],show bC x=1 from by simp [bC,hs]];have Ja:0<=bY x/\bY x<=255:=by unfold bY;rw [hs];simp;omega
  have HS:=ab hs;clear hs
  go_enter Tryz.func205,Tryz.ntmps205
  go_wp2_with fail
  refine (dr x _ x0 x1).mono ?_;rintro e w' ⟨rfl,rfl⟩;rw [HS.out]
  go_wp2_with fail
  refine (mg x _ x0 x1).mono ?_;rintro e w' ⟨rfl,rfl⟩;go_wp2;go_ret;exact ⟨v,rfl,by simpa using gn hown (cu w g _ _ _) hg,((HD.out.set 1 _).set 2 _).set 3 _,(cu w g _ _ _).mono hB⟩
 ·rw [show be x=[65533] from by simp [be,hs],show bB x=0 from by simp [bB,hs],show aV x=0 from by simp [aV,hs],show bC x=0 from by simp [bC,hs]];have HS:=ab hs;clear hs
  go_enter Tryz.func205,Tryz.ntmps205
  go_wp2_with fail
  refine (dr x _ x0 x1).mono ?_;rintro e w' ⟨rfl,rfl⟩;rw [HS.out]
  go_wp2_with (at_builtin;refine bK w rfl (.tmp 11) (.tmp 12) 27 rfl B 21 (.int .i32 0) 4 Tryz.underlying27 Tryz.info21 rfl v n (xs.map (Value.int .i32)) rfl hown [.int .i32 65533] 1 1 rfl rfl (by intro u hu;simp at hu;rcases hu with rfl <;> rfl) (by omega) (by omega) hB ?_)
  intro v' w' hown' hb;clear hown;go_wp2;go_ret;exact ⟨v',rfl,by simpa using hown',HD.out.below hb hg,.ofBelow hb⟩
theorem mC(g B:Nat)(v:Value)(n:Nat)(xs:List Int)(x:Int)(w:World)(hd:FDec X w g 0 0 0)(hg:g<B)(hown:w.ownsRow B 21 1 v n (xs.map (Value.int .i32)))(hB:B<=w.heap.size)(hn:n<=1000000000)(x0:0<=x)(x1:x<=255) :
  Calls Tryz.prog 151 #[.pointer (some ⟨g,1,none⟩),v,.int .u8 x] w (iw X B w g (n+(be x).length) (xs++be x) (bB x) (aV x) (bC x)):=by
 have HD:=ab hd;have c2:=hd.cell 3 _ rfl;clear hd
 go_enter Tryz.func151,Tryz.ntmps151
 go_wp2_with fail
 refine (jE g B v n xs x _ HD.out hg hown hB hn x0 x1).mono ?_;rintro e w1 ⟨v1,rfl,ho,hd,hb⟩;clear hown;go_wp2;go_ret;exact ⟨v1,rfl,ho,hd,hb⟩
theorem gG(w:World)(g:Nat)(y z:Value):But g w.heap.size w ((w.setCell ⟨g,2,none⟩ y).setCell ⟨g,3,none⟩ z):=((But.refl _ _ _).set 2 _).set 3 _
theorem r9(g B:Nat)(v:Value)(n:Nat)(xs:List Int)(l b h x:Int)(w:World)(hd:FDec X w g l b h)(l0:0<=l)(l1:l<=255)(h0:1<=h)(h1:h<=4)(b0:0<=b)(b1:b<32768)(hx:bN l h x=true)(hg:g<B)(hown:w.ownsRow B 21 1 v n (xs.map (Value.int .i32)))(hB:B<=w.heap.size)(hn:n<=1000000000)(x0:0<=x)(x1:x<=255)(hm:h+1<aw l) :
  Calls Tryz.prog 151 #[.pointer (some ⟨g,1,none⟩),v,.int .u8 x] w (iw X B w g n xs l (b * 64+x % 64) (h+1)):=by
 have HD:=ab hd;have c0:=hd.cell 1 _ rfl;have c1:=hd.cell 2 _ rfl;have c2:=hd.cell 3 _ rfl;have f1:=hd.free 2;have f2:=hd.free 3;have hl:=hd.lt;have t1:(h == 0)=false:=by simp;omega
 have e1:=pg x x0 x1;have e2:=pf (b * 64) (x % 64) (by omega) (by omega) (by omega) (by omega) (by omega);have HN:=ab hx;clear hd hx
 go_enter Tryz.func151,Tryz.ntmps151
 go_wp2_with fail
 refine (ic g l b h x _ HD.out l0 l1 x0 x1).mono ?_;rintro e w' ⟨rfl,rfl⟩;rw [HN.out];go_wp2
 go_quiet ((go_at_call 206;exact zP (dr l _ l0 l1)))
 go_wp2;go_ret;exact ⟨v,rfl,gn hown ((gG w g _ _).drewN nq) hg,((HD.out.set 2 _).set 3 _).drewN nq,((gG w g _ _).drewN nq).mono hB⟩
theorem mD(g B:Nat)(v:Value)(n:Nat)(xs:List Int)(l b h x:Int)(w:World)(hd:FDec X w g l b h)(l0:0<=l)(l1:l<=255)(h0:1<=h)(h1:h<=4)(b0:0<=b)(b1:b<32768)(hx:bN l h x=true)(hg:g<B)(hown:w.ownsRow B 21 1 v n (xs.map (Value.int .i32)))(hB:B<=w.heap.size)(hn:n<=1000000000)(x0:0<=x)(x1:x<=255)(hm:¬ h+1<aw l) :
  Calls Tryz.prog 151 #[.pointer (some ⟨g,1,none⟩),v,.int .u8 x] w (iw X B w g (n+1) (xs++[b * 64+x % 64]) 0 0 0):=by
 have HD:=ab hd;have c0:=hd.cell 1 _ rfl;have c1:=hd.cell 2 _ rfl;have c2:=hd.cell 3 _ rfl;have f1:=hd.free 2;have f2:=hd.free 3;have hl:=hd.lt;have t1:(h == 0)=false:=by simp;omega
 have e1:=pg x x0 x1;have e2:=pf (b * 64) (x % 64) (by omega) (by omega) (by omega) (by omega) (by omega);have HN:=ab hx;clear hd hx
 go_enter Tryz.func151,Tryz.ntmps151
 go_wp2_with fail
 refine (ic g l b h x _ HD.out l0 l1 x0 x1).mono ?_;rintro e w' ⟨rfl,rfl⟩;rw [HN.out];go_wp2
 go_quiet ((go_at_call 206;exact zP (dr l _ l0 l1)))
 have BE:=gn hown ((gG w g (.int .i32 (b * 64+x % 64)) (.int .i64 (h+1))).drewN nq) hg;have Jl:=((HD.out.set 2 (.int .i32 (b * 64+x % 64))).set 3 (.int .i64 (h+1))).drewN nq;have hb2:=((gG w g (.int .i32 (b * 64+x % 64)) (.int .i64 (h+1))).drewN nq).mono hB;have NJ:=Nat.le_trans hB hb2.size;generalize (((w.setCell ⟨g,2,none⟩ (.int .i32 (b * 64+x % 64))).setCell ⟨g,3,none⟩ (.int .i64 (h+1))).drewN nq)=w2 at *;have c1:=Jl.cell 2 _ rfl;clear c0 c2 f1 f2 hown
 go_wp2_with (at_builtin;refine bK w2 rfl (.tmp 61) (.tmp 66) 27 rfl B 21 (.int .i32 0) 4 Tryz.underlying27 Tryz.info21 rfl v n (xs.map (Value.int .i32)) rfl BE [.int .i32 (b * 64+x % 64)] 1 1 rfl rfl (by intro u hu;simp at hu;rcases hu with rfl <;> rfl) (by omega) (by omega) NJ ?_)
 intro v' w' hown' hb;have LT:=Jl.below hb hg;have c0:=LT.cell 1 _ rfl;have c1:=LT.cell 2 _ rfl;have c2:=LT.cell 3 _ rfl;have f0:=LT.free 1;have f1:=LT.free 2;have f2:=LT.free 3;have NC:=((LT.set 1 (.int .u8 0)).set 2 (.int .i32 0)).set 3 (.int .i64 0);have hb4:=(hb2.trans (.ofBelow hb)).trans ((cu w' g (.int .u8 0) (.int .i32 0) (.int .i64 0)).mono (Nat.le_trans NJ hb.size));have Ka:=gn hown' (cu w' g (.int .u8 0) (.int .i32 0) (.int .i64 0)) hg;clear BE hown' Jl LT hb2 hb;go_wp2;go_ret;exact ⟨v',rfl,by simpa using Ka,NC,hb4⟩
theorem qt(g B:Nat)(v:Value)(n:Nat)(xs:List Int)(l b h x:Int)(w:World)(hd:FDec X w g l b h)(l0:0<=l)(l1:l<=255)(h0:1<=h)(h1:h<=4)(hx:bN l h x=false)(hg:g<B)(hown:w.ownsRow B 21 1 v n (xs.map (Value.int .i32)))(hB:B<=w.heap.size)(hn:n<=1000000000 - 1)(x0:0<=x)(x1:x<=255) :
  Calls Tryz.prog 151 #[.pointer (some ⟨g,1,none⟩),v,.int .u8 x] w (iw X B w g (n+1+(be x).length) ((xs++[65533])++be x) (bB x) (aV x) (bC x)):=by
 have HD:=ab hd;have c2:=hd.cell 3 _ rfl;have HN:=ab hx;clear hd hx
 go_enter Tryz.func151,Tryz.ntmps151
 go_wp2_with fail
 refine (ic g l b h x _ HD.out l0 l1 x0 x1).mono ?_;rintro e w' ⟨rfl,rfl⟩;rw [HN.out]
 go_wp2_with fail
 refine (mB g l b h _ HD.out (by omega)).mono ?_;rintro e w1 ⟨v1,rfl,Ge,Gh,hb1⟩;have BX:=gn hown hb1 hg;have hB1:=Nat.le_trans hB hb1.size;clear hown c2
 go_wp2_with (at_builtin;refine cW w1 rfl (.tmp 18) (.tmp 20) 27 rfl B 21 (.int .i32 0) 4 Tryz.underlying27 Tryz.info21 rfl .i32 v n xs rfl BX v1 [65533] rfl Ge (by simp;omega) (by simp;omega) hB1 ?_)
 intro v2 w2 BE hb2;have Jl:=Gh.below hb2 hg;have c2:=Jl.cell 3 _ rfl;have De:=(hb1.mono hB).trans (.ofBelow hb2);have NJ:=Nat.le_trans hB1 hb2.size;clear BX Gh hb1 hb2 Ge
 go_wp2_with fail
 refine (jE g B v2 (n+1) (xs++[65533]) x _ Jl hg (by rw [List.map_append];exact BE) NJ (by omega) x0 x1).mono ?_;rintro e w3 ⟨v3,rfl,ho,hd,hb⟩;clear BE;go_wp2;go_ret;exact ⟨v3,rfl,ho,hd,De.trans hb⟩
theorem qu(g B:Nat)(v:Value)(n:Nat)(xs:List Int)(l b h x:Int)(w:World)(hd:FDec X w g l b h)(hw:wfD l b h)(hg:g<B)(hown:w.ownsRow B 21 1 v n (xs.map (Value.int .i32)))(hB:B<=w.heap.size)(hn:n<=1000000000 - 1)(x0:0<=x)(x1:x<=255) :
  Calls Tryz.prog 151 #[.pointer (some ⟨g,1,none⟩),v,.int .u8 x] w (iw X B w g (n+(dR l b h x).length) (xs++dR l b h x) (dZ l h x) (da l b h x) (ed l h x)):=by
 rcases hw with ⟨rfl,rfl,rfl⟩ | ⟨l0,l1,h0,h1,b0,b1⟩
 ·exact mC g B v n xs x w hd hg hown hB (by omega) x0 x1
 ·have hl4:=qv l;have hm:=Aj (aw l) h;have hne:¬ h=0:=by omega
  cases hx:bN l h x with
  |true =>
   by_cases F5:h+1<aw l
   ·have e1:dR l b h x=[]:=by unfold dR;rw [if_neg hne,if_pos hx,if_pos F5]
    have e2:dZ l h x=l:=by unfold dZ;rw [if_neg hne,if_pos hx,if_pos F5]
    have e3:da l b h x=b * 64+x % 64:=by unfold da;rw [if_neg hne,if_pos hx,if_pos F5]
    have e4:ed l h x=h+1:=by unfold ed;rw [if_neg hne,if_pos hx,if_pos F5]
    rw [e1,e2,e3,e4]
    simpa using r9 g B v n xs l b h x w hd l0 l1 h0 (by omega) b0 (by omega) hx hg hown hB (by omega) x0 x1 F5
   ·have e1:dR l b h x=[b * 64+x % 64]:=by unfold dR;rw [if_neg hne,if_pos hx,if_neg F5]
    have e2:dZ l h x=0:=by unfold dZ;rw [if_neg hne,if_pos hx,if_neg F5]
    have e3:da l b h x=0:=by unfold da;rw [if_neg hne,if_pos hx,if_neg F5]
    have e4:ed l h x=0:=by unfold ed;rw [if_neg hne,if_pos hx,if_neg F5]
    rw [e1,e2,e3,e4];exact mD g B v n xs l b h x w hd l0 l1 h0 (by omega) b0 (by omega) hx hg hown hB (by omega) x0 x1 F5
  |false =>
   have Pk:¬ bN l h x=true:=by rw [hx];simp
   have e1:dR l b h x=65533 :: be x:=by unfold dR;rw [if_neg hne,if_neg Pk]
   have e2:dZ l h x=bB x:=by unfold dZ;rw [if_neg hne,if_neg Pk]
   have e3:da l b h x=aV x:=by unfold da;rw [if_neg hne,if_neg Pk]
   have e4:ed l h x=bC x:=by unfold ed;rw [if_neg hne,if_neg Pk]
   rw [e1,e2,e3,e4];have:=qt g B v n xs l b h x w hd l0 l1 h0 (by omega) hx hg hown hB hn x0 x1;rw [List.length_cons,show n+((be x).length+1)=n+1+(be x).length from by omega]
   simpa using this
def sb(X:FX)(w:World)(g:Nat)(xs:List Int)(l b h:Int)(e:Ending)(w':World):Prop :=
 ∃ v',e=.returned v'/\HeldE (aF .i32) (fun b=>w.heap.size<=b) w' v' xs/\FDec X w' g l b h/\But g w.heap.size w w'
theorem oW(g:Nat)(l b h x:Int)(w:World)(hd:FDec X w g l b h)(hw:wfD l b h)(x0:0<=x)(x1:x<=255) :
  Calls Tryz.prog 80 #[.pointer (some ⟨g,1,none⟩),.int .u8 x] w (sb X w g (dR l b h x) (dZ l h x) (da l b h x) (ed l h x)):=by
 have HD:=ab hd;have hg:=hd.lt;have HW:=ab hw;clear hd hw
 go_enter Tryz.func80,Tryz.ntmps80
 go_wp2_with fail
 refine (qu g w.heap.size (.slice none 0 0) 0 [] l b h x _ HD.out HW.out hg (World.ownsRow_nil _ _ _ _) (Nat.le_refl _) (by omega) x0 x1).mono ?_;rintro e w1 ⟨v1,rfl,ho,hd,hb⟩;have hh:=HeldE.ownedInts ho;clear ho;go_wp2;go_ret;exact ⟨v1,rfl,by simpa using hh,hd,hb⟩
end
end Go.Proofs.YtoeggiplcaegoaaGreatDoor
