import Derived.Test.YthdphijabffpiaaDoorZ0
import Derived.Test.YthdphijabffpiaaDoorRgnW
set_option maxRecDepth 100000
set_option linter.unusedVariables false
set_option linter.unusedSimpArgs false
set_option maxHeartbeats 1600000
namespace Go.Proofs.YthdphijabffpiaaDoor
open Go.RowKit Go.ChangeShapes Go.WideShapes
def aN(row col a0 a1 b0 b1:Int):Bool:=!(decide (row<a0) || decide (b0<row) || ((row == a0) && decide (col<a1)) || ((row == b0) && decide (b1<col)))
theorem bJ(row col a0 a1 b0 b1:Int)(w:World):Calls Tryd.prog 74 #[.int .i64 row,.int .i64 col,.agg #[.int .i64 a0,.int .i64 a1],.agg #[.int .i64 b0,.int .i64 b1]] w (Gives w (.bool (aN row col a0 a1 b0 b1))):=by
 have HB:=aa (show Below w.heap.size w ((w.alloc (.cells #[.int .i64 a0,.int .i64 a1] 66)).alloc (.cells #[.int .i64 b0,.int .i64 b1] 66)) from (af _ _).alloc (af _ _).size _)
 by_cases h1:row<a0
 ·have d1:decide (row<a0)=true:=decide_eq_true h1;have HG:=aa (show aN row col a0 a1 b0 b1=false from by unfold aN;simp only [d1];rfl)
  (try clear h6);(try clear h5);(try clear h4);(try clear h3);(try clear h2);(try clear h1)
  go_enter Tryd.func74,Tryd.ntmps74
  go_wp2;go_ret;exact ⟨by rw [HG.out];rfl,HB.out⟩
 have d1:decide (row<a0)=false:=decide_eq_false h1
 by_cases h2:b0<row
 ·have d2:decide (b0<row)=true:=decide_eq_true h2;have HG:=aa (show aN row col a0 a1 b0 b1=false from by unfold aN;simp only [d1,d2];rfl)
  (try clear h6);(try clear h5);(try clear h4);(try clear h3);(try clear h2);(try clear h1)
  go_enter Tryd.func74,Tryd.ntmps74
  go_wp2;go_ret;exact ⟨by rw [HG.out];rfl,HB.out⟩
 have d2:decide (b0<row)=false:=decide_eq_false h2
 by_cases h3:row=a0
 ·have d3:(row == a0)=true:=by rw [beq_iff_eq];exact h3
  by_cases h4:col<a1
  ·have d4:decide (col<a1)=true:=decide_eq_true h4;have HG:=aa (show aN row col a0 a1 b0 b1=false from by unfold aN;simp only [d1,d2,d3,d4];rfl)
   (try clear h6);(try clear h5);(try clear h4);(try clear h3);(try clear h2);(try clear h1)
   go_enter Tryd.func74,Tryd.ntmps74
   go_wp2;go_ret;exact ⟨by rw [HG.out];rfl,HB.out⟩
  ·have d4:decide (col<a1)=false:=decide_eq_false h4
   by_cases h5:row=b0
   ·have d5:(row == b0)=true:=by rw [beq_iff_eq];exact h5
    by_cases h6:b1<col
    ·have d6:decide (b1<col)=true:=decide_eq_true h6;have HG:=aa (show aN row col a0 a1 b0 b1=false from by unfold aN;simp only [d1,d2,d3,d4,d5,d6];rfl)
     (try clear h6);(try clear h5);(try clear h4);(try clear h3);(try clear h2);(try clear h1)
     go_enter Tryd.func74,Tryd.ntmps74
     go_wp2;go_ret;exact ⟨by rw [HG.out];rfl,HB.out⟩
    ·have d6:decide (b1<col)=false:=decide_eq_false h6;have HG:=aa (show aN row col a0 a1 b0 b1=true from by unfold aN;simp only [d1,d2,d3,d4,d5,d6];rfl)
     (try clear h6);(try clear h5);(try clear h4);(try clear h3);(try clear h2);(try clear h1)
     go_enter Tryd.func74,Tryd.ntmps74
     go_wp2;go_ret;exact ⟨by rw [HG.out];rfl,HB.out⟩
   ·have d5:(row == b0)=false:=by rw [beq_eq_false_iff_ne];exact h5
    have HG:=aa (show aN row col a0 a1 b0 b1=true from by unfold aN;simp only [d1,d2,d3,d4,d5];rfl)
    (try clear h6);(try clear h5);(try clear h4);(try clear h3);(try clear h2);(try clear h1)
    go_enter Tryd.func74,Tryd.ntmps74
    go_wp2;go_ret;exact ⟨by rw [HG.out];rfl,HB.out⟩
 ·have d3:(row == a0)=false:=by rw [beq_eq_false_iff_ne];exact h3
  by_cases h5:row=b0
  ·have d5:(row == b0)=true:=by rw [beq_iff_eq];exact h5
   by_cases h6:b1<col
   ·have d6:decide (b1<col)=true:=decide_eq_true h6;have HG:=aa (show aN row col a0 a1 b0 b1=false from by unfold aN;simp only [d1,d2,d3,d5,d6];rfl)
    (try clear h6);(try clear h5);(try clear h4);(try clear h3);(try clear h2);(try clear h1)
    go_enter Tryd.func74,Tryd.ntmps74
    go_wp2;go_ret;exact ⟨by rw [HG.out];rfl,HB.out⟩
   ·have d6:decide (b1<col)=false:=decide_eq_false h6;have HG:=aa (show aN row col a0 a1 b0 b1=true from by unfold aN;simp only [d1,d2,d3,d5,d6];rfl)
    (try clear h6);(try clear h5);(try clear h4);(try clear h3);(try clear h2);(try clear h1)
    go_enter Tryd.func74,Tryd.ntmps74
    go_wp2;go_ret;exact ⟨by rw [HG.out];rfl,HB.out⟩
  ·have d5:(row == b0)=false:=by rw [beq_eq_false_iff_ne];exact h5
   have HG:=aa (show aN row col a0 a1 b0 b1=true from by unfold aN;simp only [d1,d2,d3,d5];rfl)
   (try clear h6);(try clear h5);(try clear h4);(try clear h3);(try clear h2);(try clear h1)
   go_enter Tryd.func74,Tryd.ntmps74
   go_wp2;go_ret;exact ⟨by rw [HG.out];rfl,HB.out⟩
def dp(K row col a0 a1 b0 b1:Int):Bool:=aN row col a0 a1 b0 b1 || ((K == 2) && aN row (col+1) a0 a1 b0 b1) || ((K == 3) && aN row (col - 1) a0 a1 b0 b1)
theorem cY(Z:an)(v:Value)(L:List Cl)(k:Nat)(row a0 a1 b0 b1:Int)(w:World)(hv:HeldE cellE Z w v L)(hk:k<L.length):Calls Tryd.prog 40 #[v,.int .i64 row,.int .i64 k,.agg #[.int .i64 a0,.int .i64 a1],.agg #[.int .i64 b0,.int .i64 b1]] w (Gives w (.bool (dp (L.getD k zc).1 row k a0 a1 b0 b1))):=by
 have hl:=hv.max;obtain ⟨ao,cap,rfl⟩:=hv.len;obtain ⟨b,off,tv,rfl,hb,_,hc0,_,_⟩:=(aP hv).2.2 k hk;have ji:=aa (fun (w':World) (h:Below w.heap.size w w')=>(h.cell (p:=⟨b,off+k * 2,none⟩) hb).trans hc0);obtain ⟨Wa,gM⟩:=ab (w.alloc (.cells [Value.int .i64 a0,.int .i64 a1].toArray 66));obtain ⟨Wb,gN⟩:=ab (Wa.alloc (.cells [Value.int .i64 b0,.int .i64 b1].toArray 66));have ba:Below w.heap.size w Wa:=by rw [gM];exact af _ _
 have bb:Below Wa.heap.size Wa Wb:=by rw [gN];exact af _ _
 have sa:Wa.heap.size=w.heap.size+1:=by rw [gM];exact Array.size_push _
 have ga:Has Wa w.heap.size [.int .i64 a0,.int .i64 a1] 66:=by rw [gM];exact Has.new w _ _
 have gb:Has Wb Wa.heap.size [.int .i64 b0,.int .i64 b1] 66:=by rw [gN];exact Has.new Wa _ _
 have ga:=Has.below ga bb ga.lt;rw [sa] at gb;have HB:=aa (ba.trans (bb.mono ba.size));obtain ⟨ka,hka⟩:=ab (w.heap.size);have mA:=aa (show (w.alloc (.cells #[Value.int .i64 a0,.int .i64 a1] 66)).alloc (.cells #[Value.int .i64 b0,.int .i64 b1] 66)=Wb from by rw [gN,gM]);have oa:=aa hka;rw [<-hka] at ga gb;have HA:=aa ga;have HD:=aa gb;have p0:=ga.cell 0 _ rfl;have p1:=ga.cell 1 _ rfl;have q0:=gb.cell 0 _ rfl;have q1:=gb.cell 1 _ rfl;have w1:IntKind.i64.wrap ((k:Int)+1)=(k:Int)+1:=by rw [IntKind.wrap_i64];omega
 have w2:IntKind.i64.wrap ((k:Int) - 1)=(k:Int) - 1:=by rw [IntKind.wrap_i64];omega
 clear gM gN ba bb sa ga gb hka hc0 hb hv;generalize (L.getD k zc).1=K at ji ⊢;unfold dp;obtain ⟨m0,oP⟩:=ab (aN row k a0 a1 b0 b1);obtain ⟨m1,mG⟩:=ab (aN row (k+1) a0 a1 b0 b1);obtain ⟨m2,kB⟩:=ab (aN row (k - 1) a0 a1 b0 b1);have n3:=aa (fun w'=>bJ row k a0 a1 b0 b1 w');have lO:=aa (fun w'=>bJ row (k+1) a0 a1 b0 b1 w');have mS:=aa (fun w'=>bJ row (k - 1) a0 a1 b0 b1 w');rw [<-oP] at n3;rw [<-mG] at lO;rw [<-kB] at mS;rw [<-oP,<-mG,<-kB];clear oP mG kB
 by_cases h2:K=2
 ·subst h2
  cases m0 <;> cases m1
  all_goals
   go_enter Tryd.func40,Tryd.ntmps40
   go_upto_region 1 with (fail)
   rw [mA.out,<-oa.out]
   go_wp2_with fail
   refine (n3.out _).mono ?_;rintro e w3 ⟨rfl,b3⟩;have hb1:=HB.out.trans (b3.mono HB.out.size);have gU:=aa hb1;have g1:=HA.out.below b3 HA.out.lt;have g2:=HD.out.below b3 HD.out.lt;have c0:=ji.out _ hb1;clear p0 p1 q0 q1 b3 hb1;have p0:=g1.cell 0 _ rfl;have p1:=g1.cell 1 _ rfl;have q0:=g2.cell 0 _ rfl;have q1:=g2.cell 1 _ rfl;clear g1 g2
   first
    |(go_wp2;go_ret;exact ⟨ae,gU.out⟩)
    |(go_wp2_with fail
      refine (lO.out _).mono ?_;rintro e w4 ⟨rfl,b4⟩;have hb2:=gU.out.trans (b4.mono gU.out.size);have ii:=aa hb2;have c1:=ji.out _ hb2;clear b4 hb2;go_wp2;go_ret;exact ⟨ae,ii.out⟩)
 by_cases h3:K=3
 ·subst h3
  cases m0 <;> cases m2
  all_goals
   go_enter Tryd.func40,Tryd.ntmps40
   go_upto_region 1 with (fail)
   rw [mA.out,<-oa.out]
   go_wp2_with fail
   refine (n3.out _).mono ?_;rintro e w3 ⟨rfl,b3⟩;have hb1:=HB.out.trans (b3.mono HB.out.size);have gU:=aa hb1;have g1:=HA.out.below b3 HA.out.lt;have g2:=HD.out.below b3 HD.out.lt;have c0:=ji.out _ hb1;clear p0 p1 q0 q1 b3 hb1;have p0:=g1.cell 0 _ rfl;have p1:=g1.cell 1 _ rfl;have q0:=g2.cell 0 _ rfl;have q1:=g2.cell 1 _ rfl;clear g1 g2
   first
    |(go_wp2;go_ret;exact ⟨ae,gU.out⟩)
    |(go_wp2_with fail
      refine (mS.out _).mono ?_;rintro e w4 ⟨rfl,b4⟩;have hb2:=gU.out.trans (b4.mono gU.out.size);have ii:=aa hb2;have c1:=ji.out _ hb2;clear b4 hb2;go_wp2;go_ret;exact ⟨ae,ii.out⟩)
 ·have k2:(K == 2)=false:=by rw [beq_eq_false_iff_ne];exact h2
  have k3:(K == 3)=false:=by rw [beq_eq_false_iff_ne];exact h3
  rw [k2,k3];clear h2 h3
  cases m0
  all_goals
   go_enter Tryd.func40,Tryd.ntmps40
   go_upto_region 1 with (fail)
   rw [mA.out,<-oa.out]
   go_wp2_with fail
   refine (n3.out _).mono ?_;rintro e w3 ⟨rfl,b3⟩;have hb1:=HB.out.trans (b3.mono HB.out.size);have gU:=aa hb1;have g1:=HA.out.below b3 HA.out.lt;have g2:=HD.out.below b3 HD.out.lt;have c0:=ji.out _ hb1;clear p0 p1 q0 q1 b3 hb1;have p0:=g1.cell 0 _ rfl;have p1:=g1.cell 1 _ rfl;have q0:=g2.cell 0 _ rfl;have q1:=g2.cell 1 _ rfl;clear g1 g2;go_wp2;go_ret;exact ⟨ae,gU.out⟩
end Go.Proofs.YthdphijabffpiaaDoor
