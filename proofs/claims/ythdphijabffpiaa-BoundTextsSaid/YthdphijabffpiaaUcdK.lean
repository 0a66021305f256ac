import Derived.Test.YthdphijabffpiaaZ0
import Derived.Test.YthdphijabffpiaaMg4
import Derived.Test.YthdphijabffpiaaMg1
import Derived.Laws.StructEq
set_option maxRecDepth 100000
set_option linter.unusedVariables false
set_option linter.unusedSimpArgs false
set_option maxHeartbeats 400000
namespace Go.Proofs.Ythdphijabffpiaa
open Go.RowKit Go.ChangeShapes Go.WideShapes
def dx(r:Int):Value:=.agg #[.int .i64 (bb r),.bool (av tPict r),.int .i64 (bd r),.int .i64 (cg r)]
theorem gu(w:World)(g:Nat)(a b c d:Value):But g w.heap.size w ((((w.setCell ⟨g,0,none⟩ a).setCell ⟨g,1,none⟩ b).setCell ⟨g,2,none⟩ c).setCell ⟨g,3,none⟩ d) :=
 ((((But.refl _ _ _).set 0 _).set 1 _).set 2 _).set 3 _
theorem c6(r:Int)(w:World):Calls Try.prog 19 #[.int .i32 r] w (Gives w (dx r)):=by
 have hr0:=Has.new w [Value.int .i64 0,.bool false,.int .i64 0,.int .i64 0] 42;have HR:=aa hr0;have hl0:Below w.heap.size w (w.alloc (.cells [Value.int .i64 0,.bool false,.int .i64 0,.int .i64 0].toArray 42)):=iF _ _;have HL:=aa hl0;clear hr0 hl0
 go_enter Try.func19,Try.ntmps19
 go_wp2_with fail
 refine (g8 r _).mono ?_;rintro e w1 ⟨rfl,b1⟩
 go_wp2_with fail
 refine (gw r _).mono ?_;rintro e w2 ⟨rfl,b2⟩
 go_wp2_with fail
 refine (g7 r _).mono ?_;rintro e w3 ⟨rfl,b3⟩
 go_wp2_with fail
 refine (gv r _).mono ?_;rintro e w4 ⟨rfl,b4⟩;have hb:=b1.trans ((b2.trans ((b3.trans (b4.mono b3.size)).mono b2.size)).mono b1.size);have hr4:=HR.out.below hb HR.out.lt;have hl4:=HL.out.trans (hb.mono HL.out.size);have g0:=hr4.cell 0 _ rfl;have g1:=hr4.cell 1 _ rfl;have g2:=hr4.cell 2 _ rfl;have g3:=hr4.cell 3 _ rfl;have f0:=hr4.free 0;have f1:=hr4.free 1;have f2:=hr4.free 2;have f3:=hr4.free 3;have hlt:=hr4.lt;have hbl:=fun x y z u=>hl4.trans ((gu w4 w.heap.size x y z u).below hl4.size (Nat.le_refl _))
 have kF:=aa hbl;clear hb hr4 hl4 hbl b1 b2 b3 b4 HR HL;go_wp2;exact bodyPost_ret (v:=dx r) (by simp [results,Try.results19,go_sem,dx,g0,g1,g2,g3]) rfl ⟨rfl,kF.out _ _ _ _⟩
end Go.Proofs.Ythdphijabffpiaa
