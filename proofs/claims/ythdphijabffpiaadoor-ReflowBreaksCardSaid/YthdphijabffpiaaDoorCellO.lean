import Derived.Test.YthdphijabffpiaaDoorZ0
import Derived.Test.YthdphijabffpiaaDoorMg1
import Derived.Lib.MinMax
set_option maxRecDepth 100000
set_option linter.unusedVariables false
set_option linter.unusedSimpArgs false
set_option maxHeartbeats 400000
namespace Go.Proofs.YthdphijabffpiaaDoor
open Go.RowKit Go.ChangeShapes Go.WideShapes
def ei{α:Type}(E:Elem α)(Z:aj)(ty:TypeId)(w:World)(L:List α)(e:Ending)(w':World):Prop:=∃ v',e=.returned v'/\OwnE E Z w' w.heap.size ty v' L/\Below w.heap.size w w'
theorem fD(C:List Value)(h0:0<C.length)(n:Nat):(madeCells C.toArray (n * C.length)).toList=(List.replicate n C).flatten:=by
 apply List.ext_getElem?
 intro i;have ip:∀ D ∈ List.replicate n C,D.length=C.length:=fun D hD=>by rw [(List.mem_replicate.1 hD).2]
 by_cases hi:i<n * C.length
 ·have hd:i / C.length<n:=(Nat.div_lt_iff_lt_mul h0).2 hi;have hm:i % C.length<C.length:=Nat.mod_lt _ h0;have:=bD ip (i / C.length) (i % C.length) (by simpa using hd) hm;rw [show i / C.length * C.length+i % C.length=i by rw [Nat.mul_comm];exact Nat.div_add_mod i C.length] at this;rw [this]
  simp [madeCells,hi,List.getD,hd,List.getElem?_replicate,List.getElem?_eq_getElem hm]
 ·rw [List.getElem?_eq_none (by simp [madeCells];omega),List.getElem?_eq_none (by rw [bl ip];simp;omega)]
theorem fY(Z:aj)(w:World):cellE.rep Z w [.int .i64 0,.slice none 0 0] zc:=cell_rep.2 ⟨_,rfl,HeldE.nil _ _ _⟩
theorem bV{Z:aj}{w:World}{B n:Nat}{v:Value}(h:w.ownsRow B 74 2 v n (madeCells (Value.agg #[.int .i64 0,.slice none 0 0]).cells (n * 2)).toList):OwnE cellE Z w B 74 v (List.replicate n zc):=by
 refine ⟨List.replicate n [.int .i64 0,.slice none 0 0],?_,by simp,fun i hi=>?_⟩
 ·rw [<-fD _ (by decide),List.length_replicate];exact h
 ·simp only [List.length_replicate] at hi;simp only [List.getD,List.getElem?_replicate,hi,if_true,Option.getD_some];exact fY _ _
def cG(n:Int):Nat:=(min (max n 0) 1024).toNat
theorem df(Z:aj)(n:Int)(w:World):Calls Tryd.prog 94 #[.int .i64 n] w (ei cellE Z 74 w (List.replicate (cG n) zc)):=by
 obtain ⟨i0,hi,hz0,hz1,hz2⟩:=info_parts bs;have key:∀ m:Nat,m<=1024->min (max n 0) 1024=(m:Int)->Calls Tryd.prog 94 #[.int .i64 n] w (ei cellE Z 74 w (List.replicate m zc)):=by
  intro m hm he
  go_enter Tryd.func94,Tryd.ntmps94
  go_wp2_with (at_make;refine wpList_make_full w rfl (.tmp 5) (.tmp 5) 28 rfl w.heap.size 74 i0 (.agg #[.int .i64 0,.slice none 0 0]) 2 Tryd.underlying28 hi hz0 hz1 .i64 .i64 _ _ m rfl rfl rfl rfl (by rw [hz2];omega) (by unfold maxLen;omega) (Nat.le_refl _) ?_)
  intro w1 hown1 hg1;have hb1:Below w.heap.size w w1:=(Below.refl _ _).grown hg1 (Nat.le_refl _) (by intro k hk;cases hk);have ho:=bV (Z:=Z) hown1;clear hown1 hg1;go_wp2;go_ret;exact ⟨_,rfl,ho,hb1⟩
 have:=key (cG n) (by unfold cG;omega) (by unfold cG;omega);exact this
end Go.Proofs.YthdphijabffpiaaDoor
