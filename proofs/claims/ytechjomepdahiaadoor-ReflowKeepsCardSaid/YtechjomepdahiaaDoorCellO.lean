import Derived.Test.YtechjomepdahiaaDoorZ0
import Derived.Test.YtechjomepdahiaaDoorMg2
import Derived.Test.YtechjomepdahiaaDoorScalarR
import Derived.Lib.MinMax
set_option maxRecDepth 100000
set_option linter.unusedVariables false
set_option linter.unusedSimpArgs false
set_option maxHeartbeats 400000
namespace Go.Proofs.YtechjomepdahiaaDoor
open Go.RowKit Go.ChangeShapes Go.WideShapes
def eV{α:Type}(E:Elem α)(Z:ai)(ty:TypeId)(w:World)(L:List α)(e:Ending)(w':World):Prop:=∃ v',e=.returned v'/\OwnE E Z w' w.heap.size ty v' L/\Below w.heap.size w w'
theorem ew(C:List Value)(h0:0<C.length)(n:Nat):(madeCells C.toArray (n * C.length)).toList=(List.replicate n C).flatten:=by
 apply List.ext_getElem?
 intro i;have fI:∀ D ∈ List.replicate n C,D.length=C.length:=fun D hD=>by rw [(List.mem_replicate.1 hD).2]
 by_cases hi:i<n * C.length
 ·have hd:i / C.length<n:=(Nat.div_lt_iff_lt_mul h0).2 hi;have hm:i % C.length<C.length:=Nat.mod_lt _ h0;have:=bd fI (i / C.length) (i % C.length) (by simpa using hd) hm;rw [show i / C.length * C.length+i % C.length=i by rw [Nat.mul_comm];exact Nat.div_add_mod i C.length] at this;rw [this]
  simp [madeCells,hi,List.getD,hd,List.getElem?_replicate,List.getElem?_eq_getElem hm]
 ·rw [List.getElem?_eq_none (by simp [madeCells];omega),List.getElem?_eq_none (by rw [aS fI];simp;omega)]
theorem eW(Z:ai)(w:World):cellE.rep Z w [.int .i64 0,.slice none 0 0] zc:=cell_rep.2 ⟨_,rfl,HeldE.nil _ _ _⟩
theorem ex{Z:ai}{w:World}{B n:Nat}{v:Value}(h:w.ownsRow B 85 2 v n (madeCells (Value.agg #[.int .i64 0,.slice none 0 0]).cells (n * 2)).toList):OwnE cellE Z w B 85 v (List.replicate n zc):=by
 refine ⟨List.replicate n [.int .i64 0,.slice none 0 0],?_,by simp,fun i hi=>?_⟩
 ·rw [<-ew _ (by decide),List.length_replicate];exact h
 ·simp only [List.length_replicate] at hi;simp only [List.getD,List.getElem?_replicate,hi,if_true,Option.getD_some];exact eW _ _
def cc(n:Int):Nat:=(min (max n 0) 1024).toNat
theorem cE(Z:ai)(n:Int)(w:World):Calls Tryd.prog 76 #[.int .i64 n] w (eV cellE Z 85 w (List.replicate (cc n) zc)):=by
 obtain ⟨i0,hi,hz0,hz1,hz2⟩:=info_parts bz;have key:∀ m:Nat,m<=1024->min (max n 0) 1024=(m:Int)->Calls Tryd.prog 76 #[.int .i64 n] w (eV cellE Z 85 w (List.replicate m zc)):=by
  intro m hm he
  go_enter Tryd.func76,Tryd.ntmps76
  go_wp2_with (at_make;refine wpList_make_full w rfl (.tmp 5) (.tmp 5) 67 rfl w.heap.size 85 i0 (.agg #[.int .i64 0,.slice none 0 0]) 2 Tryd.underlying67 hi hz0 hz1 .i64 .i64 _ _ m rfl rfl rfl rfl (by rw [hz2];omega) (by unfold maxLen;omega) (Nat.le_refl _) ?_)
  intro w1 hown1 hg1;have hb1:Below w.heap.size w w1:=(Below.refl _ _).grown hg1 (Nat.le_refl _) (by intro k hk;cases hk);have ho:=ex (Z:=Z) hown1;clear hown1 hg1;go_wp2;go_ret;exact ⟨_,rfl,ho,hb1⟩
 have:=key (cc n) (by unfold cc;omega) (by unfold cc;omega);exact this
end Go.Proofs.YtechjomepdahiaaDoor
