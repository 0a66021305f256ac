import Derived.Test.YthdphijabffpiaaZ0
import Derived.Test.YthdphijabffpiaaMg3
import Derived.Test.YthdphijabffpiaaHgC
import Derived.Test.YthdphijabffpiaaMg1
set_option maxRecDepth 100000
set_option linter.unusedVariables false
set_option linter.unusedSimpArgs false
set_option maxHeartbeats 1000000
namespace Go.Proofs.Ythdphijabffpiaa
open Go.RowKit Go.ChangeShapes Go.WideShapes
attribute [local go_sem] Try.zeroValue80 Try.zeroValue67
attribute [local simp] Try.zeroCells80_ne Try.zeroCells67_ne
theorem bc{w0 w1 w2 w3:World}{o:Obj}(h:Below w0.heap.size w0 w1)(b:Below w1.heap.size w1 w2)(c:Below (w2.alloc o).heap.size (w2.alloc o) w3):Below w0.heap.size w0 w3:=by
 have h2:=h.trans (b.mono h.size);exact (h2.alloc h2.size o).trans (c.mono (by have:=h2.size;simp;omega))
def ay(r:Int):Int:=if av tControl r=true then 3 else if av tExtend r=true then 4 else if av tSpacing r=true then 8 else if av tPrepend r=true then 7 else 0
def bb(r:Int):Int:=if r=13 then 1 else if r=10 then 2 else if r=8205 then 5 else if 127462<=r/\r<=127487 then 6 else if ay r=0 then aR r else ay r
def bd(r:Int):Int:=if av tCons r=true then 1 else if av tLink r=true then 2 else if av tJoin r=true then 3 else 0
def cg(r:Int):Int:=if av tWide r=true then 1 else if av tFull r=true then 2 else if av tHalf r=true then 3 else 0
theorem bY(r:Int)(w:World):Calls Try.prog 34 #[.int .i32 r] w (Gives w (.int .i64 (ay r))):=by
 have hstControl:=bl Try.prog 78 tControl #[Value.int .i32 0,Value.int .i32 0,Value.int .i32 0,Value.int .i32 0,Value.int .i32 0,Value.int .i32 0,Value.int .i32 0,Value.int .i32 0,Value.int .i32 0,Value.int .i32 0,Value.int .i32 0,Value.int .i32 0,Value.int .i32 0,Value.int .i32 0,Value.int .i32 0,Value.int .i32 0,Value.int .i32 0,Value.int .i32 0,Value.int .i32 0,Value.int .i32 0,Value.int .i32 0,Value.int .i32 0,Value.int .i32 0,Value.int .i32 0,Value.int .i32 0,Value.int .i32 0,Value.int .i32 0,Value.int .i32 0,Value.int .i32 0,Value.int .i32 0,Value.int .i32 0,Value.int .i32 0] 16 (by kernel_rfl) (by kernel_rfl) ax;have hstExtend:=bl Try.prog 80 tExtend Try.zeroCells80 77 (by kernel_rfl) (by kernel_rfl) aH;have hstSpacing:=bl Try.prog 61 tSpacing #[Value.int .i32 0,Value.int .i32 0,Value.int .i32 0,Value.int .i32 0,Value.int .i32 0,Value.int .i32 0,Value.int .i32 0,Value.int .i32 0,Value.int .i32 0,Value.int .i32 0,Value.int .i32 0,Value.int .i32 0,Value.int .i32 0,Value.int .i32 0,Value.int .i32 0,Value.int .i32 0,Value.int .i32 0,Value.int .i32 0,Value.int .i32 0,Value.int .i32 0,Value.int .i32 0,Value.int .i32 0,Value.int .i32 0,Value.int .i32 0,Value.int .i32 0,Value.int .i32 0,Value.int .i32 0,Value.int .i32 0,Value.int .i32 0,Value.int .i32 0,Value.int .i32 0,Value.int .i32 0,Value.int .i32 0,Value.int .i32 0,Value.int .i32 0,Value.int .i32 0,Value.int .i32 0,Value.int .i32 0,Value.int .i32 0,Value.int .i32 0,Value.int .i32 0,Value.int .i32 0,Value.int .i32 0,Value.int .i32 0,Value.int .i32 0,Value.int .i32 0,Value.int .i32 0,Value.int .i32 0,Value.int .i32 0,Value.int .i32 0,Value.int .i32 0,Value.int .i32 0] 26 (by kernel_rfl) (by kernel_rfl) aM;have hstPrepend:=bl Try.prog 82 tPrepend #[Value.int .i32 0,Value.int .i32 0,Value.int .i32 0,Value.int .i32 0,Value.int .i32 0,Value.int .i32 0,Value.int .i32 0,Value.int .i32 0,Value.int .i32 0,Value.int .i32 0,Value.int .i32 0,Value.int .i32 0,Value.int .i32 0,Value.int .i32 0,Value.int .i32 0,Value.int .i32 0] 8 (by kernel_rfl) (by kernel_rfl) a7
 cases q0:av tControl r with
 |true =>
  have hv:ay r=3:=by unfold ay;simp [q0]
  have HV:=aa hv;clear hv
  go_enter Try.func34,Try.ntmps34
  go_wp2_with fail
  refine (bm _).mono ?_;rintro e w01 ⟨rfl,b01⟩
  go_wp2_with fail
  refine (ap _ tControl r _ (am ax) bA (by rw [ax];decide)).mono ?_;rintro e w02 ⟨rfl,b02⟩;have hb0:=bc (Below.refl _ _) b01 b02;clear b01 b02;go_wp2;go_ret;exact ⟨az (by rw [HV.out];rfl),hb0⟩
 |false =>
  cases q1:av tExtend r with
  |true =>
   have hv:ay r=4:=by unfold ay;simp [q0,q1]
   have HV:=aa hv;clear hv
   go_enter Try.func34,Try.ntmps34
   go_wp2_with fail
   refine (bm _).mono ?_;rintro e w01 ⟨rfl,b01⟩
   go_wp2_with fail
   refine (ap _ tControl r _ (am ax) bA (by rw [ax];decide)).mono ?_;rintro e w02 ⟨rfl,b02⟩;have hb0:=bc (Below.refl _ _) b01 b02;clear b01 b02
   go_wp2_with fail
   refine (bM _).mono ?_;rintro e w11 ⟨rfl,b11⟩
   go_wp2_with fail
   refine (ap _ tExtend r _ (am aH) b8 (by rw [aH];decide)).mono ?_;rintro e w12 ⟨rfl,b12⟩;have hb1:=bc hb0 b11 b12;clear b11 b12;go_wp2;go_ret;exact ⟨az (by rw [HV.out];rfl),hb1⟩
  |false =>
   cases q2:av tSpacing r with
   |true =>
    have hv:ay r=8:=by unfold ay;simp [q0,q1,q2]
    have HV:=aa hv;clear hv
    go_enter Try.func34,Try.ntmps34
    go_wp2_with fail
    refine (bm _).mono ?_;rintro e w01 ⟨rfl,b01⟩
    go_wp2_with fail
    refine (ap _ tControl r _ (am ax) bA (by rw [ax];decide)).mono ?_;rintro e w02 ⟨rfl,b02⟩;have hb0:=bc (Below.refl _ _) b01 b02;clear b01 b02
    go_wp2_with fail
    refine (bM _).mono ?_;rintro e w11 ⟨rfl,b11⟩
    go_wp2_with fail
    refine (ap _ tExtend r _ (am aH) b8 (by rw [aH];decide)).mono ?_;rintro e w12 ⟨rfl,b12⟩;have hb1:=bc hb0 b11 b12;clear b11 b12
    go_wp2_with fail
    refine (bZ _).mono ?_;rintro e w21 ⟨rfl,b21⟩
    go_wp2_with fail
    refine (ap _ tSpacing r _ (am aM) cl (by rw [aM];decide)).mono ?_;rintro e w22 ⟨rfl,b22⟩;have hb2:=bc hb1 b21 b22;clear b21 b22;go_wp2;go_ret;exact ⟨az (by rw [HV.out];rfl),hb2⟩
   |false =>
    cases q3:av tPrepend r with
    |true =>
     have hv:ay r=7:=by unfold ay;simp [q0,q1,q2,q3]
     have HV:=aa hv;clear hv
     go_enter Try.func34,Try.ntmps34
     go_wp2_with fail
     refine (bm _).mono ?_;rintro e w01 ⟨rfl,b01⟩
     go_wp2_with fail
     refine (ap _ tControl r _ (am ax) bA (by rw [ax];decide)).mono ?_;rintro e w02 ⟨rfl,b02⟩;have hb0:=bc (Below.refl _ _) b01 b02;clear b01 b02
     go_wp2_with fail
     refine (bM _).mono ?_;rintro e w11 ⟨rfl,b11⟩
     go_wp2_with fail
     refine (ap _ tExtend r _ (am aH) b8 (by rw [aH];decide)).mono ?_;rintro e w12 ⟨rfl,b12⟩;have hb1:=bc hb0 b11 b12;clear b11 b12
     go_wp2_with fail
     refine (bZ _).mono ?_;rintro e w21 ⟨rfl,b21⟩
     go_wp2_with fail
     refine (ap _ tSpacing r _ (am aM) cl (by rw [aM];decide)).mono ?_;rintro e w22 ⟨rfl,b22⟩;have hb2:=bc hb1 b21 b22;clear b21 b22
     go_wp2_with fail
     refine (cO _).mono ?_;rintro e w31 ⟨rfl,b31⟩
     go_wp2_with fail
     refine (ap _ tPrepend r _ (am a7) dh (by rw [a7];decide)).mono ?_;rintro e w32 ⟨rfl,b32⟩;have hb3:=bc hb2 b31 b32;clear b31 b32;go_wp2;go_ret;exact ⟨az (by rw [HV.out];rfl),hb3⟩
    |false =>
     have hv:ay r=0:=by unfold ay;simp [q0,q1,q2,q3]
     have HV:=aa hv;clear hv
     go_enter Try.func34,Try.ntmps34
     go_wp2_with fail
     refine (bm _).mono ?_;rintro e w01 ⟨rfl,b01⟩
     go_wp2_with fail
     refine (ap _ tControl r _ (am ax) bA (by rw [ax];decide)).mono ?_;rintro e w02 ⟨rfl,b02⟩;have hb0:=bc (Below.refl _ _) b01 b02;clear b01 b02
     go_wp2_with fail
     refine (bM _).mono ?_;rintro e w11 ⟨rfl,b11⟩
     go_wp2_with fail
     refine (ap _ tExtend r _ (am aH) b8 (by rw [aH];decide)).mono ?_;rintro e w12 ⟨rfl,b12⟩;have hb1:=bc hb0 b11 b12;clear b11 b12
     go_wp2_with fail
     refine (bZ _).mono ?_;rintro e w21 ⟨rfl,b21⟩
     go_wp2_with fail
     refine (ap _ tSpacing r _ (am aM) cl (by rw [aM];decide)).mono ?_;rintro e w22 ⟨rfl,b22⟩;have hb2:=bc hb1 b21 b22;clear b21 b22
     go_wp2_with fail
     refine (cO _).mono ?_;rintro e w31 ⟨rfl,b31⟩
     go_wp2_with fail
     refine (ap _ tPrepend r _ (am a7) dh (by rw [a7];decide)).mono ?_;rintro e w32 ⟨rfl,b32⟩;have hb3:=bc hb2 b31 b32;clear b31 b32;go_wp2;go_ret;exact ⟨az (by rw [HV.out];rfl),hb3⟩
theorem g7(r:Int)(w:World):Calls Try.prog 28 #[.int .i32 r] w (Gives w (.int .i64 (bd r))):=by
 have hstCons:=bl Try.prog 61 tCons #[Value.int .i32 0,Value.int .i32 0,Value.int .i32 0,Value.int .i32 0,Value.int .i32 0,Value.int .i32 0,Value.int .i32 0,Value.int .i32 0,Value.int .i32 0,Value.int .i32 0,Value.int .i32 0,Value.int .i32 0,Value.int .i32 0,Value.int .i32 0,Value.int .i32 0,Value.int .i32 0,Value.int .i32 0,Value.int .i32 0,Value.int .i32 0,Value.int .i32 0,Value.int .i32 0,Value.int .i32 0,Value.int .i32 0,Value.int .i32 0,Value.int .i32 0,Value.int .i32 0,Value.int .i32 0,Value.int .i32 0,Value.int .i32 0,Value.int .i32 0,Value.int .i32 0,Value.int .i32 0,Value.int .i32 0,Value.int .i32 0,Value.int .i32 0,Value.int .i32 0,Value.int .i32 0,Value.int .i32 0,Value.int .i32 0,Value.int .i32 0,Value.int .i32 0,Value.int .i32 0,Value.int .i32 0,Value.int .i32 0,Value.int .i32 0,Value.int .i32 0,Value.int .i32 0,Value.int .i32 0,Value.int .i32 0,Value.int .i32 0,Value.int .i32 0,Value.int .i32 0] 26 (by kernel_rfl) (by kernel_rfl) aT;have hstLink:=bl Try.prog 63 tLink #[Value.int .i32 0,Value.int .i32 0,Value.int .i32 0,Value.int .i32 0,Value.int .i32 0,Value.int .i32 0,Value.int .i32 0,Value.int .i32 0,Value.int .i32 0,Value.int .i32 0,Value.int .i32 0,Value.int .i32 0] 6 (by kernel_rfl) (by kernel_rfl) bi;have hstJoin:=bl Try.prog 65 tJoin #[Value.int .i32 0,Value.int .i32 0,Value.int .i32 0,Value.int .i32 0,Value.int .i32 0,Value.int .i32 0,Value.int .i32 0,Value.int .i32 0,Value.int .i32 0,Value.int .i32 0,Value.int .i32 0,Value.int .i32 0,Value.int .i32 0,Value.int .i32 0,Value.int .i32 0,Value.int .i32 0,Value.int .i32 0,Value.int .i32 0,Value.int .i32 0,Value.int .i32 0,Value.int .i32 0,Value.int .i32 0,Value.int .i32 0,Value.int .i32 0,Value.int .i32 0,Value.int .i32 0,Value.int .i32 0,Value.int .i32 0,Value.int .i32 0,Value.int .i32 0,Value.int .i32 0,Value.int .i32 0,Value.int .i32 0,Value.int .i32 0,Value.int .i32 0,Value.int .i32 0] 18 (by kernel_rfl) (by kernel_rfl) bF
 cases q0:av tCons r with
 |true =>
  have hv:bd r=1:=by unfold bd;simp [q0]
  have HV:=aa hv;clear hv
  go_enter Try.func28,Try.ntmps28
  go_wp2_with fail
  refine (bn _).mono ?_;rintro e w01 ⟨rfl,b01⟩
  go_wp2_with fail
  refine (ap _ tCons r _ (am aT) cQ (by rw [aT];decide)).mono ?_;rintro e w02 ⟨rfl,b02⟩;have hb0:=bc (Below.refl _ _) b01 b02;clear b01 b02;go_wp2;go_ret;exact ⟨az (by rw [HV.out];rfl),hb0⟩
 |false =>
  cases q1:av tLink r with
  |true =>
   have hv:bd r=2:=by unfold bd;simp [q0,q1]
   have HV:=aa hv;clear hv
   go_enter Try.func28,Try.ntmps28
   go_wp2_with fail
   refine (bn _).mono ?_;rintro e w01 ⟨rfl,b01⟩
   go_wp2_with fail
   refine (ap _ tCons r _ (am aT) cQ (by rw [aT];decide)).mono ?_;rintro e w02 ⟨rfl,b02⟩;have hb0:=bc (Below.refl _ _) b01 b02;clear b01 b02
   go_wp2_with fail
   refine (ci _).mono ?_;rintro e w11 ⟨rfl,b11⟩
   go_wp2_with fail
   refine (ap _ tLink r _ (am bi) dA (by rw [bi];decide)).mono ?_;rintro e w12 ⟨rfl,b12⟩;have hb1:=bc hb0 b11 b12;clear b11 b12;go_wp2;go_ret;exact ⟨az (by rw [HV.out];rfl),hb1⟩
  |false =>
   cases q2:av tJoin r with
   |true =>
    have hv:bd r=3:=by unfold bd;simp [q0,q1,q2]
    have HV:=aa hv;clear hv
    go_enter Try.func28,Try.ntmps28
    go_wp2_with fail
    refine (bn _).mono ?_;rintro e w01 ⟨rfl,b01⟩
    go_wp2_with fail
    refine (ap _ tCons r _ (am aT) cQ (by rw [aT];decide)).mono ?_;rintro e w02 ⟨rfl,b02⟩;have hb0:=bc (Below.refl _ _) b01 b02;clear b01 b02
    go_wp2_with fail
    refine (ci _).mono ?_;rintro e w11 ⟨rfl,b11⟩
    go_wp2_with fail
    refine (ap _ tLink r _ (am bi) dA (by rw [bi];decide)).mono ?_;rintro e w12 ⟨rfl,b12⟩;have hb1:=bc hb0 b11 b12;clear b11 b12
    go_wp2_with fail
    refine (dg _).mono ?_;rintro e w21 ⟨rfl,b21⟩
    go_wp2_with fail
    refine (ap _ tJoin r _ (am bF) eB (by rw [bF];decide)).mono ?_;rintro e w22 ⟨rfl,b22⟩;have hb2:=bc hb1 b21 b22;clear b21 b22;go_wp2;go_ret;exact ⟨az (by rw [HV.out];rfl),hb2⟩
   |false =>
    have hv:bd r=0:=by unfold bd;simp [q0,q1,q2]
    have HV:=aa hv;clear hv
    go_enter Try.func28,Try.ntmps28
    go_wp2_with fail
    refine (bn _).mono ?_;rintro e w01 ⟨rfl,b01⟩
    go_wp2_with fail
    refine (ap _ tCons r _ (am aT) cQ (by rw [aT];decide)).mono ?_;rintro e w02 ⟨rfl,b02⟩;have hb0:=bc (Below.refl _ _) b01 b02;clear b01 b02
    go_wp2_with fail
    refine (ci _).mono ?_;rintro e w11 ⟨rfl,b11⟩
    go_wp2_with fail
    refine (ap _ tLink r _ (am bi) dA (by rw [bi];decide)).mono ?_;rintro e w12 ⟨rfl,b12⟩;have hb1:=bc hb0 b11 b12;clear b11 b12
    go_wp2_with fail
    refine (dg _).mono ?_;rintro e w21 ⟨rfl,b21⟩
    go_wp2_with fail
    refine (ap _ tJoin r _ (am bF) eB (by rw [bF];decide)).mono ?_;rintro e w22 ⟨rfl,b22⟩;have hb2:=bc hb1 b21 b22;clear b21 b22;go_wp2;go_ret;exact ⟨az (by rw [HV.out];rfl),hb2⟩
theorem gv(r:Int)(w:World):Calls Try.prog 29 #[.int .i32 r] w (Gives w (.int .i64 (cg r))):=by
 have hstWide:=bl Try.prog 67 tWide Try.zeroCells67 109 (by kernel_rfl) (by kernel_rfl) aU;have hstFull:=bl Try.prog 69 tFull #[Value.int .i32 0,Value.int .i32 0,Value.int .i32 0,Value.int .i32 0,Value.int .i32 0,Value.int .i32 0] 3 (by kernel_rfl) (by kernel_rfl) bj;have hstHalf:=bl Try.prog 71 tHalf #[Value.int .i32 0,Value.int .i32 0,Value.int .i32 0,Value.int .i32 0,Value.int .i32 0,Value.int .i32 0,Value.int .i32 0,Value.int .i32 0,Value.int .i32 0,Value.int .i32 0,Value.int .i32 0,Value.int .i32 0,Value.int .i32 0,Value.int .i32 0] 7 (by kernel_rfl) (by kernel_rfl) bG
 cases q0:av tWide r with
 |true =>
  have hv:cg r=1:=by unfold cg;simp [q0]
  have HV:=aa hv;clear hv
  go_enter Try.func29,Try.ntmps29
  go_wp2_with fail
  refine (cq _).mono ?_;rintro e w01 ⟨rfl,b01⟩
  go_wp2_with fail
  refine (ap _ tWide r _ (am aU) cR (by rw [aU];decide)).mono ?_;rintro e w02 ⟨rfl,b02⟩;have hb0:=bc (Below.refl _ _) b01 b02;clear b01 b02;go_wp2;go_ret;exact ⟨az (by rw [HV.out];rfl),hb0⟩
 |false =>
  cases q1:av tFull r with
  |true =>
   have hv:cg r=2:=by unfold cg;simp [q0,q1]
   have HV:=aa hv;clear hv
   go_enter Try.func29,Try.ntmps29
   go_wp2_with fail
   refine (cq _).mono ?_;rintro e w01 ⟨rfl,b01⟩
   go_wp2_with fail
   refine (ap _ tWide r _ (am aU) cR (by rw [aU];decide)).mono ?_;rintro e w02 ⟨rfl,b02⟩;have hb0:=bc (Below.refl _ _) b01 b02;clear b01 b02
   go_wp2_with fail
   refine (c7 _).mono ?_;rintro e w11 ⟨rfl,b11⟩
   go_wp2_with fail
   refine (ap _ tFull r _ (am bj) dB (by rw [bj];decide)).mono ?_;rintro e w12 ⟨rfl,b12⟩;have hb1:=bc hb0 b11 b12;clear b11 b12;go_wp2;go_ret;exact ⟨az (by rw [HV.out];rfl),hb1⟩
  |false =>
   cases q2:av tHalf r with
   |true =>
    have hv:cg r=3:=by unfold cg;simp [q0,q1,q2]
    have HV:=aa hv;clear hv
    go_enter Try.func29,Try.ntmps29
    go_wp2_with fail
    refine (cq _).mono ?_;rintro e w01 ⟨rfl,b01⟩
    go_wp2_with fail
    refine (ap _ tWide r _ (am aU) cR (by rw [aU];decide)).mono ?_;rintro e w02 ⟨rfl,b02⟩;have hb0:=bc (Below.refl _ _) b01 b02;clear b01 b02
    go_wp2_with fail
    refine (c7 _).mono ?_;rintro e w11 ⟨rfl,b11⟩
    go_wp2_with fail
    refine (ap _ tFull r _ (am bj) dB (by rw [bj];decide)).mono ?_;rintro e w12 ⟨rfl,b12⟩;have hb1:=bc hb0 b11 b12;clear b11 b12
    go_wp2_with fail
    refine (dy _).mono ?_;rintro e w21 ⟨rfl,b21⟩
    go_wp2_with fail
    refine (ap _ tHalf r _ (am bG) eC (by rw [bG];decide)).mono ?_;rintro e w22 ⟨rfl,b22⟩;have hb2:=bc hb1 b21 b22;clear b21 b22;go_wp2;go_ret;exact ⟨az (by rw [HV.out];rfl),hb2⟩
   |false =>
    have hv:cg r=0:=by unfold cg;simp [q0,q1,q2]
    have HV:=aa hv;clear hv
    go_enter Try.func29,Try.ntmps29
    go_wp2_with fail
    refine (cq _).mono ?_;rintro e w01 ⟨rfl,b01⟩
    go_wp2_with fail
    refine (ap _ tWide r _ (am aU) cR (by rw [aU];decide)).mono ?_;rintro e w02 ⟨rfl,b02⟩;have hb0:=bc (Below.refl _ _) b01 b02;clear b01 b02
    go_wp2_with fail
    refine (c7 _).mono ?_;rintro e w11 ⟨rfl,b11⟩
    go_wp2_with fail
    refine (ap _ tFull r _ (am bj) dB (by rw [bj];decide)).mono ?_;rintro e w12 ⟨rfl,b12⟩;have hb1:=bc hb0 b11 b12;clear b11 b12
    go_wp2_with fail
    refine (dy _).mono ?_;rintro e w21 ⟨rfl,b21⟩
    go_wp2_with fail
    refine (ap _ tHalf r _ (am bG) eC (by rw [bG];decide)).mono ?_;rintro e w22 ⟨rfl,b22⟩;have hb2:=bc hb1 b21 b22;clear b21 b22;go_wp2;go_ret;exact ⟨az (by rw [HV.out];rfl),hb2⟩
theorem g8(r:Int)(w:World):Calls Try.prog 26 #[.int .i32 r] w (Gives w (.int .i64 (bb r))):=by
 by_cases h1:r=13
 ·subst h1
  go_enter Try.func26,Try.ntmps26
  go_wp2;go_ret;exact ⟨az (by first | rfl | decide +kernel),Below.refl _ _⟩
 by_cases h2:r=10
 ·subst h2
  go_enter Try.func26,Try.ntmps26
  go_wp2;go_ret;exact ⟨az (by first | rfl | decide +kernel),Below.refl _ _⟩
 by_cases h3:r=8205
 ·subst h3
  go_enter Try.func26,Try.ntmps26
  go_wp2;go_ret;exact ⟨az (by first | rfl | decide +kernel),Below.refl _ _⟩
 have d1:(r == 13)=false:=by simpa using h1
 have d2:(r == 10)=false:=by simpa using h2
 have d3:(r == 8205)=false:=by simpa using h3
 by_cases h4:127462<=r
 ·have d4:decide (127462<=r)=true:=decide_eq_true h4
  by_cases h5:r<=127487
  ·have d5:decide (r<=127487)=true:=decide_eq_true h5;have hv:bb r=6:=by unfold bb;rw [if_neg h1,if_neg h2,if_neg h3,if_pos ⟨h4,h5⟩]
   have HV:=aa hv;clear hv h1 h2 h3
   go_enter Try.func26,Try.ntmps26
   go_wp2;go_ret;exact ⟨az (by rw [HV.out];rfl),Below.refl _ _⟩
  ·have d5:decide (r<=127487)=false:=decide_eq_false h5;have hv:bb r=if ay r=0 then aR r else ay r:=by unfold bb;rw [if_neg h1,if_neg h2,if_neg h3,if_neg (by omega)]
   have HV:=aa hv;clear hv h1 h2 h3
   by_cases h6:ay r=0
   ·rw [if_pos h6] at HV
    go_enter Try.func26,Try.ntmps26
    go_wp2_with fail
    refine (bY r _).mono ?_;rintro e w1 ⟨rfl,b1⟩;rw [h6]
    go_wp2_with fail
    refine (d7 r _).mono ?_;rintro e w' ⟨rfl,rfl⟩;go_wp2;go_ret;exact ⟨az (by rw [HV.out];rfl),b1⟩
   ·rw [if_neg h6] at HV;have d6:(ay r == 0)=false:=by simpa using h6
    go_enter Try.func26,Try.ntmps26
    go_wp2_with fail
    refine (bY r _).mono ?_;rintro e w1 ⟨rfl,b1⟩;generalize ay r=c at *;go_wp2;go_ret;exact ⟨az (by rw [HV.out];rfl),b1⟩
 ·have d4:decide (127462<=r)=false:=decide_eq_false h4;have hv:bb r=if ay r=0 then aR r else ay r:=by unfold bb;rw [if_neg h1,if_neg h2,if_neg h3,if_neg (by omega)]
  have HV:=aa hv;clear hv h1 h2 h3
  by_cases h6:ay r=0
  ·rw [if_pos h6] at HV
   go_enter Try.func26,Try.ntmps26
   go_wp2_with fail
   refine (bY r _).mono ?_;rintro e w1 ⟨rfl,b1⟩;rw [h6]
   go_wp2_with fail
   refine (d7 r _).mono ?_;rintro e w' ⟨rfl,rfl⟩;go_wp2;go_ret;exact ⟨az (by rw [HV.out];rfl),b1⟩
  ·rw [if_neg h6] at HV;have d6:(ay r == 0)=false:=by simpa using h6
   go_enter Try.func26,Try.ntmps26
   go_wp2_with fail
   refine (bY r _).mono ?_;rintro e w1 ⟨rfl,b1⟩;generalize ay r=c at *;go_wp2;go_ret;exact ⟨az (by rw [HV.out];rfl),b1⟩
end Go.Proofs.Ythdphijabffpiaa
