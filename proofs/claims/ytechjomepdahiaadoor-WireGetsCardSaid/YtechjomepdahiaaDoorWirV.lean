import Derived.Test.YtechjomepdahiaaDoorZ0
import Derived.Test.YtechjomepdahiaaDoorWirK
import Derived.Test.YtechjomepdahiaaDoorMg1
import Derived.Laws.MakeOwn
set_option maxRecDepth 100000
set_option linter.unusedVariables false
set_option linter.unusedSimpArgs false
set_option maxHeartbeats 3000000
namespace Go.Proofs.YtechjomepdahiaaDoor
open Go.RowKit Go.ChangeShapes Go.WideShapes
def ix:Vw:=⟨1,1,[([(0,[])],false)],0,0,false,true⟩
theorem iy:bG ix=[76,1,1,0,0,2,0,2]:=by
 simp [bG,ix,cB,cD,lnB,cC,ci,aC,blk,clB]
theorem cM(sa:Nat->Addr)(w:World)(hs:Five w sa):Calls Tryd.prog 16 #[] w (Yes w):=by
 obtain ⟨i0,hi,hz0,mK,hz2⟩:=info_parts dC;have hMK:=run_makeSlice (P:=Tryd.prog) w 67 85 i0 _ Tryd.underlying67 hi hz0 .i64 .i64 1 1 (by decide) (by decide) (by rw [mK];decide) (by rw [hz2];decide) (by decide);rw [show (1:Int).toNat=1 from rfl,mK,show madeCells (Value.agg #[.int .i64 0,.slice none 0 0]).cells (1 * cellE.size)=[Value.int .i64 0,.slice none 0 0].toArray from by kernel_rfl] at hMK;obtain ⟨W1,hW1⟩:=ab (w.alloc (.cells [Value.int .i64 0,.slice none 0 0].toArray 85));have hb1:Below w.heap.size w W1:=by rw [hW1];exact j0 _ _
 have hc1:HeldE cellE (fun _=>True) W1 (.slice (some ⟨w.heap.size,0,none⟩) 1 1) [(0,[])]:=by
  rw [hW1];exact cq (E:=cellE) (Y:=fun _=>True) [.int .i64 0,.slice none 0 0] (0,[]) (cell_rep.2 ⟨_,rfl,HeldE.nil _ _ _⟩) (fun _ _ _=>trivial) trivial
 obtain ⟨W2,hW2⟩:=ab (W1.alloc (.cells [Value.slice (some ⟨w.heap.size,0,none⟩) 1 1,.bool false].toArray 69));have hb2:Below w.heap.size w W2:=by rw [hW2];exact hb1.alloc hb1.size _
 have hc2:HeldE lineE (fun _=>True) W2 (.slice (some ⟨W1.heap.size,0,none⟩) 1 1) [([(0,[])],false)]:=by
  rw [hW2];exact cq (E:=lineE) (Y:=fun _=>True) [.slice (some ⟨w.heap.size,0,none⟩) 1 1,.bool false] ([(0,[])],false) (line_rep.2 ⟨_,rfl,hc1⟩) (fun _ _ _=>trivial) trivial
 have hz1:W1.heap.size=w.heap.size+1:=by rw [hW1];simp
 rw [hz1] at hc2;have nX:ViewAt W2 ix (.slice (some ⟨w.heap.size+1,0,none⟩) 1 1):=⟨hc2,by decide,by decide,by decide,by decide⟩;have HA:=aa (show Calls Tryd.prog 18 #[.agg #[.int .i64 1,.int .i64 1,.slice (some ⟨w.heap.size+1,0,none⟩) 1 1,.int .i64 0,.int .i64 0,.bool false,.bool true]] W2 (fun e w'=>∃ u,e=.returned (.tuple #[u,.nilIface])/\BOwn w' W2.heap.size u (bG ix)/\Below W2.heap.size W2 w') from dW sa ix _ W2 (hs.below hb2) nX (by decide +kernel));have kP:=aa hb2;have HW:=aa (show (w.alloc (.cells #[Value.int .i64 0,.slice none 0 0] 85)).alloc (.cells #[Value.slice (some ⟨w.heap.size,0,none⟩) 1 1,.bool false] 69)=W2 from by rw [hW2,hW1]);clear hW1 hb1 hc1 hW2 hb2 hc2 nX hz1 hs;have hWv:=HW.out;clear hi hz0 mK hz2
 go_enter Tryd.func16,Tryd.ntmps16
 go_wp2_with fail
 refine HA.out.mono ?_;rintro e w3 ⟨u,rfl,ho,b3⟩;have pe:=(OwnE.held (Z:=fun _=>True) (OwnE.zone ho (Y:=fun _=>True) (fun _ _ _=>trivial)) (fun _ _ _=>trivial)).ints;rw [iy] at pe;have hcv:=cn (P:=Tryd.prog) pe 46 5 9 Tryd.underlying46 Tryd.underlying5 Tryd.underlying9;rw [show strOfNums [76,1,1,0,0,2,0,2]=⟨#[76,1,1,0,0,2,0,2]⟩ from by decide] at hcv;have HF:=aa (kP.out.trans (b3.mono kP.out.size));clear hWv HA ho pe b3;go_wp2;go_ret;exact ⟨ae,HF.out⟩
end Go.Proofs.YtechjomepdahiaaDoor
