import Derived.Test.YthdphijabffpiaaZ0
import Derived.Test.YthdphijabffpiaaMg2
import Derived.Test.YthdphijabffpiaaMg1
set_option maxRecDepth 100000
set_option linter.unusedVariables false
set_option linter.unusedSimpArgs false
set_option maxHeartbeats 400000
namespace Go.Proofs.Ythdphijabffpiaa
open Go.RowKit Go.ChangeShapes Go.WideShapes
theorem bg(k:IntKind)(T:List (Int × Int)):(aj k T).toArray.all (·.oneCell')=true:=by
 simp only [List.all_toArray,List.all_eq_true];intro v hv;unfold aj at hv;obtain ⟨p,_,h⟩:=List.mem_flatMap.1 hv
 rcases List.mem_cons.1 h with rfl | h
 ·rfl
 ·rcases List.mem_cons.1 h with rfl | h
  ·rfl
  ·cases h
theorem aJ(n:Nat):(Value.agg (Array.replicate n (.int .i32 0))).cells.size=n:=by simp [Value.cells]
theorem aS(k:IntKind)(T:List (Int × Int))(n:Nat)(h:T.length=n):(aj k T).toArray.size=2 * n:=by
 rw [List.size_toArray,eq,h]
theorem bm(w:World):Calls Try.prog 49 #[] w (Gives w (.agg (aj .i32 tControl).toArray)):=by
 have hs:=aS .i32 tControl 16 ax
 go_enter Try.func49,Try.ntmps49
 refine wp_seq ?_;refine wp_region_lit ?_;refine an rfl 78 rfl (.agg (Array.replicate 32 (.int .i32 0))) 32 (by kernel_rfl) ?_
 first
 |refine wpList_nil ?_
  change Code.wp _ _ _ _ _;refine wp_seq ?_;refine wp_region_lit ?_;refine al 17 (by kernel_rfl) ?_
 |refine al 17 (by kernel_rfl) ?_
 simp only [List.drop_succ_cons,List.drop_zero];refine wpList_store_row rfl 78 (.tmp 0) (.tmp 17) rfl w.heap.size (aj .i32 tControl).toArray (by kernel_rfl) (by kernel_rfl) 78 _ (heap_alloc_last w _) (by rw [hs];kernel_rfl) (by rw [hs];exact aJ 32) (bg _ _) ?_;refine wpList_nil ?_;rw [World.setRow_alloc_new];change Code.wp _ Code.ret _ _ _;refine wp_ret ?_;refine bodyPost_ret (results_cell_row Try.results49 _ _ w.heap.size 78 (aj .i32 tControl).toArray (0,0) _ (by kernel_rfl) (heap_alloc_last w _) Try.underlying78 rfl (by rw [hs];kernel_rfl)) (by kernel_rfl) ⟨rfl,iF _ _⟩
theorem bM(w:World):Calls Try.prog 50 #[] w (Gives w (.agg (aj .i32 tExtend).toArray)):=by
 have hs:=aS .i32 tExtend 77 aH
 go_enter Try.func50,Try.ntmps50
 refine wp_seq ?_;refine wp_region_lit ?_;refine an rfl 80 rfl (.agg (Array.replicate 154 (.int .i32 0))) 154 (by kernel_rfl) ?_
 first
 |refine wpList_nil ?_
  change Code.wp _ _ _ _ _;refine wp_seq ?_;refine wp_region_lit ?_;refine al 78 (by kernel_rfl) ?_
 |refine al 78 (by kernel_rfl) ?_
 simp only [List.drop_succ_cons,List.drop_zero];refine wpList_store_row rfl 80 (.tmp 0) (.tmp 78) rfl w.heap.size (aj .i32 tExtend).toArray (by kernel_rfl) (by kernel_rfl) 80 _ (heap_alloc_last w _) (by rw [hs];kernel_rfl) (by rw [hs];exact aJ 154) (bg _ _) ?_;refine wpList_nil ?_;rw [World.setRow_alloc_new];change Code.wp _ Code.ret _ _ _;refine wp_ret ?_;refine bodyPost_ret (results_cell_row Try.results50 _ _ w.heap.size 80 (aj .i32 tExtend).toArray (0,0) _ (by kernel_rfl) (heap_alloc_last w _) Try.underlying80 rfl (by rw [hs];kernel_rfl)) (by kernel_rfl) ⟨rfl,iF _ _⟩
theorem cO(w:World):Calls Try.prog 52 #[] w (Gives w (.agg (aj .i32 tPrepend).toArray)):=by
 have hs:=aS .i32 tPrepend 8 a7
 go_enter Try.func52,Try.ntmps52
 refine wp_seq ?_;refine wp_region_lit ?_;refine an rfl 82 rfl (.agg (Array.replicate 16 (.int .i32 0))) 16 (by kernel_rfl) ?_
 first
 |refine wpList_nil ?_
  change Code.wp _ _ _ _ _;refine wp_seq ?_;refine wp_region_lit ?_;refine al 9 (by kernel_rfl) ?_
 |refine al 9 (by kernel_rfl) ?_
 simp only [List.drop_succ_cons,List.drop_zero];refine wpList_store_row rfl 82 (.tmp 0) (.tmp 9) rfl w.heap.size (aj .i32 tPrepend).toArray (by kernel_rfl) (by kernel_rfl) 82 _ (heap_alloc_last w _) (by rw [hs];kernel_rfl) (by rw [hs];exact aJ 16) (bg _ _) ?_;refine wpList_nil ?_;rw [World.setRow_alloc_new];change Code.wp _ Code.ret _ _ _;refine wp_ret ?_;refine bodyPost_ret (results_cell_row Try.results52 _ _ w.heap.size 82 (aj .i32 tPrepend).toArray (0,0) _ (by kernel_rfl) (heap_alloc_last w _) Try.underlying82 rfl (by rw [hs];kernel_rfl)) (by kernel_rfl) ⟨rfl,iF _ _⟩
theorem bZ(w:World):Calls Try.prog 51 #[] w (Gives w (.agg (aj .i32 tSpacing).toArray)):=by
 have hs:=aS .i32 tSpacing 26 aM
 go_enter Try.func51,Try.ntmps51
 refine wp_seq ?_;refine wp_region_lit ?_;refine an rfl 61 rfl (.agg (Array.replicate 52 (.int .i32 0))) 52 (by kernel_rfl) ?_
 first
 |refine wpList_nil ?_
  change Code.wp _ _ _ _ _;refine wp_seq ?_;refine wp_region_lit ?_;refine al 27 (by kernel_rfl) ?_
 |refine al 27 (by kernel_rfl) ?_
 simp only [List.drop_succ_cons,List.drop_zero];refine wpList_store_row rfl 61 (.tmp 0) (.tmp 27) rfl w.heap.size (aj .i32 tSpacing).toArray (by kernel_rfl) (by kernel_rfl) 61 _ (heap_alloc_last w _) (by rw [hs];kernel_rfl) (by rw [hs];exact aJ 52) (bg _ _) ?_;refine wpList_nil ?_;rw [World.setRow_alloc_new];change Code.wp _ Code.ret _ _ _;refine wp_ret ?_;refine bodyPost_ret (results_cell_row Try.results51 _ _ w.heap.size 61 (aj .i32 tSpacing).toArray (0,0) _ (by kernel_rfl) (heap_alloc_last w _) Try.underlying61 rfl (by rw [hs];kernel_rfl)) (by kernel_rfl) ⟨rfl,iF _ _⟩
theorem ep(w:World):Calls Try.prog 36 #[] w (Gives w (.agg (aj .i32 tPict).toArray)):=by
 have hs:=aS .i32 tPict 78 cr
 go_enter Try.func36,Try.ntmps36
 refine wp_seq ?_;refine wp_region_lit ?_;refine an rfl 57 rfl (.agg (Array.replicate 156 (.int .i32 0))) 156 (by kernel_rfl) ?_
 first
 |refine wpList_nil ?_
  change Code.wp _ _ _ _ _;refine wp_seq ?_;refine wp_region_lit ?_;refine al 79 (by kernel_rfl) ?_
 |refine al 79 (by kernel_rfl) ?_
 simp only [List.drop_succ_cons,List.drop_zero];refine wpList_store_row rfl 57 (.tmp 0) (.tmp 79) rfl w.heap.size (aj .i32 tPict).toArray (by kernel_rfl) (by kernel_rfl) 57 _ (heap_alloc_last w _) (by rw [hs];kernel_rfl) (by rw [hs];exact aJ 156) (bg _ _) ?_;refine wpList_nil ?_;rw [World.setRow_alloc_new];change Code.wp _ Code.ret _ _ _;refine wp_ret ?_;refine bodyPost_ret (results_cell_row Try.results36 _ _ w.heap.size 57 (aj .i32 tPict).toArray (0,0) _ (by kernel_rfl) (heap_alloc_last w _) Try.underlying57 rfl (by rw [hs];kernel_rfl)) (by kernel_rfl) ⟨rfl,iF _ _⟩
theorem bn(w:World):Calls Try.prog 38 #[] w (Gives w (.agg (aj .i32 tCons).toArray)):=by
 have hs:=aS .i32 tCons 26 aT
 go_enter Try.func38,Try.ntmps38
 refine wp_seq ?_;refine wp_region_lit ?_;refine an rfl 61 rfl (.agg (Array.replicate 52 (.int .i32 0))) 52 (by kernel_rfl) ?_
 first
 |refine wpList_nil ?_
  change Code.wp _ _ _ _ _;refine wp_seq ?_;refine wp_region_lit ?_;refine al 27 (by kernel_rfl) ?_
 |refine al 27 (by kernel_rfl) ?_
 simp only [List.drop_succ_cons,List.drop_zero];refine wpList_store_row rfl 61 (.tmp 0) (.tmp 27) rfl w.heap.size (aj .i32 tCons).toArray (by kernel_rfl) (by kernel_rfl) 61 _ (heap_alloc_last w _) (by rw [hs];kernel_rfl) (by rw [hs];exact aJ 52) (bg _ _) ?_;refine wpList_nil ?_;rw [World.setRow_alloc_new];change Code.wp _ Code.ret _ _ _;refine wp_ret ?_;refine bodyPost_ret (results_cell_row Try.results38 _ _ w.heap.size 61 (aj .i32 tCons).toArray (0,0) _ (by kernel_rfl) (heap_alloc_last w _) Try.underlying61 rfl (by rw [hs];kernel_rfl)) (by kernel_rfl) ⟨rfl,iF _ _⟩
theorem ci(w:World):Calls Try.prog 39 #[] w (Gives w (.agg (aj .i32 tLink).toArray)):=by
 have hs:=aS .i32 tLink 6 bi
 go_enter Try.func39,Try.ntmps39
 refine wp_seq ?_;refine wp_region_lit ?_;refine an rfl 63 rfl (.agg (Array.replicate 12 (.int .i32 0))) 12 (by kernel_rfl) ?_
 first
 |refine wpList_nil ?_
  change Code.wp _ _ _ _ _;refine wp_seq ?_;refine wp_region_lit ?_;refine al 7 (by kernel_rfl) ?_
 |refine al 7 (by kernel_rfl) ?_
 simp only [List.drop_succ_cons,List.drop_zero];refine wpList_store_row rfl 63 (.tmp 0) (.tmp 7) rfl w.heap.size (aj .i32 tLink).toArray (by kernel_rfl) (by kernel_rfl) 63 _ (heap_alloc_last w _) (by rw [hs];kernel_rfl) (by rw [hs];exact aJ 12) (bg _ _) ?_;refine wpList_nil ?_;rw [World.setRow_alloc_new];change Code.wp _ Code.ret _ _ _;refine wp_ret ?_;refine bodyPost_ret (results_cell_row Try.results39 _ _ w.heap.size 63 (aj .i32 tLink).toArray (0,0) _ (by kernel_rfl) (heap_alloc_last w _) Try.underlying63 rfl (by rw [hs];kernel_rfl)) (by kernel_rfl) ⟨rfl,iF _ _⟩
theorem dg(w:World):Calls Try.prog 40 #[] w (Gives w (.agg (aj .i32 tJoin).toArray)):=by
 have hs:=aS .i32 tJoin 18 bF
 go_enter Try.func40,Try.ntmps40
 refine wp_seq ?_;refine wp_region_lit ?_;refine an rfl 65 rfl (.agg (Array.replicate 36 (.int .i32 0))) 36 (by kernel_rfl) ?_
 first
 |refine wpList_nil ?_
  change Code.wp _ _ _ _ _;refine wp_seq ?_;refine wp_region_lit ?_;refine al 19 (by kernel_rfl) ?_
 |refine al 19 (by kernel_rfl) ?_
 simp only [List.drop_succ_cons,List.drop_zero];refine wpList_store_row rfl 65 (.tmp 0) (.tmp 19) rfl w.heap.size (aj .i32 tJoin).toArray (by kernel_rfl) (by kernel_rfl) 65 _ (heap_alloc_last w _) (by rw [hs];kernel_rfl) (by rw [hs];exact aJ 36) (bg _ _) ?_;refine wpList_nil ?_;rw [World.setRow_alloc_new];change Code.wp _ Code.ret _ _ _;refine wp_ret ?_;refine bodyPost_ret (results_cell_row Try.results40 _ _ w.heap.size 65 (aj .i32 tJoin).toArray (0,0) _ (by kernel_rfl) (heap_alloc_last w _) Try.underlying65 rfl (by rw [hs];kernel_rfl)) (by kernel_rfl) ⟨rfl,iF _ _⟩
theorem cq(w:World):Calls Try.prog 41 #[] w (Gives w (.agg (aj .i32 tWide).toArray)):=by
 have hs:=aS .i32 tWide 109 aU
 go_enter Try.func41,Try.ntmps41
 refine wp_seq ?_;refine wp_region_lit ?_;refine an rfl 67 rfl (.agg (Array.replicate 218 (.int .i32 0))) 218 (by kernel_rfl) ?_
 first
 |refine wpList_nil ?_
  change Code.wp _ _ _ _ _;refine wp_seq ?_;refine wp_region_lit ?_;refine al 110 (by kernel_rfl) ?_
 |refine al 110 (by kernel_rfl) ?_
 simp only [List.drop_succ_cons,List.drop_zero];refine wpList_store_row rfl 67 (.tmp 0) (.tmp 110) rfl w.heap.size (aj .i32 tWide).toArray (by kernel_rfl) (by kernel_rfl) 67 _ (heap_alloc_last w _) (by rw [hs];kernel_rfl) (by rw [hs];exact aJ 218) (bg _ _) ?_;refine wpList_nil ?_;rw [World.setRow_alloc_new];change Code.wp _ Code.ret _ _ _;refine wp_ret ?_;refine bodyPost_ret (results_cell_row Try.results41 _ _ w.heap.size 67 (aj .i32 tWide).toArray (0,0) _ (by kernel_rfl) (heap_alloc_last w _) Try.underlying67 rfl (by rw [hs];kernel_rfl)) (by kernel_rfl) ⟨rfl,iF _ _⟩
theorem c7(w:World):Calls Try.prog 42 #[] w (Gives w (.agg (aj .i32 tFull).toArray)):=by
 have hs:=aS .i32 tFull 3 bj
 go_enter Try.func42,Try.ntmps42
 refine wp_seq ?_;refine wp_region_lit ?_;refine an rfl 69 rfl (.agg (Array.replicate 6 (.int .i32 0))) 6 (by kernel_rfl) ?_
 first
 |refine wpList_nil ?_
  change Code.wp _ _ _ _ _;refine wp_seq ?_;refine wp_region_lit ?_;refine al 4 (by kernel_rfl) ?_
 |refine al 4 (by kernel_rfl) ?_
 simp only [List.drop_succ_cons,List.drop_zero];refine wpList_store_row rfl 69 (.tmp 0) (.tmp 4) rfl w.heap.size (aj .i32 tFull).toArray (by kernel_rfl) (by kernel_rfl) 69 _ (heap_alloc_last w _) (by rw [hs];kernel_rfl) (by rw [hs];exact aJ 6) (bg _ _) ?_;refine wpList_nil ?_;rw [World.setRow_alloc_new];change Code.wp _ Code.ret _ _ _;refine wp_ret ?_;refine bodyPost_ret (results_cell_row Try.results42 _ _ w.heap.size 69 (aj .i32 tFull).toArray (0,0) _ (by kernel_rfl) (heap_alloc_last w _) Try.underlying69 rfl (by rw [hs];kernel_rfl)) (by kernel_rfl) ⟨rfl,iF _ _⟩
theorem dy(w:World):Calls Try.prog 43 #[] w (Gives w (.agg (aj .i32 tHalf).toArray)):=by
 have hs:=aS .i32 tHalf 7 bG
 go_enter Try.func43,Try.ntmps43
 refine wp_seq ?_;refine wp_region_lit ?_;refine an rfl 71 rfl (.agg (Array.replicate 14 (.int .i32 0))) 14 (by kernel_rfl) ?_
 first
 |refine wpList_nil ?_
  change Code.wp _ _ _ _ _;refine wp_seq ?_;refine wp_region_lit ?_;refine al 8 (by kernel_rfl) ?_
 |refine al 8 (by kernel_rfl) ?_
 simp only [List.drop_succ_cons,List.drop_zero];refine wpList_store_row rfl 71 (.tmp 0) (.tmp 8) rfl w.heap.size (aj .i32 tHalf).toArray (by kernel_rfl) (by kernel_rfl) 71 _ (heap_alloc_last w _) (by rw [hs];kernel_rfl) (by rw [hs];exact aJ 14) (bg _ _) ?_;refine wpList_nil ?_;rw [World.setRow_alloc_new];change Code.wp _ Code.ret _ _ _;refine wp_ret ?_;refine bodyPost_ret (results_cell_row Try.results43 _ _ w.heap.size 71 (aj .i32 tHalf).toArray (0,0) _ (by kernel_rfl) (heap_alloc_last w _) Try.underlying71 rfl (by rw [hs];kernel_rfl)) (by kernel_rfl) ⟨rfl,iF _ _⟩
end Go.Proofs.Ythdphijabffpiaa
