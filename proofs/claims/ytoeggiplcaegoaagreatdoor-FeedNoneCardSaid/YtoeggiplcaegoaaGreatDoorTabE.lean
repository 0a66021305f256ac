/- The tables of the program and of the reference, as their functions give them. -/
import Derived.Test.YtoeggiplcaegoaaGreatDoorMg2
import Derived.Test.YtoeggiplcaegoaaGreatDoorMg1
namespace Go.Proofs.YtoeggiplcaegoaaGreatDoor
open Go.RowKit Go.ChangeShapes Go.WideShapes
theorem tab_one (k : IntKind) (T : List (Int × Int)) : (tabCells k T).toArray.all (·.oneCell') = true := by
  simp only [List.all_toArray, List.all_eq_true]
  intro v hv
  unfold tabCells at hv
  obtain ⟨p, _, h⟩ := List.mem_flatMap.1 hv
  rcases List.mem_cons.1 h with rfl | h
  · rfl
  · rcases List.mem_cons.1 h with rfl | h
    · rfl
    · cases h
theorem zeros_size (n : Nat) : (Value.agg (Array.replicate n (.int .i32 0))).cells.size = n := by simp [Value.cells]
theorem tab_size (k : IntKind) (T : List (Int × Int)) (n : Nat) (h : T.length = n) : (tabCells k T).toArray.size = 2 * n := by
  rw [List.size_toArray, tabCells_len, h]
set_option maxRecDepth 100000 in
theorem controls_any (w : World) : Calls Tryz.prog 276 #[] w (Gives w (.agg (tabCells .i32 tControl).toArray)) := by
  have hs := tab_size .i32 tControl 16 tControl_len
  go_enter Tryz.func276, Tryz.ntmps276
  refine wp_seq ?_
  refine wp_region_lit ?_
  refine wpList_alloc_zero rfl 329 rfl (.agg (Array.replicate 32 (.int .i32 0))) 32 (by kernel_rfl) ?_
  first
  | refine wpList_nil ?_
    change Code.wp _ _ _ _ _
    refine wp_seq ?_
    refine wp_region_lit ?_
    refine wpList_builds 17 (by kernel_rfl) ?_
  | refine wpList_builds 17 (by kernel_rfl) ?_
  simp only [List.drop_succ_cons, List.drop_zero]
  refine wpList_store_row rfl 329 (.tmp 0) (.tmp 17) rfl w.heap.size (tabCells .i32 tControl).toArray (by kernel_rfl) (by kernel_rfl) 329 _ (heap_alloc_last w _) (by rw [hs]; kernel_rfl) (by rw [hs]; exact zeros_size 32) (tab_one _ _) ?_
  refine wpList_nil ?_
  rw [World.setRow_alloc_new]
  change Code.wp _ Code.ret _ _ _
  refine wp_ret ?_
  refine bodyPost_ret (results_cell_row Tryz.results276 _ _ w.heap.size 329 (tabCells .i32 tControl).toArray (0, 0) _ (by kernel_rfl) (heap_alloc_last w _) Tryz.underlying329 rfl (by rw [hs]; kernel_rfl)) (by kernel_rfl) ⟨rfl, (Below.refl _ _).alloc (Nat.le_refl _) _⟩
set_option maxRecDepth 100000 in
theorem extends_any (w : World) : Calls Tryz.prog 277 #[] w (Gives w (.agg (tabCells .i32 tExtend).toArray)) := by
  have hs := tab_size .i32 tExtend 77 tExtend_len
  go_enter Tryz.func277, Tryz.ntmps277
  refine wp_seq ?_
  refine wp_region_lit ?_
  refine wpList_alloc_zero rfl 331 rfl (.agg (Array.replicate 154 (.int .i32 0))) 154 (by kernel_rfl) ?_
  first
  | refine wpList_nil ?_
    change Code.wp _ _ _ _ _
    refine wp_seq ?_
    refine wp_region_lit ?_
    refine wpList_builds 78 (by kernel_rfl) ?_
  | refine wpList_builds 78 (by kernel_rfl) ?_
  simp only [List.drop_succ_cons, List.drop_zero]
  refine wpList_store_row rfl 331 (.tmp 0) (.tmp 78) rfl w.heap.size (tabCells .i32 tExtend).toArray (by kernel_rfl) (by kernel_rfl) 331 _ (heap_alloc_last w _) (by rw [hs]; kernel_rfl) (by rw [hs]; exact zeros_size 154) (tab_one _ _) ?_
  refine wpList_nil ?_
  rw [World.setRow_alloc_new]
  change Code.wp _ Code.ret _ _ _
  refine wp_ret ?_
  refine bodyPost_ret (results_cell_row Tryz.results277 _ _ w.heap.size 331 (tabCells .i32 tExtend).toArray (0, 0) _ (by kernel_rfl) (heap_alloc_last w _) Tryz.underlying331 rfl (by rw [hs]; kernel_rfl)) (by kernel_rfl) ⟨rfl, (Below.refl _ _).alloc (Nat.le_refl _) _⟩
set_option maxRecDepth 100000 in
theorem prepends_any (w : World) : Calls Tryz.prog 279 #[] w (Gives w (.agg (tabCells .i32 tPrepend).toArray)) := by
  have hs := tab_size .i32 tPrepend 8 tPrepend_len
  go_enter Tryz.func279, Tryz.ntmps279
  refine wp_seq ?_
  refine wp_region_lit ?_
  refine wpList_alloc_zero rfl 333 rfl (.agg (Array.replicate 16 (.int .i32 0))) 16 (by kernel_rfl) ?_
  first
  | refine wpList_nil ?_
    change Code.wp _ _ _ _ _
    refine wp_seq ?_
    refine wp_region_lit ?_
    refine wpList_builds 9 (by kernel_rfl) ?_
  | refine wpList_builds 9 (by kernel_rfl) ?_
  simp only [List.drop_succ_cons, List.drop_zero]
  refine wpList_store_row rfl 333 (.tmp 0) (.tmp 9) rfl w.heap.size (tabCells .i32 tPrepend).toArray (by kernel_rfl) (by kernel_rfl) 333 _ (heap_alloc_last w _) (by rw [hs]; kernel_rfl) (by rw [hs]; exact zeros_size 16) (tab_one _ _) ?_
  refine wpList_nil ?_
  rw [World.setRow_alloc_new]
  change Code.wp _ Code.ret _ _ _
  refine wp_ret ?_
  refine bodyPost_ret (results_cell_row Tryz.results279 _ _ w.heap.size 333 (tabCells .i32 tPrepend).toArray (0, 0) _ (by kernel_rfl) (heap_alloc_last w _) Tryz.underlying333 rfl (by rw [hs]; kernel_rfl)) (by kernel_rfl) ⟨rfl, (Below.refl _ _).alloc (Nat.le_refl _) _⟩
set_option maxRecDepth 100000 in
theorem spacings_any (w : World) : Calls Tryz.prog 278 #[] w (Gives w (.agg (tabCells .i32 tSpacing).toArray)) := by
  have hs := tab_size .i32 tSpacing 26 tSpacing_len
  go_enter Tryz.func278, Tryz.ntmps278
  refine wp_seq ?_
  refine wp_region_lit ?_
  refine wpList_alloc_zero rfl 297 rfl (.agg (Array.replicate 52 (.int .i32 0))) 52 (by kernel_rfl) ?_
  first
  | refine wpList_nil ?_
    change Code.wp _ _ _ _ _
    refine wp_seq ?_
    refine wp_region_lit ?_
    refine wpList_builds 27 (by kernel_rfl) ?_
  | refine wpList_builds 27 (by kernel_rfl) ?_
  simp only [List.drop_succ_cons, List.drop_zero]
  refine wpList_store_row rfl 297 (.tmp 0) (.tmp 27) rfl w.heap.size (tabCells .i32 tSpacing).toArray (by kernel_rfl) (by kernel_rfl) 297 _ (heap_alloc_last w _) (by rw [hs]; kernel_rfl) (by rw [hs]; exact zeros_size 52) (tab_one _ _) ?_
  refine wpList_nil ?_
  rw [World.setRow_alloc_new]
  change Code.wp _ Code.ret _ _ _
  refine wp_ret ?_
  refine bodyPost_ret (results_cell_row Tryz.results278 _ _ w.heap.size 297 (tabCells .i32 tSpacing).toArray (0, 0) _ (by kernel_rfl) (heap_alloc_last w _) Tryz.underlying297 rfl (by rw [hs]; kernel_rfl)) (by kernel_rfl) ⟨rfl, (Below.refl _ _).alloc (Nat.le_refl _) _⟩
set_option maxRecDepth 100000 in
theorem pictures_any (w : World) : Calls Tryz.prog 241 #[] w (Gives w (.agg (tabCells .i32 tPict).toArray)) := by
  have hs := tab_size .i32 tPict 78 tPict_len
  go_enter Tryz.func241, Tryz.ntmps241
  refine wp_seq ?_
  refine wp_region_lit ?_
  refine wpList_alloc_zero rfl 293 rfl (.agg (Array.replicate 156 (.int .i32 0))) 156 (by kernel_rfl) ?_
  first
  | refine wpList_nil ?_
    change Code.wp _ _ _ _ _
    refine wp_seq ?_
    refine wp_region_lit ?_
    refine wpList_builds 79 (by kernel_rfl) ?_
  | refine wpList_builds 79 (by kernel_rfl) ?_
  simp only [List.drop_succ_cons, List.drop_zero]
  refine wpList_store_row rfl 293 (.tmp 0) (.tmp 79) rfl w.heap.size (tabCells .i32 tPict).toArray (by kernel_rfl) (by kernel_rfl) 293 _ (heap_alloc_last w _) (by rw [hs]; kernel_rfl) (by rw [hs]; exact zeros_size 156) (tab_one _ _) ?_
  refine wpList_nil ?_
  rw [World.setRow_alloc_new]
  change Code.wp _ Code.ret _ _ _
  refine wp_ret ?_
  refine bodyPost_ret (results_cell_row Tryz.results241 _ _ w.heap.size 293 (tabCells .i32 tPict).toArray (0, 0) _ (by kernel_rfl) (heap_alloc_last w _) Tryz.underlying293 rfl (by rw [hs]; kernel_rfl)) (by kernel_rfl) ⟨rfl, (Below.refl _ _).alloc (Nat.le_refl _) _⟩
set_option maxRecDepth 100000 in
theorem consonants_any (w : World) : Calls Tryz.prog 243 #[] w (Gives w (.agg (tabCells .i32 tCons).toArray)) := by
  have hs := tab_size .i32 tCons 26 tCons_len
  go_enter Tryz.func243, Tryz.ntmps243
  refine wp_seq ?_
  refine wp_region_lit ?_
  refine wpList_alloc_zero rfl 297 rfl (.agg (Array.replicate 52 (.int .i32 0))) 52 (by kernel_rfl) ?_
  first
  | refine wpList_nil ?_
    change Code.wp _ _ _ _ _
    refine wp_seq ?_
    refine wp_region_lit ?_
    refine wpList_builds 27 (by kernel_rfl) ?_
  | refine wpList_builds 27 (by kernel_rfl) ?_
  simp only [List.drop_succ_cons, List.drop_zero]
  refine wpList_store_row rfl 297 (.tmp 0) (.tmp 27) rfl w.heap.size (tabCells .i32 tCons).toArray (by kernel_rfl) (by kernel_rfl) 297 _ (heap_alloc_last w _) (by rw [hs]; kernel_rfl) (by rw [hs]; exact zeros_size 52) (tab_one _ _) ?_
  refine wpList_nil ?_
  rw [World.setRow_alloc_new]
  change Code.wp _ Code.ret _ _ _
  refine wp_ret ?_
  refine bodyPost_ret (results_cell_row Tryz.results243 _ _ w.heap.size 297 (tabCells .i32 tCons).toArray (0, 0) _ (by kernel_rfl) (heap_alloc_last w _) Tryz.underlying297 rfl (by rw [hs]; kernel_rfl)) (by kernel_rfl) ⟨rfl, (Below.refl _ _).alloc (Nat.le_refl _) _⟩
set_option maxRecDepth 100000 in
theorem linkers_any (w : World) : Calls Tryz.prog 244 #[] w (Gives w (.agg (tabCells .i32 tLink).toArray)) := by
  have hs := tab_size .i32 tLink 6 tLink_len
  go_enter Tryz.func244, Tryz.ntmps244
  refine wp_seq ?_
  refine wp_region_lit ?_
  refine wpList_alloc_zero rfl 299 rfl (.agg (Array.replicate 12 (.int .i32 0))) 12 (by kernel_rfl) ?_
  first
  | refine wpList_nil ?_
    change Code.wp _ _ _ _ _
    refine wp_seq ?_
    refine wp_region_lit ?_
    refine wpList_builds 7 (by kernel_rfl) ?_
  | refine wpList_builds 7 (by kernel_rfl) ?_
  simp only [List.drop_succ_cons, List.drop_zero]
  refine wpList_store_row rfl 299 (.tmp 0) (.tmp 7) rfl w.heap.size (tabCells .i32 tLink).toArray (by kernel_rfl) (by kernel_rfl) 299 _ (heap_alloc_last w _) (by rw [hs]; kernel_rfl) (by rw [hs]; exact zeros_size 12) (tab_one _ _) ?_
  refine wpList_nil ?_
  rw [World.setRow_alloc_new]
  change Code.wp _ Code.ret _ _ _
  refine wp_ret ?_
  refine bodyPost_ret (results_cell_row Tryz.results244 _ _ w.heap.size 299 (tabCells .i32 tLink).toArray (0, 0) _ (by kernel_rfl) (heap_alloc_last w _) Tryz.underlying299 rfl (by rw [hs]; kernel_rfl)) (by kernel_rfl) ⟨rfl, (Below.refl _ _).alloc (Nat.le_refl _) _⟩
set_option maxRecDepth 100000 in
theorem joiners_any (w : World) : Calls Tryz.prog 245 #[] w (Gives w (.agg (tabCells .i32 tJoin).toArray)) := by
  have hs := tab_size .i32 tJoin 18 tJoin_len
  go_enter Tryz.func245, Tryz.ntmps245
  refine wp_seq ?_
  refine wp_region_lit ?_
  refine wpList_alloc_zero rfl 301 rfl (.agg (Array.replicate 36 (.int .i32 0))) 36 (by kernel_rfl) ?_
  first
  | refine wpList_nil ?_
    change Code.wp _ _ _ _ _
    refine wp_seq ?_
    refine wp_region_lit ?_
    refine wpList_builds 19 (by kernel_rfl) ?_
  | refine wpList_builds 19 (by kernel_rfl) ?_
  simp only [List.drop_succ_cons, List.drop_zero]
  refine wpList_store_row rfl 301 (.tmp 0) (.tmp 19) rfl w.heap.size (tabCells .i32 tJoin).toArray (by kernel_rfl) (by kernel_rfl) 301 _ (heap_alloc_last w _) (by rw [hs]; kernel_rfl) (by rw [hs]; exact zeros_size 36) (tab_one _ _) ?_
  refine wpList_nil ?_
  rw [World.setRow_alloc_new]
  change Code.wp _ Code.ret _ _ _
  refine wp_ret ?_
  refine bodyPost_ret (results_cell_row Tryz.results245 _ _ w.heap.size 301 (tabCells .i32 tJoin).toArray (0, 0) _ (by kernel_rfl) (heap_alloc_last w _) Tryz.underlying301 rfl (by rw [hs]; kernel_rfl)) (by kernel_rfl) ⟨rfl, (Below.refl _ _).alloc (Nat.le_refl _) _⟩
set_option maxRecDepth 100000 in
theorem wides_any (w : World) : Calls Tryz.prog 246 #[] w (Gives w (.agg (tabCells .i32 tWide).toArray)) := by
  have hs := tab_size .i32 tWide 109 tWide_len
  go_enter Tryz.func246, Tryz.ntmps246
  refine wp_seq ?_
  refine wp_region_lit ?_
  refine wpList_alloc_zero rfl 303 rfl (.agg (Array.replicate 218 (.int .i32 0))) 218 (by kernel_rfl) ?_
  first
  | refine wpList_nil ?_
    change Code.wp _ _ _ _ _
    refine wp_seq ?_
    refine wp_region_lit ?_
    refine wpList_builds 110 (by kernel_rfl) ?_
  | refine wpList_builds 110 (by kernel_rfl) ?_
  simp only [List.drop_succ_cons, List.drop_zero]
  refine wpList_store_row rfl 303 (.tmp 0) (.tmp 110) rfl w.heap.size (tabCells .i32 tWide).toArray (by kernel_rfl) (by kernel_rfl) 303 _ (heap_alloc_last w _) (by rw [hs]; kernel_rfl) (by rw [hs]; exact zeros_size 218) (tab_one _ _) ?_
  refine wpList_nil ?_
  rw [World.setRow_alloc_new]
  change Code.wp _ Code.ret _ _ _
  refine wp_ret ?_
  refine bodyPost_ret (results_cell_row Tryz.results246 _ _ w.heap.size 303 (tabCells .i32 tWide).toArray (0, 0) _ (by kernel_rfl) (heap_alloc_last w _) Tryz.underlying303 rfl (by rw [hs]; kernel_rfl)) (by kernel_rfl) ⟨rfl, (Below.refl _ _).alloc (Nat.le_refl _) _⟩
set_option maxRecDepth 100000 in
theorem fulls_any (w : World) : Calls Tryz.prog 247 #[] w (Gives w (.agg (tabCells .i32 tFull).toArray)) := by
  have hs := tab_size .i32 tFull 3 tFull_len
  go_enter Tryz.func247, Tryz.ntmps247
  refine wp_seq ?_
  refine wp_region_lit ?_
  refine wpList_alloc_zero rfl 305 rfl (.agg (Array.replicate 6 (.int .i32 0))) 6 (by kernel_rfl) ?_
  first
  | refine wpList_nil ?_
    change Code.wp _ _ _ _ _
    refine wp_seq ?_
    refine wp_region_lit ?_
    refine wpList_builds 4 (by kernel_rfl) ?_
  | refine wpList_builds 4 (by kernel_rfl) ?_
  simp only [List.drop_succ_cons, List.drop_zero]
  refine wpList_store_row rfl 305 (.tmp 0) (.tmp 4) rfl w.heap.size (tabCells .i32 tFull).toArray (by kernel_rfl) (by kernel_rfl) 305 _ (heap_alloc_last w _) (by rw [hs]; kernel_rfl) (by rw [hs]; exact zeros_size 6) (tab_one _ _) ?_
  refine wpList_nil ?_
  rw [World.setRow_alloc_new]
  change Code.wp _ Code.ret _ _ _
  refine wp_ret ?_
  refine bodyPost_ret (results_cell_row Tryz.results247 _ _ w.heap.size 305 (tabCells .i32 tFull).toArray (0, 0) _ (by kernel_rfl) (heap_alloc_last w _) Tryz.underlying305 rfl (by rw [hs]; kernel_rfl)) (by kernel_rfl) ⟨rfl, (Below.refl _ _).alloc (Nat.le_refl _) _⟩
set_option maxRecDepth 100000 in
theorem halves_any (w : World) : Calls Tryz.prog 248 #[] w (Gives w (.agg (tabCells .i32 tHalf).toArray)) := by
  have hs := tab_size .i32 tHalf 7 tHalf_len
  go_enter Tryz.func248, Tryz.ntmps248
  refine wp_seq ?_
  refine wp_region_lit ?_
  refine wpList_alloc_zero rfl 307 rfl (.agg (Array.replicate 14 (.int .i32 0))) 14 (by kernel_rfl) ?_
  first
  | refine wpList_nil ?_
    change Code.wp _ _ _ _ _
    refine wp_seq ?_
    refine wp_region_lit ?_
    refine wpList_builds 8 (by kernel_rfl) ?_
  | refine wpList_builds 8 (by kernel_rfl) ?_
  simp only [List.drop_succ_cons, List.drop_zero]
  refine wpList_store_row rfl 307 (.tmp 0) (.tmp 8) rfl w.heap.size (tabCells .i32 tHalf).toArray (by kernel_rfl) (by kernel_rfl) 307 _ (heap_alloc_last w _) (by rw [hs]; kernel_rfl) (by rw [hs]; exact zeros_size 14) (tab_one _ _) ?_
  refine wpList_nil ?_
  rw [World.setRow_alloc_new]
  change Code.wp _ Code.ret _ _ _
  refine wp_ret ?_
  refine bodyPost_ret (results_cell_row Tryz.results248 _ _ w.heap.size 307 (tabCells .i32 tHalf).toArray (0, 0) _ (by kernel_rfl) (heap_alloc_last w _) Tryz.underlying307 rfl (by rw [hs]; kernel_rfl)) (by kernel_rfl) ⟨rfl, (Below.refl _ _).alloc (Nat.le_refl _) _⟩
end Go.Proofs.YtoeggiplcaegoaaGreatDoor
