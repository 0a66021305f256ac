/- The tables of the program and of the reference, as their functions give them. -/
import Derived.Test.YtgkcobmbdpgceaaTabC
import Derived.Test.YtgkcobmbdpgceaaMg1
namespace Go.Proofs.Ytgkcobmbdpgceaa
open Go.RowKit Go.ChangeShapes Go.WideShapes
theorem tab_one (k : IntKind) (T : List (Int × Int)) : (tabCells k T).toArray.all (·.oneCell') = true := by
  simp only [List.all_toArray, List.all_eq_true]
  intro v hv
  unfold tabCells at hv
  obtain ⟨p, _, h⟩ := List.mem_flatMap.1 hv
  rcases List.mem_cons.1 h with rfl | h
  · rfl
  · rcases List.mem_cons.1 h with rfl | h
    · rfl
    · cases h
theorem zeros_size (n : Nat) : (Value.agg (Array.replicate n (.int .i32 0))).cells.size = n := by simp [Value.cells]
theorem tab_size (k : IntKind) (T : List (Int × Int)) (n : Nat) (h : T.length = n) : (tabCells k T).toArray.size = 2 * n := by
  rw [List.size_toArray, tabCells_len, h]
theorem wpList_assign {P : Program} {ops : Array Oper} {Q : Exit → Act → World → Prop} {w : World} {o : Oper} {rest : List Oper} {a : Act} (hg : o.guard = none) (x : Operand) (ho : o.op = .assign x)
    (h : wpList P ops Q rest (a.put o.dst (a.eval x)) w) : wpList P ops Q (o :: rest) a w := by
  refine wpList_plain hg fun K hK => ?_
  unfold Oper.wp execOp
  simp only [ho]
  exact hK _ _ h
def GivesT (k : IntKind) (w : World) (T : List (Int × Int)) (e : Ending) (w' : World) : Prop := ∃ v, e = .returned v ∧ HeldT k w' v T ∧ Below w.heap.size w w'
def tCR : List (Int × Int) := [(13, 13)]
def tLF : List (Int × Int) := [(10, 10)]
def tZWJ : List (Int × Int) := [(8205, 8205)]
def tRI : List (Int × Int) := [(127462, 127487)]
set_option maxRecDepth 100000 in
theorem controls_any (w : World) : Calls Try.prog 124 #[] w (Gives w (.agg (tabCells .i32 tControl).toArray)) := by
  have hs := tab_size .i32 tControl 16 tControl_len
  go_enter Try.func124, Try.ntmps124
  refine wp_seq ?_
  refine wp_region_lit ?_
  refine wpList_alloc_zero rfl 139 rfl (.agg (Array.replicate 32 (.int .i32 0))) 32 (by kernel_rfl) ?_
  first
  | refine wpList_nil ?_
    change Code.wp _ _ _ _ _
    refine wp_seq ?_
    refine wp_region_lit ?_
    refine wpList_builds 17 (by kernel_rfl) ?_
  | refine wpList_builds 17 (by kernel_rfl) ?_
  simp only [List.drop_succ_cons, List.drop_zero]
  refine wpList_store_row rfl 139 (.tmp 0) (.tmp 17) rfl w.heap.size (tabCells .i32 tControl).toArray (by kernel_rfl) (by kernel_rfl) 139 _ (heap_alloc_last w _) (by rw [hs]; kernel_rfl) (by rw [hs]; exact zeros_size 32) (tab_one _ _) ?_
  refine wpList_nil ?_
  rw [World.setRow_alloc_new]
  change Code.wp _ Code.ret _ _ _
  refine wp_ret ?_
  refine bodyPost_ret (results_cell_row Try.results124 _ _ w.heap.size 139 (tabCells .i32 tControl).toArray (0, 0) _ (by kernel_rfl) (heap_alloc_last w _) Try.underlying139 rfl (by rw [hs]; kernel_rfl)) (by kernel_rfl) ⟨rfl, (Below.refl _ _).alloc (Nat.le_refl _) _⟩
set_option maxRecDepth 100000 in
theorem extends_any (w : World) : Calls Try.prog 125 #[] w (Gives w (.agg (tabCells .i32 tExtend).toArray)) := by
  have hs := tab_size .i32 tExtend 77 tExtend_len
  go_enter Try.func125, Try.ntmps125
  refine wp_seq ?_
  refine wp_region_lit ?_
  refine wpList_alloc_zero rfl 141 rfl (.agg (Array.replicate 154 (.int .i32 0))) 154 (by kernel_rfl) ?_
  first
  | refine wpList_nil ?_
    change Code.wp _ _ _ _ _
    refine wp_seq ?_
    refine wp_region_lit ?_
    refine wpList_builds 78 (by kernel_rfl) ?_
  | refine wpList_builds 78 (by kernel_rfl) ?_
  simp only [List.drop_succ_cons, List.drop_zero]
  refine wpList_store_row rfl 141 (.tmp 0) (.tmp 78) rfl w.heap.size (tabCells .i32 tExtend).toArray (by kernel_rfl) (by kernel_rfl) 141 _ (heap_alloc_last w _) (by rw [hs]; kernel_rfl) (by rw [hs]; exact zeros_size 154) (tab_one _ _) ?_
  refine wpList_nil ?_
  rw [World.setRow_alloc_new]
  change Code.wp _ Code.ret _ _ _
  refine wp_ret ?_
  refine bodyPost_ret (results_cell_row Try.results125 _ _ w.heap.size 141 (tabCells .i32 tExtend).toArray (0, 0) _ (by kernel_rfl) (heap_alloc_last w _) Try.underlying141 rfl (by rw [hs]; kernel_rfl)) (by kernel_rfl) ⟨rfl, (Below.refl _ _).alloc (Nat.le_refl _) _⟩
set_option maxRecDepth 100000 in
theorem prepends_any (w : World) : Calls Try.prog 127 #[] w (Gives w (.agg (tabCells .i32 tPrepend).toArray)) := by
  have hs := tab_size .i32 tPrepend 8 tPrepend_len
  go_enter Try.func127, Try.ntmps127
  refine wp_seq ?_
  refine wp_region_lit ?_
  refine wpList_alloc_zero rfl 143 rfl (.agg (Array.replicate 16 (.int .i32 0))) 16 (by kernel_rfl) ?_
  first
  | refine wpList_nil ?_
    change Code.wp _ _ _ _ _
    refine wp_seq ?_
    refine wp_region_lit ?_
    refine wpList_builds 9 (by kernel_rfl) ?_
  | refine wpList_builds 9 (by kernel_rfl) ?_
  simp only [List.drop_succ_cons, List.drop_zero]
  refine wpList_store_row rfl 143 (.tmp 0) (.tmp 9) rfl w.heap.size (tabCells .i32 tPrepend).toArray (by kernel_rfl) (by kernel_rfl) 143 _ (heap_alloc_last w _) (by rw [hs]; kernel_rfl) (by rw [hs]; exact zeros_size 16) (tab_one _ _) ?_
  refine wpList_nil ?_
  rw [World.setRow_alloc_new]
  change Code.wp _ Code.ret _ _ _
  refine wp_ret ?_
  refine bodyPost_ret (results_cell_row Try.results127 _ _ w.heap.size 143 (tabCells .i32 tPrepend).toArray (0, 0) _ (by kernel_rfl) (heap_alloc_last w _) Try.underlying143 rfl (by rw [hs]; kernel_rfl)) (by kernel_rfl) ⟨rfl, (Below.refl _ _).alloc (Nat.le_refl _) _⟩
set_option maxRecDepth 100000 in
theorem spacings_any (w : World) : Calls Try.prog 126 #[] w (Gives w (.agg (tabCells .i32 tSpacing).toArray)) := by
  have hs := tab_size .i32 tSpacing 26 tSpacing_len
  go_enter Try.func126, Try.ntmps126
  refine wp_seq ?_
  refine wp_region_lit ?_
  refine wpList_alloc_zero rfl 118 rfl (.agg (Array.replicate 52 (.int .i32 0))) 52 (by kernel_rfl) ?_
  first
  | refine wpList_nil ?_
    change Code.wp _ _ _ _ _
    refine wp_seq ?_
    refine wp_region_lit ?_
    refine wpList_builds 27 (by kernel_rfl) ?_
  | refine wpList_builds 27 (by kernel_rfl) ?_
  simp only [List.drop_succ_cons, List.drop_zero]
  refine wpList_store_row rfl 118 (.tmp 0) (.tmp 27) rfl w.heap.size (tabCells .i32 tSpacing).toArray (by kernel_rfl) (by kernel_rfl) 118 _ (heap_alloc_last w _) (by rw [hs]; kernel_rfl) (by rw [hs]; exact zeros_size 52) (tab_one _ _) ?_
  refine wpList_nil ?_
  rw [World.setRow_alloc_new]
  change Code.wp _ Code.ret _ _ _
  refine wp_ret ?_
  refine bodyPost_ret (results_cell_row Try.results126 _ _ w.heap.size 118 (tabCells .i32 tSpacing).toArray (0, 0) _ (by kernel_rfl) (heap_alloc_last w _) Try.underlying118 rfl (by rw [hs]; kernel_rfl)) (by kernel_rfl) ⟨rfl, (Below.refl _ _).alloc (Nat.le_refl _) _⟩
set_option maxRecDepth 100000 in
theorem pictures_any (w : World) : Calls Try.prog 105 #[] w (Gives w (.agg (tabCells .i32 tPict).toArray)) := by
  have hs := tab_size .i32 tPict 78 tPict_len
  go_enter Try.func105, Try.ntmps105
  refine wp_seq ?_
  refine wp_region_lit ?_
  refine wpList_alloc_zero rfl 114 rfl (.agg (Array.replicate 156 (.int .i32 0))) 156 (by kernel_rfl) ?_
  first
  | refine wpList_nil ?_
    change Code.wp _ _ _ _ _
    refine wp_seq ?_
    refine wp_region_lit ?_
    refine wpList_builds 79 (by kernel_rfl) ?_
  | refine wpList_builds 79 (by kernel_rfl) ?_
  simp only [List.drop_succ_cons, List.drop_zero]
  refine wpList_store_row rfl 114 (.tmp 0) (.tmp 79) rfl w.heap.size (tabCells .i32 tPict).toArray (by kernel_rfl) (by kernel_rfl) 114 _ (heap_alloc_last w _) (by rw [hs]; kernel_rfl) (by rw [hs]; exact zeros_size 156) (tab_one _ _) ?_
  refine wpList_nil ?_
  rw [World.setRow_alloc_new]
  change Code.wp _ Code.ret _ _ _
  refine wp_ret ?_
  refine bodyPost_ret (results_cell_row Try.results105 _ _ w.heap.size 114 (tabCells .i32 tPict).toArray (0, 0) _ (by kernel_rfl) (heap_alloc_last w _) Try.underlying114 rfl (by rw [hs]; kernel_rfl)) (by kernel_rfl) ⟨rfl, (Below.refl _ _).alloc (Nat.le_refl _) _⟩
set_option maxRecDepth 100000 in
theorem consonants_any (w : World) : Calls Try.prog 107 #[] w (Gives w (.agg (tabCells .i32 tCons).toArray)) := by
  have hs := tab_size .i32 tCons 26 tCons_len
  go_enter Try.func107, Try.ntmps107
  refine wp_seq ?_
  refine wp_region_lit ?_
  refine wpList_alloc_zero rfl 118 rfl (.agg (Array.replicate 52 (.int .i32 0))) 52 (by kernel_rfl) ?_
  first
  | refine wpList_nil ?_
    change Code.wp _ _ _ _ _
    refine wp_seq ?_
    refine wp_region_lit ?_
    refine wpList_builds 27 (by kernel_rfl) ?_
  | refine wpList_builds 27 (by kernel_rfl) ?_
  simp only [List.drop_succ_cons, List.drop_zero]
  refine wpList_store_row rfl 118 (.tmp 0) (.tmp 27) rfl w.heap.size (tabCells .i32 tCons).toArray (by kernel_rfl) (by kernel_rfl) 118 _ (heap_alloc_last w _) (by rw [hs]; kernel_rfl) (by rw [hs]; exact zeros_size 52) (tab_one _ _) ?_
  refine wpList_nil ?_
  rw [World.setRow_alloc_new]
  change Code.wp _ Code.ret _ _ _
  refine wp_ret ?_
  refine bodyPost_ret (results_cell_row Try.results107 _ _ w.heap.size 118 (tabCells .i32 tCons).toArray (0, 0) _ (by kernel_rfl) (heap_alloc_last w _) Try.underlying118 rfl (by rw [hs]; kernel_rfl)) (by kernel_rfl) ⟨rfl, (Below.refl _ _).alloc (Nat.le_refl _) _⟩
set_option maxRecDepth 100000 in
theorem linkers_any (w : World) : Calls Try.prog 108 #[] w (Gives w (.agg (tabCells .i32 tLink).toArray)) := by
  have hs := tab_size .i32 tLink 6 tLink_len
  go_enter Try.func108, Try.ntmps108
  refine wp_seq ?_
  refine wp_region_lit ?_
  refine wpList_alloc_zero rfl 120 rfl (.agg (Array.replicate 12 (.int .i32 0))) 12 (by kernel_rfl) ?_
  first
  | refine wpList_nil ?_
    change Code.wp _ _ _ _ _
    refine wp_seq ?_
    refine wp_region_lit ?_
    refine wpList_builds 7 (by kernel_rfl) ?_
  | refine wpList_builds 7 (by kernel_rfl) ?_
  simp only [List.drop_succ_cons, List.drop_zero]
  refine wpList_store_row rfl 120 (.tmp 0) (.tmp 7) rfl w.heap.size (tabCells .i32 tLink).toArray (by kernel_rfl) (by kernel_rfl) 120 _ (heap_alloc_last w _) (by rw [hs]; kernel_rfl) (by rw [hs]; exact zeros_size 12) (tab_one _ _) ?_
  refine wpList_nil ?_
  rw [World.setRow_alloc_new]
  change Code.wp _ Code.ret _ _ _
  refine wp_ret ?_
  refine bodyPost_ret (results_cell_row Try.results108 _ _ w.heap.size 120 (tabCells .i32 tLink).toArray (0, 0) _ (by kernel_rfl) (heap_alloc_last w _) Try.underlying120 rfl (by rw [hs]; kernel_rfl)) (by kernel_rfl) ⟨rfl, (Below.refl _ _).alloc (Nat.le_refl _) _⟩
set_option maxRecDepth 100000 in
theorem joiners_any (w : World) : Calls Try.prog 109 #[] w (Gives w (.agg (tabCells .i32 tJoin).toArray)) := by
  have hs := tab_size .i32 tJoin 18 tJoin_len
  go_enter Try.func109, Try.ntmps109
  refine wp_seq ?_
  refine wp_region_lit ?_
  refine wpList_alloc_zero rfl 122 rfl (.agg (Array.replicate 36 (.int .i32 0))) 36 (by kernel_rfl) ?_
  first
  | refine wpList_nil ?_
    change Code.wp _ _ _ _ _
    refine wp_seq ?_
    refine wp_region_lit ?_
    refine wpList_builds 19 (by kernel_rfl) ?_
  | refine wpList_builds 19 (by kernel_rfl) ?_
  simp only [List.drop_succ_cons, List.drop_zero]
  refine wpList_store_row rfl 122 (.tmp 0) (.tmp 19) rfl w.heap.size (tabCells .i32 tJoin).toArray (by kernel_rfl) (by kernel_rfl) 122 _ (heap_alloc_last w _) (by rw [hs]; kernel_rfl) (by rw [hs]; exact zeros_size 36) (tab_one _ _) ?_
  refine wpList_nil ?_
  rw [World.setRow_alloc_new]
  change Code.wp _ Code.ret _ _ _
  refine wp_ret ?_
  refine bodyPost_ret (results_cell_row Try.results109 _ _ w.heap.size 122 (tabCells .i32 tJoin).toArray (0, 0) _ (by kernel_rfl) (heap_alloc_last w _) Try.underlying122 rfl (by rw [hs]; kernel_rfl)) (by kernel_rfl) ⟨rfl, (Below.refl _ _).alloc (Nat.le_refl _) _⟩
set_option maxRecDepth 100000 in
theorem wides_any (w : World) : Calls Try.prog 110 #[] w (Gives w (.agg (tabCells .i32 tWide).toArray)) := by
  have hs := tab_size .i32 tWide 109 tWide_len
  go_enter Try.func110, Try.ntmps110
  refine wp_seq ?_
  refine wp_region_lit ?_
  refine wpList_alloc_zero rfl 124 rfl (.agg (Array.replicate 218 (.int .i32 0))) 218 (by kernel_rfl) ?_
  first
  | refine wpList_nil ?_
    change Code.wp _ _ _ _ _
    refine wp_seq ?_
    refine wp_region_lit ?_
    refine wpList_builds 110 (by kernel_rfl) ?_
  | refine wpList_builds 110 (by kernel_rfl) ?_
  simp only [List.drop_succ_cons, List.drop_zero]
  refine wpList_store_row rfl 124 (.tmp 0) (.tmp 110) rfl w.heap.size (tabCells .i32 tWide).toArray (by kernel_rfl) (by kernel_rfl) 124 _ (heap_alloc_last w _) (by rw [hs]; kernel_rfl) (by rw [hs]; exact zeros_size 218) (tab_one _ _) ?_
  refine wpList_nil ?_
  rw [World.setRow_alloc_new]
  change Code.wp _ Code.ret _ _ _
  refine wp_ret ?_
  refine bodyPost_ret (results_cell_row Try.results110 _ _ w.heap.size 124 (tabCells .i32 tWide).toArray (0, 0) _ (by kernel_rfl) (heap_alloc_last w _) Try.underlying124 rfl (by rw [hs]; kernel_rfl)) (by kernel_rfl) ⟨rfl, (Below.refl _ _).alloc (Nat.le_refl _) _⟩
set_option maxRecDepth 100000 in
theorem fulls_any (w : World) : Calls Try.prog 111 #[] w (Gives w (.agg (tabCells .i32 tFull).toArray)) := by
  have hs := tab_size .i32 tFull 3 tFull_len
  go_enter Try.func111, Try.ntmps111
  refine wp_seq ?_
  refine wp_region_lit ?_
  refine wpList_alloc_zero rfl 126 rfl (.agg (Array.replicate 6 (.int .i32 0))) 6 (by kernel_rfl) ?_
  first
  | refine wpList_nil ?_
    change Code.wp _ _ _ _ _
    refine wp_seq ?_
    refine wp_region_lit ?_
    refine wpList_builds 4 (by kernel_rfl) ?_
  | refine wpList_builds 4 (by kernel_rfl) ?_
  simp only [List.drop_succ_cons, List.drop_zero]
  refine wpList_store_row rfl 126 (.tmp 0) (.tmp 4) rfl w.heap.size (tabCells .i32 tFull).toArray (by kernel_rfl) (by kernel_rfl) 126 _ (heap_alloc_last w _) (by rw [hs]; kernel_rfl) (by rw [hs]; exact zeros_size 6) (tab_one _ _) ?_
  refine wpList_nil ?_
  rw [World.setRow_alloc_new]
  change Code.wp _ Code.ret _ _ _
  refine wp_ret ?_
  refine bodyPost_ret (results_cell_row Try.results111 _ _ w.heap.size 126 (tabCells .i32 tFull).toArray (0, 0) _ (by kernel_rfl) (heap_alloc_last w _) Try.underlying126 rfl (by rw [hs]; kernel_rfl)) (by kernel_rfl) ⟨rfl, (Below.refl _ _).alloc (Nat.le_refl _) _⟩
set_option maxRecDepth 100000 in
theorem halves_any (w : World) : Calls Try.prog 112 #[] w (Gives w (.agg (tabCells .i32 tHalf).toArray)) := by
  have hs := tab_size .i32 tHalf 7 tHalf_len
  go_enter Try.func112, Try.ntmps112
  refine wp_seq ?_
  refine wp_region_lit ?_
  refine wpList_alloc_zero rfl 128 rfl (.agg (Array.replicate 14 (.int .i32 0))) 14 (by kernel_rfl) ?_
  first
  | refine wpList_nil ?_
    change Code.wp _ _ _ _ _
    refine wp_seq ?_
    refine wp_region_lit ?_
    refine wpList_builds 8 (by kernel_rfl) ?_
  | refine wpList_builds 8 (by kernel_rfl) ?_
  simp only [List.drop_succ_cons, List.drop_zero]
  refine wpList_store_row rfl 128 (.tmp 0) (.tmp 8) rfl w.heap.size (tabCells .i32 tHalf).toArray (by kernel_rfl) (by kernel_rfl) 128 _ (heap_alloc_last w _) (by rw [hs]; kernel_rfl) (by rw [hs]; exact zeros_size 14) (tab_one _ _) ?_
  refine wpList_nil ?_
  rw [World.setRow_alloc_new]
  change Code.wp _ Code.ret _ _ _
  refine wp_ret ?_
  refine bodyPost_ret (results_cell_row Try.results112 _ _ w.heap.size 128 (tabCells .i32 tHalf).toArray (0, 0) _ (by kernel_rfl) (heap_alloc_last w _) Try.underlying128 rfl (by rw [hs]; kernel_rfl)) (by kernel_rfl) ⟨rfl, (Below.refl _ _).alloc (Nat.le_refl _) _⟩
set_option maxRecDepth 100000 in
theorem r09list1_any (w : World) : Calls Try.prog 75 #[] w (GivesT .i64 w tCR) := by
  go_enter Try.func75, Try.ntmps75
  refine wp_seq ?_
  refine wp_region_lit ?_
  refine wpList_assign rfl _ rfl ?_
  first
  | refine wpList_nil ?_
    change Code.wp _ _ _ _ _
    refine wp_seq ?_
    refine wp_region_lit ?_
    refine wpList_builds 1 (by kernel_rfl) ?_
  | refine wpList_builds 1 (by kernel_rfl) ?_
  simp only [List.drop_succ_cons, List.drop_zero]
  refine wpList_buildSlice rfl 98 1 _ rfl 110 (tabCells .i64 tCR).toArray (by kernel_rfl) ?_
  refine wpList_assign rfl _ rfl ?_
  refine wpList_nil ?_
  change Code.wp _ Code.ret _ _ _
  refine wp_ret ?_
  exact bodyPost_ret (v := .slice (some ⟨w.heap.size, 0, none⟩) 1 1) (by rw [results_tmp Try.results75]; kernel_rfl) (by kernel_rfl) ⟨_, rfl, heldT_has (T := tCR) (heap_alloc_last w _), (Below.refl _ _).alloc (Nat.le_refl _) _⟩
set_option maxRecDepth 100000 in
theorem r09list2_any (w : World) : Calls Try.prog 76 #[] w (GivesT .i64 w tLF) := by
  go_enter Try.func76, Try.ntmps76
  refine wp_seq ?_
  refine wp_region_lit ?_
  refine wpList_assign rfl _ rfl ?_
  first
  | refine wpList_nil ?_
    change Code.wp _ _ _ _ _
    refine wp_seq ?_
    refine wp_region_lit ?_
    refine wpList_builds 1 (by kernel_rfl) ?_
  | refine wpList_builds 1 (by kernel_rfl) ?_
  simp only [List.drop_succ_cons, List.drop_zero]
  refine wpList_buildSlice rfl 98 1 _ rfl 110 (tabCells .i64 tLF).toArray (by kernel_rfl) ?_
  refine wpList_assign rfl _ rfl ?_
  refine wpList_nil ?_
  change Code.wp _ Code.ret _ _ _
  refine wp_ret ?_
  exact bodyPost_ret (v := .slice (some ⟨w.heap.size, 0, none⟩) 1 1) (by rw [results_tmp Try.results76]; kernel_rfl) (by kernel_rfl) ⟨_, rfl, heldT_has (T := tLF) (heap_alloc_last w _), (Below.refl _ _).alloc (Nat.le_refl _) _⟩
set_option maxRecDepth 100000 in
theorem r09list3_any (w : World) : Calls Try.prog 77 #[] w (GivesT .i64 w tControl) := by
  go_enter Try.func77, Try.ntmps77
  refine wp_seq ?_
  refine wp_region_lit ?_
  refine wpList_assign rfl _ rfl ?_
  first
  | refine wpList_nil ?_
    change Code.wp _ _ _ _ _
    refine wp_seq ?_
    refine wp_region_lit ?_
    refine wpList_builds 16 (by kernel_rfl) ?_
  | refine wpList_builds 16 (by kernel_rfl) ?_
  simp only [List.drop_succ_cons, List.drop_zero]
  refine wpList_buildSlice rfl 98 16 _ rfl 110 (tabCells .i64 tControl).toArray (by kernel_rfl) ?_
  refine wpList_assign rfl _ rfl ?_
  refine wpList_nil ?_
  change Code.wp _ Code.ret _ _ _
  refine wp_ret ?_
  exact bodyPost_ret (v := .slice (some ⟨w.heap.size, 0, none⟩) 16 16) (by rw [results_tmp Try.results77]; kernel_rfl) (by kernel_rfl) ⟨_, rfl, heldT_has (T := tControl) (heap_alloc_last w _), (Below.refl _ _).alloc (Nat.le_refl _) _⟩
set_option maxRecDepth 100000 in
theorem r09list4_any (w : World) : Calls Try.prog 78 #[] w (GivesT .i64 w tExtend) := by
  go_enter Try.func78, Try.ntmps78
  refine wp_seq ?_
  refine wp_region_lit ?_
  refine wpList_assign rfl _ rfl ?_
  first
  | refine wpList_nil ?_
    change Code.wp _ _ _ _ _
    refine wp_seq ?_
    refine wp_region_lit ?_
    refine wpList_builds 77 (by kernel_rfl) ?_
  | refine wpList_builds 77 (by kernel_rfl) ?_
  simp only [List.drop_succ_cons, List.drop_zero]
  refine wpList_buildSlice rfl 98 77 _ rfl 110 (tabCells .i64 tExtend).toArray (by kernel_rfl) ?_
  refine wpList_assign rfl _ rfl ?_
  refine wpList_nil ?_
  change Code.wp _ Code.ret _ _ _
  refine wp_ret ?_
  exact bodyPost_ret (v := .slice (some ⟨w.heap.size, 0, none⟩) 77 77) (by rw [results_tmp Try.results78]; kernel_rfl) (by kernel_rfl) ⟨_, rfl, heldT_has (T := tExtend) (heap_alloc_last w _), (Below.refl _ _).alloc (Nat.le_refl _) _⟩
set_option maxRecDepth 100000 in
theorem r09list5_any (w : World) : Calls Try.prog 79 #[] w (GivesT .i64 w tZWJ) := by
  go_enter Try.func79, Try.ntmps79
  refine wp_seq ?_
  refine wp_region_lit ?_
  refine wpList_assign rfl _ rfl ?_
  first
  | refine wpList_nil ?_
    change Code.wp _ _ _ _ _
    refine wp_seq ?_
    refine wp_region_lit ?_
    refine wpList_builds 1 (by kernel_rfl) ?_
  | refine wpList_builds 1 (by kernel_rfl) ?_
  simp only [List.drop_succ_cons, List.drop_zero]
  refine wpList_buildSlice rfl 98 1 _ rfl 110 (tabCells .i64 tZWJ).toArray (by kernel_rfl) ?_
  refine wpList_assign rfl _ rfl ?_
  refine wpList_nil ?_
  change Code.wp _ Code.ret _ _ _
  refine wp_ret ?_
  exact bodyPost_ret (v := .slice (some ⟨w.heap.size, 0, none⟩) 1 1) (by rw [results_tmp Try.results79]; kernel_rfl) (by kernel_rfl) ⟨_, rfl, heldT_has (T := tZWJ) (heap_alloc_last w _), (Below.refl _ _).alloc (Nat.le_refl _) _⟩
set_option maxRecDepth 100000 in
theorem r09list6_any (w : World) : Calls Try.prog 80 #[] w (GivesT .i64 w tRI) := by
  go_enter Try.func80, Try.ntmps80
  refine wp_seq ?_
  refine wp_region_lit ?_
  refine wpList_assign rfl _ rfl ?_
  first
  | refine wpList_nil ?_
    change Code.wp _ _ _ _ _
    refine wp_seq ?_
    refine wp_region_lit ?_
    refine wpList_builds 1 (by kernel_rfl) ?_
  | refine wpList_builds 1 (by kernel_rfl) ?_
  simp only [List.drop_succ_cons, List.drop_zero]
  refine wpList_buildSlice rfl 98 1 _ rfl 110 (tabCells .i64 tRI).toArray (by kernel_rfl) ?_
  refine wpList_assign rfl _ rfl ?_
  refine wpList_nil ?_
  change Code.wp _ Code.ret _ _ _
  refine wp_ret ?_
  exact bodyPost_ret (v := .slice (some ⟨w.heap.size, 0, none⟩) 1 1) (by rw [results_tmp Try.results80]; kernel_rfl) (by kernel_rfl) ⟨_, rfl, heldT_has (T := tRI) (heap_alloc_last w _), (Below.refl _ _).alloc (Nat.le_refl _) _⟩
set_option maxRecDepth 100000 in
theorem r09list7_any (w : World) : Calls Try.prog 81 #[] w (GivesT .i64 w tPrepend) := by
  go_enter Try.func81, Try.ntmps81
  refine wp_seq ?_
  refine wp_region_lit ?_
  refine wpList_assign rfl _ rfl ?_
  first
  | refine wpList_nil ?_
    change Code.wp _ _ _ _ _
    refine wp_seq ?_
    refine wp_region_lit ?_
    refine wpList_builds 8 (by kernel_rfl) ?_
  | refine wpList_builds 8 (by kernel_rfl) ?_
  simp only [List.drop_succ_cons, List.drop_zero]
  refine wpList_buildSlice rfl 98 8 _ rfl 110 (tabCells .i64 tPrepend).toArray (by kernel_rfl) ?_
  refine wpList_assign rfl _ rfl ?_
  refine wpList_nil ?_
  change Code.wp _ Code.ret _ _ _
  refine wp_ret ?_
  exact bodyPost_ret (v := .slice (some ⟨w.heap.size, 0, none⟩) 8 8) (by rw [results_tmp Try.results81]; kernel_rfl) (by kernel_rfl) ⟨_, rfl, heldT_has (T := tPrepend) (heap_alloc_last w _), (Below.refl _ _).alloc (Nat.le_refl _) _⟩
set_option maxRecDepth 100000 in
theorem r09list8_any (w : World) : Calls Try.prog 82 #[] w (GivesT .i64 w tSpacing) := by
  go_enter Try.func82, Try.ntmps82
  refine wp_seq ?_
  refine wp_region_lit ?_
  refine wpList_assign rfl _ rfl ?_
  first
  | refine wpList_nil ?_
    change Code.wp _ _ _ _ _
    refine wp_seq ?_
    refine wp_region_lit ?_
    refine wpList_builds 26 (by kernel_rfl) ?_
  | refine wpList_builds 26 (by kernel_rfl) ?_
  simp only [List.drop_succ_cons, List.drop_zero]
  refine wpList_buildSlice rfl 98 26 _ rfl 110 (tabCells .i64 tSpacing).toArray (by kernel_rfl) ?_
  refine wpList_assign rfl _ rfl ?_
  refine wpList_nil ?_
  change Code.wp _ Code.ret _ _ _
  refine wp_ret ?_
  exact bodyPost_ret (v := .slice (some ⟨w.heap.size, 0, none⟩) 26 26) (by rw [results_tmp Try.results82]; kernel_rfl) (by kernel_rfl) ⟨_, rfl, heldT_has (T := tSpacing) (heap_alloc_last w _), (Below.refl _ _).alloc (Nat.le_refl _) _⟩
set_option maxRecDepth 100000 in
theorem r10list_any (w : World) : Calls Try.prog 133 #[] w (GivesT .i64 w tPict) := by
  go_enter Try.func133, Try.ntmps133
  refine wp_seq ?_
  refine wp_region_lit ?_
  refine wpList_assign rfl _ rfl ?_
  first
  | refine wpList_nil ?_
    change Code.wp _ _ _ _ _
    refine wp_seq ?_
    refine wp_region_lit ?_
    refine wpList_builds 78 (by kernel_rfl) ?_
  | refine wpList_builds 78 (by kernel_rfl) ?_
  simp only [List.drop_succ_cons, List.drop_zero]
  refine wpList_buildSlice rfl 98 78 _ rfl 110 (tabCells .i64 tPict).toArray (by kernel_rfl) ?_
  refine wpList_assign rfl _ rfl ?_
  refine wpList_nil ?_
  change Code.wp _ Code.ret _ _ _
  refine wp_ret ?_
  exact bodyPost_ret (v := .slice (some ⟨w.heap.size, 0, none⟩) 78 78) (by rw [results_tmp Try.results133]; kernel_rfl) (by kernel_rfl) ⟨_, rfl, heldT_has (T := tPict) (heap_alloc_last w _), (Below.refl _ _).alloc (Nat.le_refl _) _⟩
set_option maxRecDepth 100000 in
theorem r11list1_any (w : World) : Calls Try.prog 134 #[] w (GivesT .i64 w tCons) := by
  go_enter Try.func134, Try.ntmps134
  refine wp_seq ?_
  refine wp_region_lit ?_
  refine wpList_assign rfl _ rfl ?_
  first
  | refine wpList_nil ?_
    change Code.wp _ _ _ _ _
    refine wp_seq ?_
    refine wp_region_lit ?_
    refine wpList_builds 26 (by kernel_rfl) ?_
  | refine wpList_builds 26 (by kernel_rfl) ?_
  simp only [List.drop_succ_cons, List.drop_zero]
  refine wpList_buildSlice rfl 98 26 _ rfl 110 (tabCells .i64 tCons).toArray (by kernel_rfl) ?_
  refine wpList_assign rfl _ rfl ?_
  refine wpList_nil ?_
  change Code.wp _ Code.ret _ _ _
  refine wp_ret ?_
  exact bodyPost_ret (v := .slice (some ⟨w.heap.size, 0, none⟩) 26 26) (by rw [results_tmp Try.results134]; kernel_rfl) (by kernel_rfl) ⟨_, rfl, heldT_has (T := tCons) (heap_alloc_last w _), (Below.refl _ _).alloc (Nat.le_refl _) _⟩
set_option maxRecDepth 100000 in
theorem r11list2_any (w : World) : Calls Try.prog 135 #[] w (GivesT .i64 w tLink) := by
  go_enter Try.func135, Try.ntmps135
  refine wp_seq ?_
  refine wp_region_lit ?_
  refine wpList_assign rfl _ rfl ?_
  first
  | refine wpList_nil ?_
    change Code.wp _ _ _ _ _
    refine wp_seq ?_
    refine wp_region_lit ?_
    refine wpList_builds 6 (by kernel_rfl) ?_
  | refine wpList_builds 6 (by kernel_rfl) ?_
  simp only [List.drop_succ_cons, List.drop_zero]
  refine wpList_buildSlice rfl 98 6 _ rfl 110 (tabCells .i64 tLink).toArray (by kernel_rfl) ?_
  refine wpList_assign rfl _ rfl ?_
  refine wpList_nil ?_
  change Code.wp _ Code.ret _ _ _
  refine wp_ret ?_
  exact bodyPost_ret (v := .slice (some ⟨w.heap.size, 0, none⟩) 6 6) (by rw [results_tmp Try.results135]; kernel_rfl) (by kernel_rfl) ⟨_, rfl, heldT_has (T := tLink) (heap_alloc_last w _), (Below.refl _ _).alloc (Nat.le_refl _) _⟩
set_option maxRecDepth 100000 in
theorem r11list3_any (w : World) : Calls Try.prog 136 #[] w (GivesT .i64 w tJoin) := by
  go_enter Try.func136, Try.ntmps136
  refine wp_seq ?_
  refine wp_region_lit ?_
  refine wpList_assign rfl _ rfl ?_
  first
  | refine wpList_nil ?_
    change Code.wp _ _ _ _ _
    refine wp_seq ?_
    refine wp_region_lit ?_
    refine wpList_builds 18 (by kernel_rfl) ?_
  | refine wpList_builds 18 (by kernel_rfl) ?_
  simp only [List.drop_succ_cons, List.drop_zero]
  refine wpList_buildSlice rfl 98 18 _ rfl 110 (tabCells .i64 tJoin).toArray (by kernel_rfl) ?_
  refine wpList_assign rfl _ rfl ?_
  refine wpList_nil ?_
  change Code.wp _ Code.ret _ _ _
  refine wp_ret ?_
  exact bodyPost_ret (v := .slice (some ⟨w.heap.size, 0, none⟩) 18 18) (by rw [results_tmp Try.results136]; kernel_rfl) (by kernel_rfl) ⟨_, rfl, heldT_has (T := tJoin) (heap_alloc_last w _), (Below.refl _ _).alloc (Nat.le_refl _) _⟩
set_option maxRecDepth 100000 in
theorem r12list1_any (w : World) : Calls Try.prog 137 #[] w (GivesT .i64 w tWide) := by
  go_enter Try.func137, Try.ntmps137
  refine wp_seq ?_
  refine wp_region_lit ?_
  refine wpList_assign rfl _ rfl ?_
  first
  | refine wpList_nil ?_
    change Code.wp _ _ _ _ _
    refine wp_seq ?_
    refine wp_region_lit ?_
    refine wpList_builds 109 (by kernel_rfl) ?_
  | refine wpList_builds 109 (by kernel_rfl) ?_
  simp only [List.drop_succ_cons, List.drop_zero]
  refine wpList_buildSlice rfl 98 109 _ rfl 110 (tabCells .i64 tWide).toArray (by kernel_rfl) ?_
  refine wpList_assign rfl _ rfl ?_
  refine wpList_nil ?_
  change Code.wp _ Code.ret _ _ _
  refine wp_ret ?_
  exact bodyPost_ret (v := .slice (some ⟨w.heap.size, 0, none⟩) 109 109) (by rw [results_tmp Try.results137]; kernel_rfl) (by kernel_rfl) ⟨_, rfl, heldT_has (T := tWide) (heap_alloc_last w _), (Below.refl _ _).alloc (Nat.le_refl _) _⟩
set_option maxRecDepth 100000 in
theorem r12list2_any (w : World) : Calls Try.prog 138 #[] w (GivesT .i64 w tFull) := by
  go_enter Try.func138, Try.ntmps138
  refine wp_seq ?_
  refine wp_region_lit ?_
  refine wpList_assign rfl _ rfl ?_
  first
  | refine wpList_nil ?_
    change Code.wp _ _ _ _ _
    refine wp_seq ?_
    refine wp_region_lit ?_
    refine wpList_builds 3 (by kernel_rfl) ?_
  | refine wpList_builds 3 (by kernel_rfl) ?_
  simp only [List.drop_succ_cons, List.drop_zero]
  refine wpList_buildSlice rfl 98 3 _ rfl 110 (tabCells .i64 tFull).toArray (by kernel_rfl) ?_
  refine wpList_assign rfl _ rfl ?_
  refine wpList_nil ?_
  change Code.wp _ Code.ret _ _ _
  refine wp_ret ?_
  exact bodyPost_ret (v := .slice (some ⟨w.heap.size, 0, none⟩) 3 3) (by rw [results_tmp Try.results138]; kernel_rfl) (by kernel_rfl) ⟨_, rfl, heldT_has (T := tFull) (heap_alloc_last w _), (Below.refl _ _).alloc (Nat.le_refl _) _⟩
set_option maxRecDepth 100000 in
theorem r12list3_any (w : World) : Calls Try.prog 139 #[] w (GivesT .i64 w tHalf) := by
  go_enter Try.func139, Try.ntmps139
  refine wp_seq ?_
  refine wp_region_lit ?_
  refine wpList_assign rfl _ rfl ?_
  first
  | refine wpList_nil ?_
    change Code.wp _ _ _ _ _
    refine wp_seq ?_
    refine wp_region_lit ?_
    refine wpList_builds 7 (by kernel_rfl) ?_
  | refine wpList_builds 7 (by kernel_rfl) ?_
  simp only [List.drop_succ_cons, List.drop_zero]
  refine wpList_buildSlice rfl 98 7 _ rfl 110 (tabCells .i64 tHalf).toArray (by kernel_rfl) ?_
  refine wpList_assign rfl _ rfl ?_
  refine wpList_nil ?_
  change Code.wp _ Code.ret _ _ _
  refine wp_ret ?_
  exact bodyPost_ret (v := .slice (some ⟨w.heap.size, 0, none⟩) 7 7) (by rw [results_tmp Try.results139]; kernel_rfl) (by kernel_rfl) ⟨_, rfl, heldT_has (T := tHalf) (heap_alloc_last w _), (Below.refl _ _).alloc (Nat.le_refl _) _⟩
end Go.Proofs.Ytgkcobmbdpgceaa
