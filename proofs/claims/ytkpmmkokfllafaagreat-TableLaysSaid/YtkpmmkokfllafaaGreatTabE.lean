/- The tables of the program and of the reference, as their functions give them. -/
import Derived.Test.YtkpmmkokfllafaaGreatTabC
import Derived.Test.YtkpmmkokfllafaaGreatMg1
namespace Go.Proofs.YtkpmmkokfllafaaGreat
open Go.RowKit Go.ChangeShapes Go.WideShapes
theorem tab_one (k : IntKind) (T : List (Int × Int)) : (tabCells k T).toArray.all (·.oneCell') = true := by
  simp only [List.all_toArray, List.all_eq_true]
  intro v hv
  unfold tabCells at hv
  obtain ⟨p, _, h⟩ := List.mem_flatMap.1 hv
  rcases List.mem_cons.1 h with rfl | h
  · rfl
  · rcases List.mem_cons.1 h with rfl | h
    · rfl
    · cases h
theorem zeros_size (n : Nat) : (Value.agg (Array.replicate n (.int .i32 0))).cells.size = n := by simp [Value.cells]
theorem tab_size (k : IntKind) (T : List (Int × Int)) (n : Nat) (h : T.length = n) : (tabCells k T).toArray.size = 2 * n := by
  rw [List.size_toArray, tabCells_len, h]
theorem wpList_assign {P : Program} {ops : Array Oper} {Q : Exit → Act → World → Prop} {w : World} {o : Oper} {rest : List Oper} {a : Act} (hg : o.guard = none) (x : Operand) (ho : o.op = .assign x)
    (h : wpList P ops Q rest (a.put o.dst (a.eval x)) w) : wpList P ops Q (o :: rest) a w := by
  refine wpList_plain hg fun K hK => ?_
  unfold Oper.wp execOp
  simp only [ho]
  exact hK _ _ h
def GivesT (k : IntKind) (w : World) (T : List (Int × Int)) (e : Ending) (w' : World) : Prop := ∃ v, e = .returned v ∧ HeldT k w' v T ∧ Below w.heap.size w w'
def tCR : List (Int × Int) := [(13, 13)]
def tLF : List (Int × Int) := [(10, 10)]
def tZWJ : List (Int × Int) := [(8205, 8205)]
def tRI : List (Int × Int) := [(127462, 127487)]
set_option maxRecDepth 100000 in
theorem controls_any (w : World) : Calls Tryz.prog 77 #[] w (Gives w (.agg (tabCells .i32 tControl).toArray)) := by
  have hs := tab_size .i32 tControl 16 tControl_len
  go_enter Tryz.func77, Tryz.ntmps77
  refine wp_seq ?_
  refine wp_region_lit ?_
  refine wpList_alloc_zero rfl 116 rfl (.agg (Array.replicate 32 (.int .i32 0))) 32 (by kernel_rfl) ?_
  first
  | refine wpList_nil ?_
    change Code.wp _ _ _ _ _
    refine wp_seq ?_
    refine wp_region_lit ?_
    refine wpList_builds 17 (by kernel_rfl) ?_
  | refine wpList_builds 17 (by kernel_rfl) ?_
  simp only [List.drop_succ_cons, List.drop_zero]
  refine wpList_store_row rfl 116 (.tmp 0) (.tmp 17) rfl w.heap.size (tabCells .i32 tControl).toArray (by kernel_rfl) (by kernel_rfl) 116 _ (heap_alloc_last w _) (by rw [hs]; kernel_rfl) (by rw [hs]; exact zeros_size 32) (tab_one _ _) ?_
  refine wpList_nil ?_
  rw [World.setRow_alloc_new]
  change Code.wp _ Code.ret _ _ _
  refine wp_ret ?_
  refine bodyPost_ret (results_cell_row Tryz.results77 _ _ w.heap.size 116 (tabCells .i32 tControl).toArray (0, 0) _ (by kernel_rfl) (heap_alloc_last w _) Tryz.underlying116 rfl (by rw [hs]; kernel_rfl)) (by kernel_rfl) ⟨rfl, (Below.refl _ _).alloc (Nat.le_refl _) _⟩
set_option maxRecDepth 100000 in
theorem extends_any (w : World) : Calls Tryz.prog 78 #[] w (Gives w (.agg (tabCells .i32 tExtend).toArray)) := by
  have hs := tab_size .i32 tExtend 77 tExtend_len
  go_enter Tryz.func78, Tryz.ntmps78
  refine wp_seq ?_
  refine wp_region_lit ?_
  refine wpList_alloc_zero rfl 118 rfl (.agg (Array.replicate 154 (.int .i32 0))) 154 (by kernel_rfl) ?_
  first
  | refine wpList_nil ?_
    change Code.wp _ _ _ _ _
    refine wp_seq ?_
    refine wp_region_lit ?_
    refine wpList_builds 78 (by kernel_rfl) ?_
  | refine wpList_builds 78 (by kernel_rfl) ?_
  simp only [List.drop_succ_cons, List.drop_zero]
  refine wpList_store_row rfl 118 (.tmp 0) (.tmp 78) rfl w.heap.size (tabCells .i32 tExtend).toArray (by kernel_rfl) (by kernel_rfl) 118 _ (heap_alloc_last w _) (by rw [hs]; kernel_rfl) (by rw [hs]; exact zeros_size 154) (tab_one _ _) ?_
  refine wpList_nil ?_
  rw [World.setRow_alloc_new]
  change Code.wp _ Code.ret _ _ _
  refine wp_ret ?_
  refine bodyPost_ret (results_cell_row Tryz.results78 _ _ w.heap.size 118 (tabCells .i32 tExtend).toArray (0, 0) _ (by kernel_rfl) (heap_alloc_last w _) Tryz.underlying118 rfl (by rw [hs]; kernel_rfl)) (by kernel_rfl) ⟨rfl, (Below.refl _ _).alloc (Nat.le_refl _) _⟩
set_option maxRecDepth 100000 in
theorem prepends_any (w : World) : Calls Tryz.prog 80 #[] w (Gives w (.agg (tabCells .i32 tPrepend).toArray)) := by
  have hs := tab_size .i32 tPrepend 8 tPrepend_len
  go_enter Tryz.func80, Tryz.ntmps80
  refine wp_seq ?_
  refine wp_region_lit ?_
  refine wpList_alloc_zero rfl 120 rfl (.agg (Array.replicate 16 (.int .i32 0))) 16 (by kernel_rfl) ?_
  first
  | refine wpList_nil ?_
    change Code.wp _ _ _ _ _
    refine wp_seq ?_
    refine wp_region_lit ?_
    refine wpList_builds 9 (by kernel_rfl) ?_
  | refine wpList_builds 9 (by kernel_rfl) ?_
  simp only [List.drop_succ_cons, List.drop_zero]
  refine wpList_store_row rfl 120 (.tmp 0) (.tmp 9) rfl w.heap.size (tabCells .i32 tPrepend).toArray (by kernel_rfl) (by kernel_rfl) 120 _ (heap_alloc_last w _) (by rw [hs]; kernel_rfl) (by rw [hs]; exact zeros_size 16) (tab_one _ _) ?_
  refine wpList_nil ?_
  rw [World.setRow_alloc_new]
  change Code.wp _ Code.ret _ _ _
  refine wp_ret ?_
  refine bodyPost_ret (results_cell_row Tryz.results80 _ _ w.heap.size 120 (tabCells .i32 tPrepend).toArray (0, 0) _ (by kernel_rfl) (heap_alloc_last w _) Tryz.underlying120 rfl (by rw [hs]; kernel_rfl)) (by kernel_rfl) ⟨rfl, (Below.refl _ _).alloc (Nat.le_refl _) _⟩
set_option maxRecDepth 100000 in
theorem spacings_any (w : World) : Calls Tryz.prog 79 #[] w (Gives w (.agg (tabCells .i32 tSpacing).toArray)) := by
  have hs := tab_size .i32 tSpacing 26 tSpacing_len
  go_enter Tryz.func79, Tryz.ntmps79
  refine wp_seq ?_
  refine wp_region_lit ?_
  refine wpList_alloc_zero rfl 89 rfl (.agg (Array.replicate 52 (.int .i32 0))) 52 (by kernel_rfl) ?_
  first
  | refine wpList_nil ?_
    change Code.wp _ _ _ _ _
    refine wp_seq ?_
    refine wp_region_lit ?_
    refine wpList_builds 27 (by kernel_rfl) ?_
  | refine wpList_builds 27 (by kernel_rfl) ?_
  simp only [List.drop_succ_cons, List.drop_zero]
  refine wpList_store_row rfl 89 (.tmp 0) (.tmp 27) rfl w.heap.size (tabCells .i32 tSpacing).toArray (by kernel_rfl) (by kernel_rfl) 89 _ (heap_alloc_last w _) (by rw [hs]; kernel_rfl) (by rw [hs]; exact zeros_size 52) (tab_one _ _) ?_
  refine wpList_nil ?_
  rw [World.setRow_alloc_new]
  change Code.wp _ Code.ret _ _ _
  refine wp_ret ?_
  refine bodyPost_ret (results_cell_row Tryz.results79 _ _ w.heap.size 89 (tabCells .i32 tSpacing).toArray (0, 0) _ (by kernel_rfl) (heap_alloc_last w _) Tryz.underlying89 rfl (by rw [hs]; kernel_rfl)) (by kernel_rfl) ⟨rfl, (Below.refl _ _).alloc (Nat.le_refl _) _⟩
set_option maxRecDepth 100000 in
theorem pictures_any (w : World) : Calls Tryz.prog 58 #[] w (Gives w (.agg (tabCells .i32 tPict).toArray)) := by
  have hs := tab_size .i32 tPict 78 tPict_len
  go_enter Tryz.func58, Tryz.ntmps58
  refine wp_seq ?_
  refine wp_region_lit ?_
  refine wpList_alloc_zero rfl 85 rfl (.agg (Array.replicate 156 (.int .i32 0))) 156 (by kernel_rfl) ?_
  first
  | refine wpList_nil ?_
    change Code.wp _ _ _ _ _
    refine wp_seq ?_
    refine wp_region_lit ?_
    refine wpList_builds 79 (by kernel_rfl) ?_
  | refine wpList_builds 79 (by kernel_rfl) ?_
  simp only [List.drop_succ_cons, List.drop_zero]
  refine wpList_store_row rfl 85 (.tmp 0) (.tmp 79) rfl w.heap.size (tabCells .i32 tPict).toArray (by kernel_rfl) (by kernel_rfl) 85 _ (heap_alloc_last w _) (by rw [hs]; kernel_rfl) (by rw [hs]; exact zeros_size 156) (tab_one _ _) ?_
  refine wpList_nil ?_
  rw [World.setRow_alloc_new]
  change Code.wp _ Code.ret _ _ _
  refine wp_ret ?_
  refine bodyPost_ret (results_cell_row Tryz.results58 _ _ w.heap.size 85 (tabCells .i32 tPict).toArray (0, 0) _ (by kernel_rfl) (heap_alloc_last w _) Tryz.underlying85 rfl (by rw [hs]; kernel_rfl)) (by kernel_rfl) ⟨rfl, (Below.refl _ _).alloc (Nat.le_refl _) _⟩
set_option maxRecDepth 100000 in
theorem consonants_any (w : World) : Calls Tryz.prog 60 #[] w (Gives w (.agg (tabCells .i32 tCons).toArray)) := by
  have hs := tab_size .i32 tCons 26 tCons_len
  go_enter Tryz.func60, Tryz.ntmps60
  refine wp_seq ?_
  refine wp_region_lit ?_
  refine wpList_alloc_zero rfl 89 rfl (.agg (Array.replicate 52 (.int .i32 0))) 52 (by kernel_rfl) ?_
  first
  | refine wpList_nil ?_
    change Code.wp _ _ _ _ _
    refine wp_seq ?_
    refine wp_region_lit ?_
    refine wpList_builds 27 (by kernel_rfl) ?_
  | refine wpList_builds 27 (by kernel_rfl) ?_
  simp only [List.drop_succ_cons, List.drop_zero]
  refine wpList_store_row rfl 89 (.tmp 0) (.tmp 27) rfl w.heap.size (tabCells .i32 tCons).toArray (by kernel_rfl) (by kernel_rfl) 89 _ (heap_alloc_last w _) (by rw [hs]; kernel_rfl) (by rw [hs]; exact zeros_size 52) (tab_one _ _) ?_
  refine wpList_nil ?_
  rw [World.setRow_alloc_new]
  change Code.wp _ Code.ret _ _ _
  refine wp_ret ?_
  refine bodyPost_ret (results_cell_row Tryz.results60 _ _ w.heap.size 89 (tabCells .i32 tCons).toArray (0, 0) _ (by kernel_rfl) (heap_alloc_last w _) Tryz.underlying89 rfl (by rw [hs]; kernel_rfl)) (by kernel_rfl) ⟨rfl, (Below.refl _ _).alloc (Nat.le_refl _) _⟩
set_option maxRecDepth 100000 in
theorem linkers_any (w : World) : Calls Tryz.prog 61 #[] w (Gives w (.agg (tabCells .i32 tLink).toArray)) := by
  have hs := tab_size .i32 tLink 6 tLink_len
  go_enter Tryz.func61, Tryz.ntmps61
  refine wp_seq ?_
  refine wp_region_lit ?_
  refine wpList_alloc_zero rfl 91 rfl (.agg (Array.replicate 12 (.int .i32 0))) 12 (by kernel_rfl) ?_
  first
  | refine wpList_nil ?_
    change Code.wp _ _ _ _ _
    refine wp_seq ?_
    refine wp_region_lit ?_
    refine wpList_builds 7 (by kernel_rfl) ?_
  | refine wpList_builds 7 (by kernel_rfl) ?_
  simp only [List.drop_succ_cons, List.drop_zero]
  refine wpList_store_row rfl 91 (.tmp 0) (.tmp 7) rfl w.heap.size (tabCells .i32 tLink).toArray (by kernel_rfl) (by kernel_rfl) 91 _ (heap_alloc_last w _) (by rw [hs]; kernel_rfl) (by rw [hs]; exact zeros_size 12) (tab_one _ _) ?_
  refine wpList_nil ?_
  rw [World.setRow_alloc_new]
  change Code.wp _ Code.ret _ _ _
  refine wp_ret ?_
  refine bodyPost_ret (results_cell_row Tryz.results61 _ _ w.heap.size 91 (tabCells .i32 tLink).toArray (0, 0) _ (by kernel_rfl) (heap_alloc_last w _) Tryz.underlying91 rfl (by rw [hs]; kernel_rfl)) (by kernel_rfl) ⟨rfl, (Below.refl _ _).alloc (Nat.le_refl _) _⟩
set_option maxRecDepth 100000 in
theorem joiners_any (w : World) : Calls Tryz.prog 62 #[] w (Gives w (.agg (tabCells .i32 tJoin).toArray)) := by
  have hs := tab_size .i32 tJoin 18 tJoin_len
  go_enter Tryz.func62, Tryz.ntmps62
  refine wp_seq ?_
  refine wp_region_lit ?_
  refine wpList_alloc_zero rfl 93 rfl (.agg (Array.replicate 36 (.int .i32 0))) 36 (by kernel_rfl) ?_
  first
  | refine wpList_nil ?_
    change Code.wp _ _ _ _ _
    refine wp_seq ?_
    refine wp_region_lit ?_
    refine wpList_builds 19 (by kernel_rfl) ?_
  | refine wpList_builds 19 (by kernel_rfl) ?_
  simp only [List.drop_succ_cons, List.drop_zero]
  refine wpList_store_row rfl 93 (.tmp 0) (.tmp 19) rfl w.heap.size (tabCells .i32 tJoin).toArray (by kernel_rfl) (by kernel_rfl) 93 _ (heap_alloc_last w _) (by rw [hs]; kernel_rfl) (by rw [hs]; exact zeros_size 36) (tab_one _ _) ?_
  refine wpList_nil ?_
  rw [World.setRow_alloc_new]
  change Code.wp _ Code.ret _ _ _
  refine wp_ret ?_
  refine bodyPost_ret (results_cell_row Tryz.results62 _ _ w.heap.size 93 (tabCells .i32 tJoin).toArray (0, 0) _ (by kernel_rfl) (heap_alloc_last w _) Tryz.underlying93 rfl (by rw [hs]; kernel_rfl)) (by kernel_rfl) ⟨rfl, (Below.refl _ _).alloc (Nat.le_refl _) _⟩
set_option maxRecDepth 100000 in
theorem wides_any (w : World) : Calls Tryz.prog 63 #[] w (Gives w (.agg (tabCells .i32 tWide).toArray)) := by
  have hs := tab_size .i32 tWide 109 tWide_len
  go_enter Tryz.func63, Tryz.ntmps63
  refine wp_seq ?_
  refine wp_region_lit ?_
  refine wpList_alloc_zero rfl 95 rfl (.agg (Array.replicate 218 (.int .i32 0))) 218 (by kernel_rfl) ?_
  first
  | refine wpList_nil ?_
    change Code.wp _ _ _ _ _
    refine wp_seq ?_
    refine wp_region_lit ?_
    refine wpList_builds 110 (by kernel_rfl) ?_
  | refine wpList_builds 110 (by kernel_rfl) ?_
  simp only [List.drop_succ_cons, List.drop_zero]
  refine wpList_store_row rfl 95 (.tmp 0) (.tmp 110) rfl w.heap.size (tabCells .i32 tWide).toArray (by kernel_rfl) (by kernel_rfl) 95 _ (heap_alloc_last w _) (by rw [hs]; kernel_rfl) (by rw [hs]; exact zeros_size 218) (tab_one _ _) ?_
  refine wpList_nil ?_
  rw [World.setRow_alloc_new]
  change Code.wp _ Code.ret _ _ _
  refine wp_ret ?_
  refine bodyPost_ret (results_cell_row Tryz.results63 _ _ w.heap.size 95 (tabCells .i32 tWide).toArray (0, 0) _ (by kernel_rfl) (heap_alloc_last w _) Tryz.underlying95 rfl (by rw [hs]; kernel_rfl)) (by kernel_rfl) ⟨rfl, (Below.refl _ _).alloc (Nat.le_refl _) _⟩
set_option maxRecDepth 100000 in
theorem fulls_any (w : World) : Calls Tryz.prog 64 #[] w (Gives w (.agg (tabCells .i32 tFull).toArray)) := by
  have hs := tab_size .i32 tFull 3 tFull_len
  go_enter Tryz.func64, Tryz.ntmps64
  refine wp_seq ?_
  refine wp_region_lit ?_
  refine wpList_alloc_zero rfl 97 rfl (.agg (Array.replicate 6 (.int .i32 0))) 6 (by kernel_rfl) ?_
  first
  | refine wpList_nil ?_
    change Code.wp _ _ _ _ _
    refine wp_seq ?_
    refine wp_region_lit ?_
    refine wpList_builds 4 (by kernel_rfl) ?_
  | refine wpList_builds 4 (by kernel_rfl) ?_
  simp only [List.drop_succ_cons, List.drop_zero]
  refine wpList_store_row rfl 97 (.tmp 0) (.tmp 4) rfl w.heap.size (tabCells .i32 tFull).toArray (by kernel_rfl) (by kernel_rfl) 97 _ (heap_alloc_last w _) (by rw [hs]; kernel_rfl) (by rw [hs]; exact zeros_size 6) (tab_one _ _) ?_
  refine wpList_nil ?_
  rw [World.setRow_alloc_new]
  change Code.wp _ Code.ret _ _ _
  refine wp_ret ?_
  refine bodyPost_ret (results_cell_row Tryz.results64 _ _ w.heap.size 97 (tabCells .i32 tFull).toArray (0, 0) _ (by kernel_rfl) (heap_alloc_last w _) Tryz.underlying97 rfl (by rw [hs]; kernel_rfl)) (by kernel_rfl) ⟨rfl, (Below.refl _ _).alloc (Nat.le_refl _) _⟩
set_option maxRecDepth 100000 in
theorem halves_any (w : World) : Calls Tryz.prog 65 #[] w (Gives w (.agg (tabCells .i32 tHalf).toArray)) := by
  have hs := tab_size .i32 tHalf 7 tHalf_len
  go_enter Tryz.func65, Tryz.ntmps65
  refine wp_seq ?_
  refine wp_region_lit ?_
  refine wpList_alloc_zero rfl 99 rfl (.agg (Array.replicate 14 (.int .i32 0))) 14 (by kernel_rfl) ?_
  first
  | refine wpList_nil ?_
    change Code.wp _ _ _ _ _
    refine wp_seq ?_
    refine wp_region_lit ?_
    refine wpList_builds 8 (by kernel_rfl) ?_
  | refine wpList_builds 8 (by kernel_rfl) ?_
  simp only [List.drop_succ_cons, List.drop_zero]
  refine wpList_store_row rfl 99 (.tmp 0) (.tmp 8) rfl w.heap.size (tabCells .i32 tHalf).toArray (by kernel_rfl) (by kernel_rfl) 99 _ (heap_alloc_last w _) (by rw [hs]; kernel_rfl) (by rw [hs]; exact zeros_size 14) (tab_one _ _) ?_
  refine wpList_nil ?_
  rw [World.setRow_alloc_new]
  change Code.wp _ Code.ret _ _ _
  refine wp_ret ?_
  refine bodyPost_ret (results_cell_row Tryz.results65 _ _ w.heap.size 99 (tabCells .i32 tHalf).toArray (0, 0) _ (by kernel_rfl) (heap_alloc_last w _) Tryz.underlying99 rfl (by rw [hs]; kernel_rfl)) (by kernel_rfl) ⟨rfl, (Below.refl _ _).alloc (Nat.le_refl _) _⟩
set_option maxRecDepth 100000 in
theorem r09list1_any (w : World) : Calls Tryz.prog 96 #[] w (GivesT .i64 w tCR) := by
  go_enter Tryz.func96, Tryz.ntmps96
  refine wp_seq ?_
  refine wp_region_lit ?_
  refine wpList_assign rfl _ rfl ?_
  first
  | refine wpList_nil ?_
    change Code.wp _ _ _ _ _
    refine wp_seq ?_
    refine wp_region_lit ?_
    refine wpList_builds 1 (by kernel_rfl) ?_
  | refine wpList_builds 1 (by kernel_rfl) ?_
  simp only [List.drop_succ_cons, List.drop_zero]
  refine wpList_buildSlice rfl 127 1 _ rfl 131 (tabCells .i64 tCR).toArray (by kernel_rfl) ?_
  refine wpList_assign rfl _ rfl ?_
  refine wpList_nil ?_
  change Code.wp _ Code.ret _ _ _
  refine wp_ret ?_
  exact bodyPost_ret (v := .slice (some ⟨w.heap.size, 0, none⟩) 1 1) (by rw [results_tmp Tryz.results96]; kernel_rfl) (by kernel_rfl) ⟨_, rfl, heldT_has (T := tCR) (heap_alloc_last w _), (Below.refl _ _).alloc (Nat.le_refl _) _⟩
set_option maxRecDepth 100000 in
theorem r09list2_any (w : World) : Calls Tryz.prog 97 #[] w (GivesT .i64 w tLF) := by
  go_enter Tryz.func97, Tryz.ntmps97
  refine wp_seq ?_
  refine wp_region_lit ?_
  refine wpList_assign rfl _ rfl ?_
  first
  | refine wpList_nil ?_
    change Code.wp _ _ _ _ _
    refine wp_seq ?_
    refine wp_region_lit ?_
    refine wpList_builds 1 (by kernel_rfl) ?_
  | refine wpList_builds 1 (by kernel_rfl) ?_
  simp only [List.drop_succ_cons, List.drop_zero]
  refine wpList_buildSlice rfl 127 1 _ rfl 131 (tabCells .i64 tLF).toArray (by kernel_rfl) ?_
  refine wpList_assign rfl _ rfl ?_
  refine wpList_nil ?_
  change Code.wp _ Code.ret _ _ _
  refine wp_ret ?_
  exact bodyPost_ret (v := .slice (some ⟨w.heap.size, 0, none⟩) 1 1) (by rw [results_tmp Tryz.results97]; kernel_rfl) (by kernel_rfl) ⟨_, rfl, heldT_has (T := tLF) (heap_alloc_last w _), (Below.refl _ _).alloc (Nat.le_refl _) _⟩
set_option maxRecDepth 100000 in
theorem r09list3_any (w : World) : Calls Tryz.prog 98 #[] w (GivesT .i64 w tControl) := by
  go_enter Tryz.func98, Tryz.ntmps98
  refine wp_seq ?_
  refine wp_region_lit ?_
  refine wpList_assign rfl _ rfl ?_
  first
  | refine wpList_nil ?_
    change Code.wp _ _ _ _ _
    refine wp_seq ?_
    refine wp_region_lit ?_
    refine wpList_builds 16 (by kernel_rfl) ?_
  | refine wpList_builds 16 (by kernel_rfl) ?_
  simp only [List.drop_succ_cons, List.drop_zero]
  refine wpList_buildSlice rfl 127 16 _ rfl 131 (tabCells .i64 tControl).toArray (by kernel_rfl) ?_
  refine wpList_assign rfl _ rfl ?_
  refine wpList_nil ?_
  change Code.wp _ Code.ret _ _ _
  refine wp_ret ?_
  exact bodyPost_ret (v := .slice (some ⟨w.heap.size, 0, none⟩) 16 16) (by rw [results_tmp Tryz.results98]; kernel_rfl) (by kernel_rfl) ⟨_, rfl, heldT_has (T := tControl) (heap_alloc_last w _), (Below.refl _ _).alloc (Nat.le_refl _) _⟩
set_option maxRecDepth 100000 in
theorem r09list4_any (w : World) : Calls Tryz.prog 99 #[] w (GivesT .i64 w tExtend) := by
  go_enter Tryz.func99, Tryz.ntmps99
  refine wp_seq ?_
  refine wp_region_lit ?_
  refine wpList_assign rfl _ rfl ?_
  first
  | refine wpList_nil ?_
    change Code.wp _ _ _ _ _
    refine wp_seq ?_
    refine wp_region_lit ?_
    refine wpList_builds 77 (by kernel_rfl) ?_
  | refine wpList_builds 77 (by kernel_rfl) ?_
  simp only [List.drop_succ_cons, List.drop_zero]
  refine wpList_buildSlice rfl 127 77 _ rfl 131 (tabCells .i64 tExtend).toArray (by kernel_rfl) ?_
  refine wpList_assign rfl _ rfl ?_
  refine wpList_nil ?_
  change Code.wp _ Code.ret _ _ _
  refine wp_ret ?_
  exact bodyPost_ret (v := .slice (some ⟨w.heap.size, 0, none⟩) 77 77) (by rw [results_tmp Tryz.results99]; kernel_rfl) (by kernel_rfl) ⟨_, rfl, heldT_has (T := tExtend) (heap_alloc_last w _), (Below.refl _ _).alloc (Nat.le_refl _) _⟩
set_option maxRecDepth 100000 in
theorem r09list5_any (w : World) : Calls Tryz.prog 100 #[] w (GivesT .i64 w tZWJ) := by
  go_enter Tryz.func100, Tryz.ntmps100
  refine wp_seq ?_
  refine wp_region_lit ?_
  refine wpList_assign rfl _ rfl ?_
  first
  | refine wpList_nil ?_
    change Code.wp _ _ _ _ _
    refine wp_seq ?_
    refine wp_region_lit ?_
    refine wpList_builds 1 (by kernel_rfl) ?_
  | refine wpList_builds 1 (by kernel_rfl) ?_
  simp only [List.drop_succ_cons, List.drop_zero]
  refine wpList_buildSlice rfl 127 1 _ rfl 131 (tabCells .i64 tZWJ).toArray (by kernel_rfl) ?_
  refine wpList_assign rfl _ rfl ?_
  refine wpList_nil ?_
  change Code.wp _ Code.ret _ _ _
  refine wp_ret ?_
  exact bodyPost_ret (v := .slice (some ⟨w.heap.size, 0, none⟩) 1 1) (by rw [results_tmp Tryz.results100]; kernel_rfl) (by kernel_rfl) ⟨_, rfl, heldT_has (T := tZWJ) (heap_alloc_last w _), (Below.refl _ _).alloc (Nat.le_refl _) _⟩
set_option maxRecDepth 100000 in
theorem r09list6_any (w : World) : Calls Tryz.prog 101 #[] w (GivesT .i64 w tRI) := by
  go_enter Tryz.func101, Tryz.ntmps101
  refine wp_seq ?_
  refine wp_region_lit ?_
  refine wpList_assign rfl _ rfl ?_
  first
  | refine wpList_nil ?_
    change Code.wp _ _ _ _ _
    refine wp_seq ?_
    refine wp_region_lit ?_
    refine wpList_builds 1 (by kernel_rfl) ?_
  | refine wpList_builds 1 (by kernel_rfl) ?_
  simp only [List.drop_succ_cons, List.drop_zero]
  refine wpList_buildSlice rfl 127 1 _ rfl 131 (tabCells .i64 tRI).toArray (by kernel_rfl) ?_
  refine wpList_assign rfl _ rfl ?_
  refine wpList_nil ?_
  change Code.wp _ Code.ret _ _ _
  refine wp_ret ?_
  exact bodyPost_ret (v := .slice (some ⟨w.heap.size, 0, none⟩) 1 1) (by rw [results_tmp Tryz.results101]; kernel_rfl) (by kernel_rfl) ⟨_, rfl, heldT_has (T := tRI) (heap_alloc_last w _), (Below.refl _ _).alloc (Nat.le_refl _) _⟩
set_option maxRecDepth 100000 in
theorem r09list7_any (w : World) : Calls Tryz.prog 102 #[] w (GivesT .i64 w tPrepend) := by
  go_enter Tryz.func102, Tryz.ntmps102
  refine wp_seq ?_
  refine wp_region_lit ?_
  refine wpList_assign rfl _ rfl ?_
  first
  | refine wpList_nil ?_
    change Code.wp _ _ _ _ _
    refine wp_seq ?_
    refine wp_region_lit ?_
    refine wpList_builds 8 (by kernel_rfl) ?_
  | refine wpList_builds 8 (by kernel_rfl) ?_
  simp only [List.drop_succ_cons, List.drop_zero]
  refine wpList_buildSlice rfl 127 8 _ rfl 131 (tabCells .i64 tPrepend).toArray (by kernel_rfl) ?_
  refine wpList_assign rfl _ rfl ?_
  refine wpList_nil ?_
  change Code.wp _ Code.ret _ _ _
  refine wp_ret ?_
  exact bodyPost_ret (v := .slice (some ⟨w.heap.size, 0, none⟩) 8 8) (by rw [results_tmp Tryz.results102]; kernel_rfl) (by kernel_rfl) ⟨_, rfl, heldT_has (T := tPrepend) (heap_alloc_last w _), (Below.refl _ _).alloc (Nat.le_refl _) _⟩
set_option maxRecDepth 100000 in
theorem r09list8_any (w : World) : Calls Tryz.prog 103 #[] w (GivesT .i64 w tSpacing) := by
  go_enter Tryz.func103, Tryz.ntmps103
  refine wp_seq ?_
  refine wp_region_lit ?_
  refine wpList_assign rfl _ rfl ?_
  first
  | refine wpList_nil ?_
    change Code.wp _ _ _ _ _
    refine wp_seq ?_
    refine wp_region_lit ?_
    refine wpList_builds 26 (by kernel_rfl) ?_
  | refine wpList_builds 26 (by kernel_rfl) ?_
  simp only [List.drop_succ_cons, List.drop_zero]
  refine wpList_buildSlice rfl 127 26 _ rfl 131 (tabCells .i64 tSpacing).toArray (by kernel_rfl) ?_
  refine wpList_assign rfl _ rfl ?_
  refine wpList_nil ?_
  change Code.wp _ Code.ret _ _ _
  refine wp_ret ?_
  exact bodyPost_ret (v := .slice (some ⟨w.heap.size, 0, none⟩) 26 26) (by rw [results_tmp Tryz.results103]; kernel_rfl) (by kernel_rfl) ⟨_, rfl, heldT_has (T := tSpacing) (heap_alloc_last w _), (Below.refl _ _).alloc (Nat.le_refl _) _⟩
set_option maxRecDepth 100000 in
theorem r10list_any (w : World) : Calls Tryz.prog 106 #[] w (GivesT .i64 w tPict) := by
  go_enter Tryz.func106, Tryz.ntmps106
  refine wp_seq ?_
  refine wp_region_lit ?_
  refine wpList_assign rfl _ rfl ?_
  first
  | refine wpList_nil ?_
    change Code.wp _ _ _ _ _
    refine wp_seq ?_
    refine wp_region_lit ?_
    refine wpList_builds 78 (by kernel_rfl) ?_
  | refine wpList_builds 78 (by kernel_rfl) ?_
  simp only [List.drop_succ_cons, List.drop_zero]
  refine wpList_buildSlice rfl 127 78 _ rfl 131 (tabCells .i64 tPict).toArray (by kernel_rfl) ?_
  refine wpList_assign rfl _ rfl ?_
  refine wpList_nil ?_
  change Code.wp _ Code.ret _ _ _
  refine wp_ret ?_
  exact bodyPost_ret (v := .slice (some ⟨w.heap.size, 0, none⟩) 78 78) (by rw [results_tmp Tryz.results106]; kernel_rfl) (by kernel_rfl) ⟨_, rfl, heldT_has (T := tPict) (heap_alloc_last w _), (Below.refl _ _).alloc (Nat.le_refl _) _⟩
set_option maxRecDepth 100000 in
theorem r11list1_any (w : World) : Calls Tryz.prog 107 #[] w (GivesT .i64 w tCons) := by
  go_enter Tryz.func107, Tryz.ntmps107
  refine wp_seq ?_
  refine wp_region_lit ?_
  refine wpList_assign rfl _ rfl ?_
  first
  | refine wpList_nil ?_
    change Code.wp _ _ _ _ _
    refine wp_seq ?_
    refine wp_region_lit ?_
    refine wpList_builds 26 (by kernel_rfl) ?_
  | refine wpList_builds 26 (by kernel_rfl) ?_
  simp only [List.drop_succ_cons, List.drop_zero]
  refine wpList_buildSlice rfl 127 26 _ rfl 131 (tabCells .i64 tCons).toArray (by kernel_rfl) ?_
  refine wpList_assign rfl _ rfl ?_
  refine wpList_nil ?_
  change Code.wp _ Code.ret _ _ _
  refine wp_ret ?_
  exact bodyPost_ret (v := .slice (some ⟨w.heap.size, 0, none⟩) 26 26) (by rw [results_tmp Tryz.results107]; kernel_rfl) (by kernel_rfl) ⟨_, rfl, heldT_has (T := tCons) (heap_alloc_last w _), (Below.refl _ _).alloc (Nat.le_refl _) _⟩
set_option maxRecDepth 100000 in
theorem r11list2_any (w : World) : Calls Tryz.prog 108 #[] w (GivesT .i64 w tLink) := by
  go_enter Tryz.func108, Tryz.ntmps108
  refine wp_seq ?_
  refine wp_region_lit ?_
  refine wpList_assign rfl _ rfl ?_
  first
  | refine wpList_nil ?_
    change Code.wp _ _ _ _ _
    refine wp_seq ?_
    refine wp_region_lit ?_
    refine wpList_builds 6 (by kernel_rfl) ?_
  | refine wpList_builds 6 (by kernel_rfl) ?_
  simp only [List.drop_succ_cons, List.drop_zero]
  refine wpList_buildSlice rfl 127 6 _ rfl 131 (tabCells .i64 tLink).toArray (by kernel_rfl) ?_
  refine wpList_assign rfl _ rfl ?_
  refine wpList_nil ?_
  change Code.wp _ Code.ret _ _ _
  refine wp_ret ?_
  exact bodyPost_ret (v := .slice (some ⟨w.heap.size, 0, none⟩) 6 6) (by rw [results_tmp Tryz.results108]; kernel_rfl) (by kernel_rfl) ⟨_, rfl, heldT_has (T := tLink) (heap_alloc_last w _), (Below.refl _ _).alloc (Nat.le_refl _) _⟩
set_option maxRecDepth 100000 in
theorem r11list3_any (w : World) : Calls Tryz.prog 109 #[] w (GivesT .i64 w tJoin) := by
  go_enter Tryz.func109, Tryz.ntmps109
  refine wp_seq ?_
  refine wp_region_lit ?_
  refine wpList_assign rfl _ rfl ?_
  first
  | refine wpList_nil ?_
    change Code.wp _ _ _ _ _
    refine wp_seq ?_
    refine wp_region_lit ?_
    refine wpList_builds 18 (by kernel_rfl) ?_
  | refine wpList_builds 18 (by kernel_rfl) ?_
  simp only [List.drop_succ_cons, List.drop_zero]
  refine wpList_buildSlice rfl 127 18 _ rfl 131 (tabCells .i64 tJoin).toArray (by kernel_rfl) ?_
  refine wpList_assign rfl _ rfl ?_
  refine wpList_nil ?_
  change Code.wp _ Code.ret _ _ _
  refine wp_ret ?_
  exact bodyPost_ret (v := .slice (some ⟨w.heap.size, 0, none⟩) 18 18) (by rw [results_tmp Tryz.results109]; kernel_rfl) (by kernel_rfl) ⟨_, rfl, heldT_has (T := tJoin) (heap_alloc_last w _), (Below.refl _ _).alloc (Nat.le_refl _) _⟩
set_option maxRecDepth 100000 in
theorem r12list1_any (w : World) : Calls Tryz.prog 110 #[] w (GivesT .i64 w tWide) := by
  go_enter Tryz.func110, Tryz.ntmps110
  refine wp_seq ?_
  refine wp_region_lit ?_
  refine wpList_assign rfl _ rfl ?_
  first
  | refine wpList_nil ?_
    change Code.wp _ _ _ _ _
    refine wp_seq ?_
    refine wp_region_lit ?_
    refine wpList_builds 109 (by kernel_rfl) ?_
  | refine wpList_builds 109 (by kernel_rfl) ?_
  simp only [List.drop_succ_cons, List.drop_zero]
  refine wpList_buildSlice rfl 127 109 _ rfl 131 (tabCells .i64 tWide).toArray (by kernel_rfl) ?_
  refine wpList_assign rfl _ rfl ?_
  refine wpList_nil ?_
  change Code.wp _ Code.ret _ _ _
  refine wp_ret ?_
  exact bodyPost_ret (v := .slice (some ⟨w.heap.size, 0, none⟩) 109 109) (by rw [results_tmp Tryz.results110]; kernel_rfl) (by kernel_rfl) ⟨_, rfl, heldT_has (T := tWide) (heap_alloc_last w _), (Below.refl _ _).alloc (Nat.le_refl _) _⟩
set_option maxRecDepth 100000 in
theorem r12list2_any (w : World) : Calls Tryz.prog 111 #[] w (GivesT .i64 w tFull) := by
  go_enter Tryz.func111, Tryz.ntmps111
  refine wp_seq ?_
  refine wp_region_lit ?_
  refine wpList_assign rfl _ rfl ?_
  first
  | refine wpList_nil ?_
    change Code.wp _ _ _ _ _
    refine wp_seq ?_
    refine wp_region_lit ?_
    refine wpList_builds 3 (by kernel_rfl) ?_
  | refine wpList_builds 3 (by kernel_rfl) ?_
  simp only [List.drop_succ_cons, List.drop_zero]
  refine wpList_buildSlice rfl 127 3 _ rfl 131 (tabCells .i64 tFull).toArray (by kernel_rfl) ?_
  refine wpList_assign rfl _ rfl ?_
  refine wpList_nil ?_
  change Code.wp _ Code.ret _ _ _
  refine wp_ret ?_
  exact bodyPost_ret (v := .slice (some ⟨w.heap.size, 0, none⟩) 3 3) (by rw [results_tmp Tryz.results111]; kernel_rfl) (by kernel_rfl) ⟨_, rfl, heldT_has (T := tFull) (heap_alloc_last w _), (Below.refl _ _).alloc (Nat.le_refl _) _⟩
set_option maxRecDepth 100000 in
theorem r12list3_any (w : World) : Calls Tryz.prog 112 #[] w (GivesT .i64 w tHalf) := by
  go_enter Tryz.func112, Tryz.ntmps112
  refine wp_seq ?_
  refine wp_region_lit ?_
  refine wpList_assign rfl _ rfl ?_
  first
  | refine wpList_nil ?_
    change Code.wp _ _ _ _ _
    refine wp_seq ?_
    refine wp_region_lit ?_
    refine wpList_builds 7 (by kernel_rfl) ?_
  | refine wpList_builds 7 (by kernel_rfl) ?_
  simp only [List.drop_succ_cons, List.drop_zero]
  refine wpList_buildSlice rfl 127 7 _ rfl 131 (tabCells .i64 tHalf).toArray (by kernel_rfl) ?_
  refine wpList_assign rfl _ rfl ?_
  refine wpList_nil ?_
  change Code.wp _ Code.ret _ _ _
  refine wp_ret ?_
  exact bodyPost_ret (v := .slice (some ⟨w.heap.size, 0, none⟩) 7 7) (by rw [results_tmp Tryz.results112]; kernel_rfl) (by kernel_rfl) ⟨_, rfl, heldT_has (T := tHalf) (heap_alloc_last w _), (Below.refl _ _).alloc (Nat.le_refl _) _⟩
end Go.Proofs.YtkpmmkokfllafaaGreat
