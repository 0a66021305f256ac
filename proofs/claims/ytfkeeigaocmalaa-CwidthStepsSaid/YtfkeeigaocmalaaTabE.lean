/- The tables of the program and of the reference, as their functions give them. -/
import Derived.Test.YtfkeeigaocmalaaTabC
import Derived.Test.YtfkeeigaocmalaaLit
namespace Go.Proofs.Ytfkeeigaocmalaa
open Go.RowKit Go.ChangeShapes Go.WideShapes
theorem tab_one (k : IntKind) (T : List (Int × Int)) : (tabCells k T).toArray.all (·.oneCell') = true := by
  simp only [List.all_toArray, List.all_eq_true]
  intro v hv
  unfold tabCells at hv
  obtain ⟨p, _, h⟩ := List.mem_flatMap.1 hv
  rcases List.mem_cons.1 h with rfl | h
  · rfl
  · rcases List.mem_cons.1 h with rfl | h
    · rfl
    · cases h
theorem zeros_size (n : Nat) : (Value.agg (Array.replicate n (.int .i32 0))).cells.size = n := by simp [Value.cells]
theorem tab_size (k : IntKind) (T : List (Int × Int)) (n : Nat) (h : T.length = n) : (tabCells k T).toArray.size = 2 * n := by
  rw [List.size_toArray, tabCells_len, h]
theorem wpList_assign {P : Program} {ops : Array Oper} {Q : Exit → Act → World → Prop} {w : World} {o : Oper} {rest : List Oper} {a : Act} (hg : o.guard = none) (x : Operand) (ho : o.op = .assign x)
    (h : wpList P ops Q rest (a.put o.dst (a.eval x)) w) : wpList P ops Q (o :: rest) a w := by
  refine wpList_plain hg fun K hK => ?_
  unfold Oper.wp execOp
  simp only [ho]
  exact hK _ _ h
def GivesT (k : IntKind) (w : World) (T : List (Int × Int)) (e : Ending) (w' : World) : Prop := ∃ v, e = .returned v ∧ HeldT k w' v T ∧ Below w.heap.size w w'
def tCR : List (Int × Int) := [(13, 13)]
def tLF : List (Int × Int) := [(10, 10)]
def tZWJ : List (Int × Int) := [(8205, 8205)]
def tRI : List (Int × Int) := [(127462, 127487)]
set_option maxRecDepth 100000 in
theorem controls_any (w : World) : Calls Try.prog 101 #[] w (Gives w (.agg (tabCells .i32 tControl).toArray)) := by
  have hs := tab_size .i32 tControl 16 tControl_len
  go_enter Try.func101, Try.ntmps101
  refine wp_seq ?_
  refine wp_region_lit ?_
  refine wpList_alloc_zero rfl 112 rfl (.agg (Array.replicate 32 (.int .i32 0))) 32 (by kernel_rfl) ?_
  first
  | refine wpList_nil ?_
    change Code.wp _ _ _ _ _
    refine wp_seq ?_
    refine wp_region_lit ?_
    refine wpList_builds 17 (by kernel_rfl) ?_
  | refine wpList_builds 17 (by kernel_rfl) ?_
  simp only [List.drop_succ_cons, List.drop_zero]
  refine wpList_store_row rfl 112 (.tmp 0) (.tmp 17) rfl w.heap.size (tabCells .i32 tControl).toArray (by kernel_rfl) (by kernel_rfl) 112 _ (heap_alloc_last w _) (by rw [hs]; kernel_rfl) (by rw [hs]; exact zeros_size 32) (tab_one _ _) ?_
  refine wpList_nil ?_
  rw [World.setRow_alloc_new]
  change Code.wp _ Code.ret _ _ _
  refine wp_ret ?_
  refine bodyPost_ret (results_cell_row Try.results101 _ _ w.heap.size 112 (tabCells .i32 tControl).toArray (0, 0) _ (by kernel_rfl) (heap_alloc_last w _) Try.underlying112 rfl (by rw [hs]; kernel_rfl)) (by kernel_rfl) ⟨rfl, (Below.refl _ _).alloc (Nat.le_refl _) _⟩
set_option maxRecDepth 100000 in
theorem extends_any (w : World) : Calls Try.prog 102 #[] w (Gives w (.agg (tabCells .i32 tExtend).toArray)) := by
  have hs := tab_size .i32 tExtend 77 tExtend_len
  go_enter Try.func102, Try.ntmps102
  refine wp_seq ?_
  refine wp_region_lit ?_
  refine wpList_alloc_zero rfl 114 rfl (.agg (Array.replicate 154 (.int .i32 0))) 154 (by kernel_rfl) ?_
  first
  | refine wpList_nil ?_
    change Code.wp _ _ _ _ _
    refine wp_seq ?_
    refine wp_region_lit ?_
    refine wpList_builds 78 (by kernel_rfl) ?_
  | refine wpList_builds 78 (by kernel_rfl) ?_
  simp only [List.drop_succ_cons, List.drop_zero]
  refine wpList_store_row rfl 114 (.tmp 0) (.tmp 78) rfl w.heap.size (tabCells .i32 tExtend).toArray (by kernel_rfl) (by kernel_rfl) 114 _ (heap_alloc_last w _) (by rw [hs]; kernel_rfl) (by rw [hs]; exact zeros_size 154) (tab_one _ _) ?_
  refine wpList_nil ?_
  rw [World.setRow_alloc_new]
  change Code.wp _ Code.ret _ _ _
  refine wp_ret ?_
  refine bodyPost_ret (results_cell_row Try.results102 _ _ w.heap.size 114 (tabCells .i32 tExtend).toArray (0, 0) _ (by kernel_rfl) (heap_alloc_last w _) Try.underlying114 rfl (by rw [hs]; kernel_rfl)) (by kernel_rfl) ⟨rfl, (Below.refl _ _).alloc (Nat.le_refl _) _⟩
set_option maxRecDepth 100000 in
theorem prepends_any (w : World) : Calls Try.prog 104 #[] w (Gives w (.agg (tabCells .i32 tPrepend).toArray)) := by
  have hs := tab_size .i32 tPrepend 8 tPrepend_len
  go_enter Try.func104, Try.ntmps104
  refine wp_seq ?_
  refine wp_region_lit ?_
  refine wpList_alloc_zero rfl 116 rfl (.agg (Array.replicate 16 (.int .i32 0))) 16 (by kernel_rfl) ?_
  first
  | refine wpList_nil ?_
    change Code.wp _ _ _ _ _
    refine wp_seq ?_
    refine wp_region_lit ?_
    refine wpList_builds 9 (by kernel_rfl) ?_
  | refine wpList_builds 9 (by kernel_rfl) ?_
  simp only [List.drop_succ_cons, List.drop_zero]
  refine wpList_store_row rfl 116 (.tmp 0) (.tmp 9) rfl w.heap.size (tabCells .i32 tPrepend).toArray (by kernel_rfl) (by kernel_rfl) 116 _ (heap_alloc_last w _) (by rw [hs]; kernel_rfl) (by rw [hs]; exact zeros_size 16) (tab_one _ _) ?_
  refine wpList_nil ?_
  rw [World.setRow_alloc_new]
  change Code.wp _ Code.ret _ _ _
  refine wp_ret ?_
  refine bodyPost_ret (results_cell_row Try.results104 _ _ w.heap.size 116 (tabCells .i32 tPrepend).toArray (0, 0) _ (by kernel_rfl) (heap_alloc_last w _) Try.underlying116 rfl (by rw [hs]; kernel_rfl)) (by kernel_rfl) ⟨rfl, (Below.refl _ _).alloc (Nat.le_refl _) _⟩
set_option maxRecDepth 100000 in
theorem spacings_any (w : World) : Calls Try.prog 103 #[] w (Gives w (.agg (tabCells .i32 tSpacing).toArray)) := by
  have hs := tab_size .i32 tSpacing 26 tSpacing_len
  go_enter Try.func103, Try.ntmps103
  refine wp_seq ?_
  refine wp_region_lit ?_
  refine wpList_alloc_zero rfl 97 rfl (.agg (Array.replicate 52 (.int .i32 0))) 52 (by kernel_rfl) ?_
  first
  | refine wpList_nil ?_
    change Code.wp _ _ _ _ _
    refine wp_seq ?_
    refine wp_region_lit ?_
    refine wpList_builds 27 (by kernel_rfl) ?_
  | refine wpList_builds 27 (by kernel_rfl) ?_
  simp only [List.drop_succ_cons, List.drop_zero]
  refine wpList_store_row rfl 97 (.tmp 0) (.tmp 27) rfl w.heap.size (tabCells .i32 tSpacing).toArray (by kernel_rfl) (by kernel_rfl) 97 _ (heap_alloc_last w _) (by rw [hs]; kernel_rfl) (by rw [hs]; exact zeros_size 52) (tab_one _ _) ?_
  refine wpList_nil ?_
  rw [World.setRow_alloc_new]
  change Code.wp _ Code.ret _ _ _
  refine wp_ret ?_
  refine bodyPost_ret (results_cell_row Try.results103 _ _ w.heap.size 97 (tabCells .i32 tSpacing).toArray (0, 0) _ (by kernel_rfl) (heap_alloc_last w _) Try.underlying97 rfl (by rw [hs]; kernel_rfl)) (by kernel_rfl) ⟨rfl, (Below.refl _ _).alloc (Nat.le_refl _) _⟩
set_option maxRecDepth 100000 in
theorem pictures_any (w : World) : Calls Try.prog 90 #[] w (Gives w (.agg (tabCells .i32 tPict).toArray)) := by
  have hs := tab_size .i32 tPict 78 tPict_len
  go_enter Try.func90, Try.ntmps90
  refine wp_seq ?_
  refine wp_region_lit ?_
  refine wpList_alloc_zero rfl 93 rfl (.agg (Array.replicate 156 (.int .i32 0))) 156 (by kernel_rfl) ?_
  first
  | refine wpList_nil ?_
    change Code.wp _ _ _ _ _
    refine wp_seq ?_
    refine wp_region_lit ?_
    refine wpList_builds 79 (by kernel_rfl) ?_
  | refine wpList_builds 79 (by kernel_rfl) ?_
  simp only [List.drop_succ_cons, List.drop_zero]
  refine wpList_store_row rfl 93 (.tmp 0) (.tmp 79) rfl w.heap.size (tabCells .i32 tPict).toArray (by kernel_rfl) (by kernel_rfl) 93 _ (heap_alloc_last w _) (by rw [hs]; kernel_rfl) (by rw [hs]; exact zeros_size 156) (tab_one _ _) ?_
  refine wpList_nil ?_
  rw [World.setRow_alloc_new]
  change Code.wp _ Code.ret _ _ _
  refine wp_ret ?_
  refine bodyPost_ret (results_cell_row Try.results90 _ _ w.heap.size 93 (tabCells .i32 tPict).toArray (0, 0) _ (by kernel_rfl) (heap_alloc_last w _) Try.underlying93 rfl (by rw [hs]; kernel_rfl)) (by kernel_rfl) ⟨rfl, (Below.refl _ _).alloc (Nat.le_refl _) _⟩
set_option maxRecDepth 100000 in
theorem consonants_any (w : World) : Calls Try.prog 92 #[] w (Gives w (.agg (tabCells .i32 tCons).toArray)) := by
  have hs := tab_size .i32 tCons 26 tCons_len
  go_enter Try.func92, Try.ntmps92
  refine wp_seq ?_
  refine wp_region_lit ?_
  refine wpList_alloc_zero rfl 97 rfl (.agg (Array.replicate 52 (.int .i32 0))) 52 (by kernel_rfl) ?_
  first
  | refine wpList_nil ?_
    change Code.wp _ _ _ _ _
    refine wp_seq ?_
    refine wp_region_lit ?_
    refine wpList_builds 27 (by kernel_rfl) ?_
  | refine wpList_builds 27 (by kernel_rfl) ?_
  simp only [List.drop_succ_cons, List.drop_zero]
  refine wpList_store_row rfl 97 (.tmp 0) (.tmp 27) rfl w.heap.size (tabCells .i32 tCons).toArray (by kernel_rfl) (by kernel_rfl) 97 _ (heap_alloc_last w _) (by rw [hs]; kernel_rfl) (by rw [hs]; exact zeros_size 52) (tab_one _ _) ?_
  refine wpList_nil ?_
  rw [World.setRow_alloc_new]
  change Code.wp _ Code.ret _ _ _
  refine wp_ret ?_
  refine bodyPost_ret (results_cell_row Try.results92 _ _ w.heap.size 97 (tabCells .i32 tCons).toArray (0, 0) _ (by kernel_rfl) (heap_alloc_last w _) Try.underlying97 rfl (by rw [hs]; kernel_rfl)) (by kernel_rfl) ⟨rfl, (Below.refl _ _).alloc (Nat.le_refl _) _⟩
set_option maxRecDepth 100000 in
theorem linkers_any (w : World) : Calls Try.prog 93 #[] w (Gives w (.agg (tabCells .i32 tLink).toArray)) := by
  have hs := tab_size .i32 tLink 6 tLink_len
  go_enter Try.func93, Try.ntmps93
  refine wp_seq ?_
  refine wp_region_lit ?_
  refine wpList_alloc_zero rfl 99 rfl (.agg (Array.replicate 12 (.int .i32 0))) 12 (by kernel_rfl) ?_
  first
  | refine wpList_nil ?_
    change Code.wp _ _ _ _ _
    refine wp_seq ?_
    refine wp_region_lit ?_
    refine wpList_builds 7 (by kernel_rfl) ?_
  | refine wpList_builds 7 (by kernel_rfl) ?_
  simp only [List.drop_succ_cons, List.drop_zero]
  refine wpList_store_row rfl 99 (.tmp 0) (.tmp 7) rfl w.heap.size (tabCells .i32 tLink).toArray (by kernel_rfl) (by kernel_rfl) 99 _ (heap_alloc_last w _) (by rw [hs]; kernel_rfl) (by rw [hs]; exact zeros_size 12) (tab_one _ _) ?_
  refine wpList_nil ?_
  rw [World.setRow_alloc_new]
  change Code.wp _ Code.ret _ _ _
  refine wp_ret ?_
  refine bodyPost_ret (results_cell_row Try.results93 _ _ w.heap.size 99 (tabCells .i32 tLink).toArray (0, 0) _ (by kernel_rfl) (heap_alloc_last w _) Try.underlying99 rfl (by rw [hs]; kernel_rfl)) (by kernel_rfl) ⟨rfl, (Below.refl _ _).alloc (Nat.le_refl _) _⟩
set_option maxRecDepth 100000 in
theorem joiners_any (w : World) : Calls Try.prog 94 #[] w (Gives w (.agg (tabCells .i32 tJoin).toArray)) := by
  have hs := tab_size .i32 tJoin 18 tJoin_len
  go_enter Try.func94, Try.ntmps94
  refine wp_seq ?_
  refine wp_region_lit ?_
  refine wpList_alloc_zero rfl 101 rfl (.agg (Array.replicate 36 (.int .i32 0))) 36 (by kernel_rfl) ?_
  first
  | refine wpList_nil ?_
    change Code.wp _ _ _ _ _
    refine wp_seq ?_
    refine wp_region_lit ?_
    refine wpList_builds 19 (by kernel_rfl) ?_
  | refine wpList_builds 19 (by kernel_rfl) ?_
  simp only [List.drop_succ_cons, List.drop_zero]
  refine wpList_store_row rfl 101 (.tmp 0) (.tmp 19) rfl w.heap.size (tabCells .i32 tJoin).toArray (by kernel_rfl) (by kernel_rfl) 101 _ (heap_alloc_last w _) (by rw [hs]; kernel_rfl) (by rw [hs]; exact zeros_size 36) (tab_one _ _) ?_
  refine wpList_nil ?_
  rw [World.setRow_alloc_new]
  change Code.wp _ Code.ret _ _ _
  refine wp_ret ?_
  refine bodyPost_ret (results_cell_row Try.results94 _ _ w.heap.size 101 (tabCells .i32 tJoin).toArray (0, 0) _ (by kernel_rfl) (heap_alloc_last w _) Try.underlying101 rfl (by rw [hs]; kernel_rfl)) (by kernel_rfl) ⟨rfl, (Below.refl _ _).alloc (Nat.le_refl _) _⟩
set_option maxRecDepth 100000 in
theorem wides_any (w : World) : Calls Try.prog 95 #[] w (Gives w (.agg (tabCells .i32 tWide).toArray)) := by
  have hs := tab_size .i32 tWide 109 tWide_len
  go_enter Try.func95, Try.ntmps95
  refine wp_seq ?_
  refine wp_region_lit ?_
  refine wpList_alloc_zero rfl 103 rfl (.agg (Array.replicate 218 (.int .i32 0))) 218 (by kernel_rfl) ?_
  first
  | refine wpList_nil ?_
    change Code.wp _ _ _ _ _
    refine wp_seq ?_
    refine wp_region_lit ?_
    refine wpList_builds 110 (by kernel_rfl) ?_
  | refine wpList_builds 110 (by kernel_rfl) ?_
  simp only [List.drop_succ_cons, List.drop_zero]
  refine wpList_store_row rfl 103 (.tmp 0) (.tmp 110) rfl w.heap.size (tabCells .i32 tWide).toArray (by kernel_rfl) (by kernel_rfl) 103 _ (heap_alloc_last w _) (by rw [hs]; kernel_rfl) (by rw [hs]; exact zeros_size 218) (tab_one _ _) ?_
  refine wpList_nil ?_
  rw [World.setRow_alloc_new]
  change Code.wp _ Code.ret _ _ _
  refine wp_ret ?_
  refine bodyPost_ret (results_cell_row Try.results95 _ _ w.heap.size 103 (tabCells .i32 tWide).toArray (0, 0) _ (by kernel_rfl) (heap_alloc_last w _) Try.underlying103 rfl (by rw [hs]; kernel_rfl)) (by kernel_rfl) ⟨rfl, (Below.refl _ _).alloc (Nat.le_refl _) _⟩
set_option maxRecDepth 100000 in
theorem fulls_any (w : World) : Calls Try.prog 96 #[] w (Gives w (.agg (tabCells .i32 tFull).toArray)) := by
  have hs := tab_size .i32 tFull 3 tFull_len
  go_enter Try.func96, Try.ntmps96
  refine wp_seq ?_
  refine wp_region_lit ?_
  refine wpList_alloc_zero rfl 105 rfl (.agg (Array.replicate 6 (.int .i32 0))) 6 (by kernel_rfl) ?_
  first
  | refine wpList_nil ?_
    change Code.wp _ _ _ _ _
    refine wp_seq ?_
    refine wp_region_lit ?_
    refine wpList_builds 4 (by kernel_rfl) ?_
  | refine wpList_builds 4 (by kernel_rfl) ?_
  simp only [List.drop_succ_cons, List.drop_zero]
  refine wpList_store_row rfl 105 (.tmp 0) (.tmp 4) rfl w.heap.size (tabCells .i32 tFull).toArray (by kernel_rfl) (by kernel_rfl) 105 _ (heap_alloc_last w _) (by rw [hs]; kernel_rfl) (by rw [hs]; exact zeros_size 6) (tab_one _ _) ?_
  refine wpList_nil ?_
  rw [World.setRow_alloc_new]
  change Code.wp _ Code.ret _ _ _
  refine wp_ret ?_
  refine bodyPost_ret (results_cell_row Try.results96 _ _ w.heap.size 105 (tabCells .i32 tFull).toArray (0, 0) _ (by kernel_rfl) (heap_alloc_last w _) Try.underlying105 rfl (by rw [hs]; kernel_rfl)) (by kernel_rfl) ⟨rfl, (Below.refl _ _).alloc (Nat.le_refl _) _⟩
set_option maxRecDepth 100000 in
theorem halves_any (w : World) : Calls Try.prog 97 #[] w (Gives w (.agg (tabCells .i32 tHalf).toArray)) := by
  have hs := tab_size .i32 tHalf 7 tHalf_len
  go_enter Try.func97, Try.ntmps97
  refine wp_seq ?_
  refine wp_region_lit ?_
  refine wpList_alloc_zero rfl 107 rfl (.agg (Array.replicate 14 (.int .i32 0))) 14 (by kernel_rfl) ?_
  first
  | refine wpList_nil ?_
    change Code.wp _ _ _ _ _
    refine wp_seq ?_
    refine wp_region_lit ?_
    refine wpList_builds 8 (by kernel_rfl) ?_
  | refine wpList_builds 8 (by kernel_rfl) ?_
  simp only [List.drop_succ_cons, List.drop_zero]
  refine wpList_store_row rfl 107 (.tmp 0) (.tmp 8) rfl w.heap.size (tabCells .i32 tHalf).toArray (by kernel_rfl) (by kernel_rfl) 107 _ (heap_alloc_last w _) (by rw [hs]; kernel_rfl) (by rw [hs]; exact zeros_size 14) (tab_one _ _) ?_
  refine wpList_nil ?_
  rw [World.setRow_alloc_new]
  change Code.wp _ Code.ret _ _ _
  refine wp_ret ?_
  refine bodyPost_ret (results_cell_row Try.results97 _ _ w.heap.size 107 (tabCells .i32 tHalf).toArray (0, 0) _ (by kernel_rfl) (heap_alloc_last w _) Try.underlying107 rfl (by rw [hs]; kernel_rfl)) (by kernel_rfl) ⟨rfl, (Below.refl _ _).alloc (Nat.le_refl _) _⟩
set_option maxRecDepth 100000 in
theorem r09list1_any (w : World) : Calls Try.prog 55 #[] w (GivesT .i64 w tCR) := by
  go_enter Try.func55, Try.ntmps55
  refine wp_seq ?_
  refine wp_region_lit ?_
  refine wpList_assign rfl _ rfl ?_
  first
  | refine wpList_nil ?_
    change Code.wp _ _ _ _ _
    refine wp_seq ?_
    refine wp_region_lit ?_
    refine wpList_builds 1 (by kernel_rfl) ?_
  | refine wpList_builds 1 (by kernel_rfl) ?_
  simp only [List.drop_succ_cons, List.drop_zero]
  refine wpList_buildSlice rfl 79 1 _ rfl 87 (tabCells .i64 tCR).toArray (by kernel_rfl) ?_
  refine wpList_assign rfl _ rfl ?_
  refine wpList_nil ?_
  change Code.wp _ Code.ret _ _ _
  refine wp_ret ?_
  exact bodyPost_ret (v := .slice (some ⟨w.heap.size, 0, none⟩) 1 1) (by rw [results_tmp Try.results55]; kernel_rfl) (by kernel_rfl) ⟨_, rfl, heldT_has (T := tCR) (heap_alloc_last w _), (Below.refl _ _).alloc (Nat.le_refl _) _⟩
set_option maxRecDepth 100000 in
theorem r09list2_any (w : World) : Calls Try.prog 56 #[] w (GivesT .i64 w tLF) := by
  go_enter Try.func56, Try.ntmps56
  refine wp_seq ?_
  refine wp_region_lit ?_
  refine wpList_assign rfl _ rfl ?_
  first
  | refine wpList_nil ?_
    change Code.wp _ _ _ _ _
    refine wp_seq ?_
    refine wp_region_lit ?_
    refine wpList_builds 1 (by kernel_rfl) ?_
  | refine wpList_builds 1 (by kernel_rfl) ?_
  simp only [List.drop_succ_cons, List.drop_zero]
  refine wpList_buildSlice rfl 79 1 _ rfl 87 (tabCells .i64 tLF).toArray (by kernel_rfl) ?_
  refine wpList_assign rfl _ rfl ?_
  refine wpList_nil ?_
  change Code.wp _ Code.ret _ _ _
  refine wp_ret ?_
  exact bodyPost_ret (v := .slice (some ⟨w.heap.size, 0, none⟩) 1 1) (by rw [results_tmp Try.results56]; kernel_rfl) (by kernel_rfl) ⟨_, rfl, heldT_has (T := tLF) (heap_alloc_last w _), (Below.refl _ _).alloc (Nat.le_refl _) _⟩
set_option maxRecDepth 100000 in
theorem r09list3_any (w : World) : Calls Try.prog 57 #[] w (GivesT .i64 w tControl) := by
  go_enter Try.func57, Try.ntmps57
  refine wp_seq ?_
  refine wp_region_lit ?_
  refine wpList_assign rfl _ rfl ?_
  first
  | refine wpList_nil ?_
    change Code.wp _ _ _ _ _
    refine wp_seq ?_
    refine wp_region_lit ?_
    refine wpList_builds 16 (by kernel_rfl) ?_
  | refine wpList_builds 16 (by kernel_rfl) ?_
  simp only [List.drop_succ_cons, List.drop_zero]
  refine wpList_buildSlice rfl 79 16 _ rfl 87 (tabCells .i64 tControl).toArray (by kernel_rfl) ?_
  refine wpList_assign rfl _ rfl ?_
  refine wpList_nil ?_
  change Code.wp _ Code.ret _ _ _
  refine wp_ret ?_
  exact bodyPost_ret (v := .slice (some ⟨w.heap.size, 0, none⟩) 16 16) (by rw [results_tmp Try.results57]; kernel_rfl) (by kernel_rfl) ⟨_, rfl, heldT_has (T := tControl) (heap_alloc_last w _), (Below.refl _ _).alloc (Nat.le_refl _) _⟩
set_option maxRecDepth 100000 in
theorem r09list4_any (w : World) : Calls Try.prog 58 #[] w (GivesT .i64 w tExtend) := by
  go_enter Try.func58, Try.ntmps58
  refine wp_seq ?_
  refine wp_region_lit ?_
  refine wpList_assign rfl _ rfl ?_
  first
  | refine wpList_nil ?_
    change Code.wp _ _ _ _ _
    refine wp_seq ?_
    refine wp_region_lit ?_
    refine wpList_builds 77 (by kernel_rfl) ?_
  | refine wpList_builds 77 (by kernel_rfl) ?_
  simp only [List.drop_succ_cons, List.drop_zero]
  refine wpList_buildSlice rfl 79 77 _ rfl 87 (tabCells .i64 tExtend).toArray (by kernel_rfl) ?_
  refine wpList_assign rfl _ rfl ?_
  refine wpList_nil ?_
  change Code.wp _ Code.ret _ _ _
  refine wp_ret ?_
  exact bodyPost_ret (v := .slice (some ⟨w.heap.size, 0, none⟩) 77 77) (by rw [results_tmp Try.results58]; kernel_rfl) (by kernel_rfl) ⟨_, rfl, heldT_has (T := tExtend) (heap_alloc_last w _), (Below.refl _ _).alloc (Nat.le_refl _) _⟩
set_option maxRecDepth 100000 in
theorem r09list5_any (w : World) : Calls Try.prog 59 #[] w (GivesT .i64 w tZWJ) := by
  go_enter Try.func59, Try.ntmps59
  refine wp_seq ?_
  refine wp_region_lit ?_
  refine wpList_assign rfl _ rfl ?_
  first
  | refine wpList_nil ?_
    change Code.wp _ _ _ _ _
    refine wp_seq ?_
    refine wp_region_lit ?_
    refine wpList_builds 1 (by kernel_rfl) ?_
  | refine wpList_builds 1 (by kernel_rfl) ?_
  simp only [List.drop_succ_cons, List.drop_zero]
  refine wpList_buildSlice rfl 79 1 _ rfl 87 (tabCells .i64 tZWJ).toArray (by kernel_rfl) ?_
  refine wpList_assign rfl _ rfl ?_
  refine wpList_nil ?_
  change Code.wp _ Code.ret _ _ _
  refine wp_ret ?_
  exact bodyPost_ret (v := .slice (some ⟨w.heap.size, 0, none⟩) 1 1) (by rw [results_tmp Try.results59]; kernel_rfl) (by kernel_rfl) ⟨_, rfl, heldT_has (T := tZWJ) (heap_alloc_last w _), (Below.refl _ _).alloc (Nat.le_refl _) _⟩
set_option maxRecDepth 100000 in
theorem r09list6_any (w : World) : Calls Try.prog 60 #[] w (GivesT .i64 w tRI) := by
  go_enter Try.func60, Try.ntmps60
  refine wp_seq ?_
  refine wp_region_lit ?_
  refine wpList_assign rfl _ rfl ?_
  first
  | refine wpList_nil ?_
    change Code.wp _ _ _ _ _
    refine wp_seq ?_
    refine wp_region_lit ?_
    refine wpList_builds 1 (by kernel_rfl) ?_
  | refine wpList_builds 1 (by kernel_rfl) ?_
  simp only [List.drop_succ_cons, List.drop_zero]
  refine wpList_buildSlice rfl 79 1 _ rfl 87 (tabCells .i64 tRI).toArray (by kernel_rfl) ?_
  refine wpList_assign rfl _ rfl ?_
  refine wpList_nil ?_
  change Code.wp _ Code.ret _ _ _
  refine wp_ret ?_
  exact bodyPost_ret (v := .slice (some ⟨w.heap.size, 0, none⟩) 1 1) (by rw [results_tmp Try.results60]; kernel_rfl) (by kernel_rfl) ⟨_, rfl, heldT_has (T := tRI) (heap_alloc_last w _), (Below.refl _ _).alloc (Nat.le_refl _) _⟩
set_option maxRecDepth 100000 in
theorem r09list7_any (w : World) : Calls Try.prog 61 #[] w (GivesT .i64 w tPrepend) := by
  go_enter Try.func61, Try.ntmps61
  refine wp_seq ?_
  refine wp_region_lit ?_
  refine wpList_assign rfl _ rfl ?_
  first
  | refine wpList_nil ?_
    change Code.wp _ _ _ _ _
    refine wp_seq ?_
    refine wp_region_lit ?_
    refine wpList_builds 8 (by kernel_rfl) ?_
  | refine wpList_builds 8 (by kernel_rfl) ?_
  simp only [List.drop_succ_cons, List.drop_zero]
  refine wpList_buildSlice rfl 79 8 _ rfl 87 (tabCells .i64 tPrepend).toArray (by kernel_rfl) ?_
  refine wpList_assign rfl _ rfl ?_
  refine wpList_nil ?_
  change Code.wp _ Code.ret _ _ _
  refine wp_ret ?_
  exact bodyPost_ret (v := .slice (some ⟨w.heap.size, 0, none⟩) 8 8) (by rw [results_tmp Try.results61]; kernel_rfl) (by kernel_rfl) ⟨_, rfl, heldT_has (T := tPrepend) (heap_alloc_last w _), (Below.refl _ _).alloc (Nat.le_refl _) _⟩
set_option maxRecDepth 100000 in
theorem r09list8_any (w : World) : Calls Try.prog 62 #[] w (GivesT .i64 w tSpacing) := by
  go_enter Try.func62, Try.ntmps62
  refine wp_seq ?_
  refine wp_region_lit ?_
  refine wpList_assign rfl _ rfl ?_
  first
  | refine wpList_nil ?_
    change Code.wp _ _ _ _ _
    refine wp_seq ?_
    refine wp_region_lit ?_
    refine wpList_builds 26 (by kernel_rfl) ?_
  | refine wpList_builds 26 (by kernel_rfl) ?_
  simp only [List.drop_succ_cons, List.drop_zero]
  refine wpList_buildSlice rfl 79 26 _ rfl 87 (tabCells .i64 tSpacing).toArray (by kernel_rfl) ?_
  refine wpList_assign rfl _ rfl ?_
  refine wpList_nil ?_
  change Code.wp _ Code.ret _ _ _
  refine wp_ret ?_
  exact bodyPost_ret (v := .slice (some ⟨w.heap.size, 0, none⟩) 26 26) (by rw [results_tmp Try.results62]; kernel_rfl) (by kernel_rfl) ⟨_, rfl, heldT_has (T := tSpacing) (heap_alloc_last w _), (Below.refl _ _).alloc (Nat.le_refl _) _⟩
set_option maxRecDepth 100000 in
theorem r10list_any (w : World) : Calls Try.prog 65 #[] w (GivesT .i64 w tPict) := by
  go_enter Try.func65, Try.ntmps65
  refine wp_seq ?_
  refine wp_region_lit ?_
  refine wpList_assign rfl _ rfl ?_
  first
  | refine wpList_nil ?_
    change Code.wp _ _ _ _ _
    refine wp_seq ?_
    refine wp_region_lit ?_
    refine wpList_builds 78 (by kernel_rfl) ?_
  | refine wpList_builds 78 (by kernel_rfl) ?_
  simp only [List.drop_succ_cons, List.drop_zero]
  refine wpList_buildSlice rfl 79 78 _ rfl 87 (tabCells .i64 tPict).toArray (by kernel_rfl) ?_
  refine wpList_assign rfl _ rfl ?_
  refine wpList_nil ?_
  change Code.wp _ Code.ret _ _ _
  refine wp_ret ?_
  exact bodyPost_ret (v := .slice (some ⟨w.heap.size, 0, none⟩) 78 78) (by rw [results_tmp Try.results65]; kernel_rfl) (by kernel_rfl) ⟨_, rfl, heldT_has (T := tPict) (heap_alloc_last w _), (Below.refl _ _).alloc (Nat.le_refl _) _⟩
set_option maxRecDepth 100000 in
theorem r11list1_any (w : World) : Calls Try.prog 66 #[] w (GivesT .i64 w tCons) := by
  go_enter Try.func66, Try.ntmps66
  refine wp_seq ?_
  refine wp_region_lit ?_
  refine wpList_assign rfl _ rfl ?_
  first
  | refine wpList_nil ?_
    change Code.wp _ _ _ _ _
    refine wp_seq ?_
    refine wp_region_lit ?_
    refine wpList_builds 26 (by kernel_rfl) ?_
  | refine wpList_builds 26 (by kernel_rfl) ?_
  simp only [List.drop_succ_cons, List.drop_zero]
  refine wpList_buildSlice rfl 79 26 _ rfl 87 (tabCells .i64 tCons).toArray (by kernel_rfl) ?_
  refine wpList_assign rfl _ rfl ?_
  refine wpList_nil ?_
  change Code.wp _ Code.ret _ _ _
  refine wp_ret ?_
  exact bodyPost_ret (v := .slice (some ⟨w.heap.size, 0, none⟩) 26 26) (by rw [results_tmp Try.results66]; kernel_rfl) (by kernel_rfl) ⟨_, rfl, heldT_has (T := tCons) (heap_alloc_last w _), (Below.refl _ _).alloc (Nat.le_refl _) _⟩
set_option maxRecDepth 100000 in
theorem r11list2_any (w : World) : Calls Try.prog 67 #[] w (GivesT .i64 w tLink) := by
  go_enter Try.func67, Try.ntmps67
  refine wp_seq ?_
  refine wp_region_lit ?_
  refine wpList_assign rfl _ rfl ?_
  first
  | refine wpList_nil ?_
    change Code.wp _ _ _ _ _
    refine wp_seq ?_
    refine wp_region_lit ?_
    refine wpList_builds 6 (by kernel_rfl) ?_
  | refine wpList_builds 6 (by kernel_rfl) ?_
  simp only [List.drop_succ_cons, List.drop_zero]
  refine wpList_buildSlice rfl 79 6 _ rfl 87 (tabCells .i64 tLink).toArray (by kernel_rfl) ?_
  refine wpList_assign rfl _ rfl ?_
  refine wpList_nil ?_
  change Code.wp _ Code.ret _ _ _
  refine wp_ret ?_
  exact bodyPost_ret (v := .slice (some ⟨w.heap.size, 0, none⟩) 6 6) (by rw [results_tmp Try.results67]; kernel_rfl) (by kernel_rfl) ⟨_, rfl, heldT_has (T := tLink) (heap_alloc_last w _), (Below.refl _ _).alloc (Nat.le_refl _) _⟩
set_option maxRecDepth 100000 in
theorem r11list3_any (w : World) : Calls Try.prog 68 #[] w (GivesT .i64 w tJoin) := by
  go_enter Try.func68, Try.ntmps68
  refine wp_seq ?_
  refine wp_region_lit ?_
  refine wpList_assign rfl _ rfl ?_
  first
  | refine wpList_nil ?_
    change Code.wp _ _ _ _ _
    refine wp_seq ?_
    refine wp_region_lit ?_
    refine wpList_builds 18 (by kernel_rfl) ?_
  | refine wpList_builds 18 (by kernel_rfl) ?_
  simp only [List.drop_succ_cons, List.drop_zero]
  refine wpList_buildSlice rfl 79 18 _ rfl 87 (tabCells .i64 tJoin).toArray (by kernel_rfl) ?_
  refine wpList_assign rfl _ rfl ?_
  refine wpList_nil ?_
  change Code.wp _ Code.ret _ _ _
  refine wp_ret ?_
  exact bodyPost_ret (v := .slice (some ⟨w.heap.size, 0, none⟩) 18 18) (by rw [results_tmp Try.results68]; kernel_rfl) (by kernel_rfl) ⟨_, rfl, heldT_has (T := tJoin) (heap_alloc_last w _), (Below.refl _ _).alloc (Nat.le_refl _) _⟩
set_option maxRecDepth 100000 in
theorem r12list1_any (w : World) : Calls Try.prog 69 #[] w (GivesT .i64 w tWide) := by
  go_enter Try.func69, Try.ntmps69
  refine wp_seq ?_
  refine wp_region_lit ?_
  refine wpList_assign rfl _ rfl ?_
  first
  | refine wpList_nil ?_
    change Code.wp _ _ _ _ _
    refine wp_seq ?_
    refine wp_region_lit ?_
    refine wpList_builds 109 (by kernel_rfl) ?_
  | refine wpList_builds 109 (by kernel_rfl) ?_
  simp only [List.drop_succ_cons, List.drop_zero]
  refine wpList_buildSlice rfl 79 109 _ rfl 87 (tabCells .i64 tWide).toArray (by kernel_rfl) ?_
  refine wpList_assign rfl _ rfl ?_
  refine wpList_nil ?_
  change Code.wp _ Code.ret _ _ _
  refine wp_ret ?_
  exact bodyPost_ret (v := .slice (some ⟨w.heap.size, 0, none⟩) 109 109) (by rw [results_tmp Try.results69]; kernel_rfl) (by kernel_rfl) ⟨_, rfl, heldT_has (T := tWide) (heap_alloc_last w _), (Below.refl _ _).alloc (Nat.le_refl _) _⟩
set_option maxRecDepth 100000 in
theorem r12list2_any (w : World) : Calls Try.prog 70 #[] w (GivesT .i64 w tFull) := by
  go_enter Try.func70, Try.ntmps70
  refine wp_seq ?_
  refine wp_region_lit ?_
  refine wpList_assign rfl _ rfl ?_
  first
  | refine wpList_nil ?_
    change Code.wp _ _ _ _ _
    refine wp_seq ?_
    refine wp_region_lit ?_
    refine wpList_builds 3 (by kernel_rfl) ?_
  | refine wpList_builds 3 (by kernel_rfl) ?_
  simp only [List.drop_succ_cons, List.drop_zero]
  refine wpList_buildSlice rfl 79 3 _ rfl 87 (tabCells .i64 tFull).toArray (by kernel_rfl) ?_
  refine wpList_assign rfl _ rfl ?_
  refine wpList_nil ?_
  change Code.wp _ Code.ret _ _ _
  refine wp_ret ?_
  exact bodyPost_ret (v := .slice (some ⟨w.heap.size, 0, none⟩) 3 3) (by rw [results_tmp Try.results70]; kernel_rfl) (by kernel_rfl) ⟨_, rfl, heldT_has (T := tFull) (heap_alloc_last w _), (Below.refl _ _).alloc (Nat.le_refl _) _⟩
set_option maxRecDepth 100000 in
theorem r12list3_any (w : World) : Calls Try.prog 71 #[] w (GivesT .i64 w tHalf) := by
  go_enter Try.func71, Try.ntmps71
  refine wp_seq ?_
  refine wp_region_lit ?_
  refine wpList_assign rfl _ rfl ?_
  first
  | refine wpList_nil ?_
    change Code.wp _ _ _ _ _
    refine wp_seq ?_
    refine wp_region_lit ?_
    refine wpList_builds 7 (by kernel_rfl) ?_
  | refine wpList_builds 7 (by kernel_rfl) ?_
  simp only [List.drop_succ_cons, List.drop_zero]
  refine wpList_buildSlice rfl 79 7 _ rfl 87 (tabCells .i64 tHalf).toArray (by kernel_rfl) ?_
  refine wpList_assign rfl _ rfl ?_
  refine wpList_nil ?_
  change Code.wp _ Code.ret _ _ _
  refine wp_ret ?_
  exact bodyPost_ret (v := .slice (some ⟨w.heap.size, 0, none⟩) 7 7) (by rw [results_tmp Try.results71]; kernel_rfl) (by kernel_rfl) ⟨_, rfl, heldT_has (T := tHalf) (heap_alloc_last w _), (Below.refl _ _).alloc (Nat.le_refl _) _⟩
end Go.Proofs.Ytfkeeigaocmalaa
