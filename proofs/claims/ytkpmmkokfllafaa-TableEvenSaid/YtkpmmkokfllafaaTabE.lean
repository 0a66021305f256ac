/- The tables of the program and of the reference, as their functions give them. -/
import Derived.Test.YtkpmmkokfllafaaTabC
import Derived.Test.YtkpmmkokfllafaaMg1
namespace Go.Proofs.Ytkpmmkokfllafaa
open Go.RowKit Go.ChangeShapes Go.WideShapes
theorem tab_one (k : IntKind) (T : List (Int × Int)) : (tabCells k T).toArray.all (·.oneCell') = true := by
  simp only [List.all_toArray, List.all_eq_true]
  intro v hv
  unfold tabCells at hv
  obtain ⟨p, _, h⟩ := List.mem_flatMap.1 hv
  rcases List.mem_cons.1 h with rfl | h
  · rfl
  · rcases List.mem_cons.1 h with rfl | h
    · rfl
    · cases h
theorem zeros_size (n : Nat) : (Value.agg (Array.replicate n (.int .i32 0))).cells.size = n := by simp [Value.cells]
theorem tab_size (k : IntKind) (T : List (Int × Int)) (n : Nat) (h : T.length = n) : (tabCells k T).toArray.size = 2 * n := by
  rw [List.size_toArray, tabCells_len, h]
theorem wpList_assign {P : Program} {ops : Array Oper} {Q : Exit → Act → World → Prop} {w : World} {o : Oper} {rest : List Oper} {a : Act} (hg : o.guard = none) (x : Operand) (ho : o.op = .assign x)
    (h : wpList P ops Q rest (a.put o.dst (a.eval x)) w) : wpList P ops Q (o :: rest) a w := by
  refine wpList_plain hg fun K hK => ?_
  unfold Oper.wp execOp
  simp only [ho]
  exact hK _ _ h
def GivesT (k : IntKind) (w : World) (T : List (Int × Int)) (e : Ending) (w' : World) : Prop := ∃ v, e = .returned v ∧ HeldT k w' v T ∧ Below w.heap.size w w'
def tCR : List (Int × Int) := [(13, 13)]
def tLF : List (Int × Int) := [(10, 10)]
def tZWJ : List (Int × Int) := [(8205, 8205)]
def tRI : List (Int × Int) := [(127462, 127487)]
set_option maxRecDepth 100000 in
theorem controls_any (w : World) : Calls Try.prog 71 #[] w (Gives w (.agg (tabCells .i32 tControl).toArray)) := by
  have hs := tab_size .i32 tControl 16 tControl_len
  go_enter Try.func71, Try.ntmps71
  refine wp_seq ?_
  refine wp_region_lit ?_
  refine wpList_alloc_zero rfl 110 rfl (.agg (Array.replicate 32 (.int .i32 0))) 32 (by kernel_rfl) ?_
  first
  | refine wpList_nil ?_
    change Code.wp _ _ _ _ _
    refine wp_seq ?_
    refine wp_region_lit ?_
    refine wpList_builds 17 (by kernel_rfl) ?_
  | refine wpList_builds 17 (by kernel_rfl) ?_
  simp only [List.drop_succ_cons, List.drop_zero]
  refine wpList_store_row rfl 110 (.tmp 0) (.tmp 17) rfl w.heap.size (tabCells .i32 tControl).toArray (by kernel_rfl) (by kernel_rfl) 110 _ (heap_alloc_last w _) (by rw [hs]; kernel_rfl) (by rw [hs]; exact zeros_size 32) (tab_one _ _) ?_
  refine wpList_nil ?_
  rw [World.setRow_alloc_new]
  change Code.wp _ Code.ret _ _ _
  refine wp_ret ?_
  refine bodyPost_ret (results_cell_row Try.results71 _ _ w.heap.size 110 (tabCells .i32 tControl).toArray (0, 0) _ (by kernel_rfl) (heap_alloc_last w _) Try.underlying110 rfl (by rw [hs]; kernel_rfl)) (by kernel_rfl) ⟨rfl, (Below.refl _ _).alloc (Nat.le_refl _) _⟩
set_option maxRecDepth 100000 in
theorem extends_any (w : World) : Calls Try.prog 72 #[] w (Gives w (.agg (tabCells .i32 tExtend).toArray)) := by
  have hs := tab_size .i32 tExtend 77 tExtend_len
  go_enter Try.func72, Try.ntmps72
  refine wp_seq ?_
  refine wp_region_lit ?_
  refine wpList_alloc_zero rfl 112 rfl (.agg (Array.replicate 154 (.int .i32 0))) 154 (by kernel_rfl) ?_
  first
  | refine wpList_nil ?_
    change Code.wp _ _ _ _ _
    refine wp_seq ?_
    refine wp_region_lit ?_
    refine wpList_builds 78 (by kernel_rfl) ?_
  | refine wpList_builds 78 (by kernel_rfl) ?_
  simp only [List.drop_succ_cons, List.drop_zero]
  refine wpList_store_row rfl 112 (.tmp 0) (.tmp 78) rfl w.heap.size (tabCells .i32 tExtend).toArray (by kernel_rfl) (by kernel_rfl) 112 _ (heap_alloc_last w _) (by rw [hs]; kernel_rfl) (by rw [hs]; exact zeros_size 154) (tab_one _ _) ?_
  refine wpList_nil ?_
  rw [World.setRow_alloc_new]
  change Code.wp _ Code.ret _ _ _
  refine wp_ret ?_
  refine bodyPost_ret (results_cell_row Try.results72 _ _ w.heap.size 112 (tabCells .i32 tExtend).toArray (0, 0) _ (by kernel_rfl) (heap_alloc_last w _) Try.underlying112 rfl (by rw [hs]; kernel_rfl)) (by kernel_rfl) ⟨rfl, (Below.refl _ _).alloc (Nat.le_refl _) _⟩
set_option maxRecDepth 100000 in
theorem prepends_any (w : World) : Calls Try.prog 74 #[] w (Gives w (.agg (tabCells .i32 tPrepend).toArray)) := by
  have hs := tab_size .i32 tPrepend 8 tPrepend_len
  go_enter Try.func74, Try.ntmps74
  refine wp_seq ?_
  refine wp_region_lit ?_
  refine wpList_alloc_zero rfl 114 rfl (.agg (Array.replicate 16 (.int .i32 0))) 16 (by kernel_rfl) ?_
  first
  | refine wpList_nil ?_
    change Code.wp _ _ _ _ _
    refine wp_seq ?_
    refine wp_region_lit ?_
    refine wpList_builds 9 (by kernel_rfl) ?_
  | refine wpList_builds 9 (by kernel_rfl) ?_
  simp only [List.drop_succ_cons, List.drop_zero]
  refine wpList_store_row rfl 114 (.tmp 0) (.tmp 9) rfl w.heap.size (tabCells .i32 tPrepend).toArray (by kernel_rfl) (by kernel_rfl) 114 _ (heap_alloc_last w _) (by rw [hs]; kernel_rfl) (by rw [hs]; exact zeros_size 16) (tab_one _ _) ?_
  refine wpList_nil ?_
  rw [World.setRow_alloc_new]
  change Code.wp _ Code.ret _ _ _
  refine wp_ret ?_
  refine bodyPost_ret (results_cell_row Try.results74 _ _ w.heap.size 114 (tabCells .i32 tPrepend).toArray (0, 0) _ (by kernel_rfl) (heap_alloc_last w _) Try.underlying114 rfl (by rw [hs]; kernel_rfl)) (by kernel_rfl) ⟨rfl, (Below.refl _ _).alloc (Nat.le_refl _) _⟩
set_option maxRecDepth 100000 in
theorem spacings_any (w : World) : Calls Try.prog 73 #[] w (Gives w (.agg (tabCells .i32 tSpacing).toArray)) := by
  have hs := tab_size .i32 tSpacing 26 tSpacing_len
  go_enter Try.func73, Try.ntmps73
  refine wp_seq ?_
  refine wp_region_lit ?_
  refine wpList_alloc_zero rfl 88 rfl (.agg (Array.replicate 52 (.int .i32 0))) 52 (by kernel_rfl) ?_
  first
  | refine wpList_nil ?_
    change Code.wp _ _ _ _ _
    refine wp_seq ?_
    refine wp_region_lit ?_
    refine wpList_builds 27 (by kernel_rfl) ?_
  | refine wpList_builds 27 (by kernel_rfl) ?_
  simp only [List.drop_succ_cons, List.drop_zero]
  refine wpList_store_row rfl 88 (.tmp 0) (.tmp 27) rfl w.heap.size (tabCells .i32 tSpacing).toArray (by kernel_rfl) (by kernel_rfl) 88 _ (heap_alloc_last w _) (by rw [hs]; kernel_rfl) (by rw [hs]; exact zeros_size 52) (tab_one _ _) ?_
  refine wpList_nil ?_
  rw [World.setRow_alloc_new]
  change Code.wp _ Code.ret _ _ _
  refine wp_ret ?_
  refine bodyPost_ret (results_cell_row Try.results73 _ _ w.heap.size 88 (tabCells .i32 tSpacing).toArray (0, 0) _ (by kernel_rfl) (heap_alloc_last w _) Try.underlying88 rfl (by rw [hs]; kernel_rfl)) (by kernel_rfl) ⟨rfl, (Below.refl _ _).alloc (Nat.le_refl _) _⟩
set_option maxRecDepth 100000 in
theorem pictures_any (w : World) : Calls Try.prog 56 #[] w (Gives w (.agg (tabCells .i32 tPict).toArray)) := by
  have hs := tab_size .i32 tPict 78 tPict_len
  go_enter Try.func56, Try.ntmps56
  refine wp_seq ?_
  refine wp_region_lit ?_
  refine wpList_alloc_zero rfl 84 rfl (.agg (Array.replicate 156 (.int .i32 0))) 156 (by kernel_rfl) ?_
  first
  | refine wpList_nil ?_
    change Code.wp _ _ _ _ _
    refine wp_seq ?_
    refine wp_region_lit ?_
    refine wpList_builds 79 (by kernel_rfl) ?_
  | refine wpList_builds 79 (by kernel_rfl) ?_
  simp only [List.drop_succ_cons, List.drop_zero]
  refine wpList_store_row rfl 84 (.tmp 0) (.tmp 79) rfl w.heap.size (tabCells .i32 tPict).toArray (by kernel_rfl) (by kernel_rfl) 84 _ (heap_alloc_last w _) (by rw [hs]; kernel_rfl) (by rw [hs]; exact zeros_size 156) (tab_one _ _) ?_
  refine wpList_nil ?_
  rw [World.setRow_alloc_new]
  change Code.wp _ Code.ret _ _ _
  refine wp_ret ?_
  refine bodyPost_ret (results_cell_row Try.results56 _ _ w.heap.size 84 (tabCells .i32 tPict).toArray (0, 0) _ (by kernel_rfl) (heap_alloc_last w _) Try.underlying84 rfl (by rw [hs]; kernel_rfl)) (by kernel_rfl) ⟨rfl, (Below.refl _ _).alloc (Nat.le_refl _) _⟩
set_option maxRecDepth 100000 in
theorem consonants_any (w : World) : Calls Try.prog 58 #[] w (Gives w (.agg (tabCells .i32 tCons).toArray)) := by
  have hs := tab_size .i32 tCons 26 tCons_len
  go_enter Try.func58, Try.ntmps58
  refine wp_seq ?_
  refine wp_region_lit ?_
  refine wpList_alloc_zero rfl 88 rfl (.agg (Array.replicate 52 (.int .i32 0))) 52 (by kernel_rfl) ?_
  first
  | refine wpList_nil ?_
    change Code.wp _ _ _ _ _
    refine wp_seq ?_
    refine wp_region_lit ?_
    refine wpList_builds 27 (by kernel_rfl) ?_
  | refine wpList_builds 27 (by kernel_rfl) ?_
  simp only [List.drop_succ_cons, List.drop_zero]
  refine wpList_store_row rfl 88 (.tmp 0) (.tmp 27) rfl w.heap.size (tabCells .i32 tCons).toArray (by kernel_rfl) (by kernel_rfl) 88 _ (heap_alloc_last w _) (by rw [hs]; kernel_rfl) (by rw [hs]; exact zeros_size 52) (tab_one _ _) ?_
  refine wpList_nil ?_
  rw [World.setRow_alloc_new]
  change Code.wp _ Code.ret _ _ _
  refine wp_ret ?_
  refine bodyPost_ret (results_cell_row Try.results58 _ _ w.heap.size 88 (tabCells .i32 tCons).toArray (0, 0) _ (by kernel_rfl) (heap_alloc_last w _) Try.underlying88 rfl (by rw [hs]; kernel_rfl)) (by kernel_rfl) ⟨rfl, (Below.refl _ _).alloc (Nat.le_refl _) _⟩
set_option maxRecDepth 100000 in
theorem linkers_any (w : World) : Calls Try.prog 59 #[] w (Gives w (.agg (tabCells .i32 tLink).toArray)) := by
  have hs := tab_size .i32 tLink 6 tLink_len
  go_enter Try.func59, Try.ntmps59
  refine wp_seq ?_
  refine wp_region_lit ?_
  refine wpList_alloc_zero rfl 90 rfl (.agg (Array.replicate 12 (.int .i32 0))) 12 (by kernel_rfl) ?_
  first
  | refine wpList_nil ?_
    change Code.wp _ _ _ _ _
    refine wp_seq ?_
    refine wp_region_lit ?_
    refine wpList_builds 7 (by kernel_rfl) ?_
  | refine wpList_builds 7 (by kernel_rfl) ?_
  simp only [List.drop_succ_cons, List.drop_zero]
  refine wpList_store_row rfl 90 (.tmp 0) (.tmp 7) rfl w.heap.size (tabCells .i32 tLink).toArray (by kernel_rfl) (by kernel_rfl) 90 _ (heap_alloc_last w _) (by rw [hs]; kernel_rfl) (by rw [hs]; exact zeros_size 12) (tab_one _ _) ?_
  refine wpList_nil ?_
  rw [World.setRow_alloc_new]
  change Code.wp _ Code.ret _ _ _
  refine wp_ret ?_
  refine bodyPost_ret (results_cell_row Try.results59 _ _ w.heap.size 90 (tabCells .i32 tLink).toArray (0, 0) _ (by kernel_rfl) (heap_alloc_last w _) Try.underlying90 rfl (by rw [hs]; kernel_rfl)) (by kernel_rfl) ⟨rfl, (Below.refl _ _).alloc (Nat.le_refl _) _⟩
set_option maxRecDepth 100000 in
theorem joiners_any (w : World) : Calls Try.prog 60 #[] w (Gives w (.agg (tabCells .i32 tJoin).toArray)) := by
  have hs := tab_size .i32 tJoin 18 tJoin_len
  go_enter Try.func60, Try.ntmps60
  refine wp_seq ?_
  refine wp_region_lit ?_
  refine wpList_alloc_zero rfl 92 rfl (.agg (Array.replicate 36 (.int .i32 0))) 36 (by kernel_rfl) ?_
  first
  | refine wpList_nil ?_
    change Code.wp _ _ _ _ _
    refine wp_seq ?_
    refine wp_region_lit ?_
    refine wpList_builds 19 (by kernel_rfl) ?_
  | refine wpList_builds 19 (by kernel_rfl) ?_
  simp only [List.drop_succ_cons, List.drop_zero]
  refine wpList_store_row rfl 92 (.tmp 0) (.tmp 19) rfl w.heap.size (tabCells .i32 tJoin).toArray (by kernel_rfl) (by kernel_rfl) 92 _ (heap_alloc_last w _) (by rw [hs]; kernel_rfl) (by rw [hs]; exact zeros_size 36) (tab_one _ _) ?_
  refine wpList_nil ?_
  rw [World.setRow_alloc_new]
  change Code.wp _ Code.ret _ _ _
  refine wp_ret ?_
  refine bodyPost_ret (results_cell_row Try.results60 _ _ w.heap.size 92 (tabCells .i32 tJoin).toArray (0, 0) _ (by kernel_rfl) (heap_alloc_last w _) Try.underlying92 rfl (by rw [hs]; kernel_rfl)) (by kernel_rfl) ⟨rfl, (Below.refl _ _).alloc (Nat.le_refl _) _⟩
set_option maxRecDepth 100000 in
theorem wides_any (w : World) : Calls Try.prog 61 #[] w (Gives w (.agg (tabCells .i32 tWide).toArray)) := by
  have hs := tab_size .i32 tWide 109 tWide_len
  go_enter Try.func61, Try.ntmps61
  refine wp_seq ?_
  refine wp_region_lit ?_
  refine wpList_alloc_zero rfl 94 rfl (.agg (Array.replicate 218 (.int .i32 0))) 218 (by kernel_rfl) ?_
  first
  | refine wpList_nil ?_
    change Code.wp _ _ _ _ _
    refine wp_seq ?_
    refine wp_region_lit ?_
    refine wpList_builds 110 (by kernel_rfl) ?_
  | refine wpList_builds 110 (by kernel_rfl) ?_
  simp only [List.drop_succ_cons, List.drop_zero]
  refine wpList_store_row rfl 94 (.tmp 0) (.tmp 110) rfl w.heap.size (tabCells .i32 tWide).toArray (by kernel_rfl) (by kernel_rfl) 94 _ (heap_alloc_last w _) (by rw [hs]; kernel_rfl) (by rw [hs]; exact zeros_size 218) (tab_one _ _) ?_
  refine wpList_nil ?_
  rw [World.setRow_alloc_new]
  change Code.wp _ Code.ret _ _ _
  refine wp_ret ?_
  refine bodyPost_ret (results_cell_row Try.results61 _ _ w.heap.size 94 (tabCells .i32 tWide).toArray (0, 0) _ (by kernel_rfl) (heap_alloc_last w _) Try.underlying94 rfl (by rw [hs]; kernel_rfl)) (by kernel_rfl) ⟨rfl, (Below.refl _ _).alloc (Nat.le_refl _) _⟩
set_option maxRecDepth 100000 in
theorem fulls_any (w : World) : Calls Try.prog 62 #[] w (Gives w (.agg (tabCells .i32 tFull).toArray)) := by
  have hs := tab_size .i32 tFull 3 tFull_len
  go_enter Try.func62, Try.ntmps62
  refine wp_seq ?_
  refine wp_region_lit ?_
  refine wpList_alloc_zero rfl 96 rfl (.agg (Array.replicate 6 (.int .i32 0))) 6 (by kernel_rfl) ?_
  first
  | refine wpList_nil ?_
    change Code.wp _ _ _ _ _
    refine wp_seq ?_
    refine wp_region_lit ?_
    refine wpList_builds 4 (by kernel_rfl) ?_
  | refine wpList_builds 4 (by kernel_rfl) ?_
  simp only [List.drop_succ_cons, List.drop_zero]
  refine wpList_store_row rfl 96 (.tmp 0) (.tmp 4) rfl w.heap.size (tabCells .i32 tFull).toArray (by kernel_rfl) (by kernel_rfl) 96 _ (heap_alloc_last w _) (by rw [hs]; kernel_rfl) (by rw [hs]; exact zeros_size 6) (tab_one _ _) ?_
  refine wpList_nil ?_
  rw [World.setRow_alloc_new]
  change Code.wp _ Code.ret _ _ _
  refine wp_ret ?_
  refine bodyPost_ret (results_cell_row Try.results62 _ _ w.heap.size 96 (tabCells .i32 tFull).toArray (0, 0) _ (by kernel_rfl) (heap_alloc_last w _) Try.underlying96 rfl (by rw [hs]; kernel_rfl)) (by kernel_rfl) ⟨rfl, (Below.refl _ _).alloc (Nat.le_refl _) _⟩
set_option maxRecDepth 100000 in
theorem halves_any (w : World) : Calls Try.prog 63 #[] w (Gives w (.agg (tabCells .i32 tHalf).toArray)) := by
  have hs := tab_size .i32 tHalf 7 tHalf_len
  go_enter Try.func63, Try.ntmps63
  refine wp_seq ?_
  refine wp_region_lit ?_
  refine wpList_alloc_zero rfl 98 rfl (.agg (Array.replicate 14 (.int .i32 0))) 14 (by kernel_rfl) ?_
  first
  | refine wpList_nil ?_
    change Code.wp _ _ _ _ _
    refine wp_seq ?_
    refine wp_region_lit ?_
    refine wpList_builds 8 (by kernel_rfl) ?_
  | refine wpList_builds 8 (by kernel_rfl) ?_
  simp only [List.drop_succ_cons, List.drop_zero]
  refine wpList_store_row rfl 98 (.tmp 0) (.tmp 8) rfl w.heap.size (tabCells .i32 tHalf).toArray (by kernel_rfl) (by kernel_rfl) 98 _ (heap_alloc_last w _) (by rw [hs]; kernel_rfl) (by rw [hs]; exact zeros_size 14) (tab_one _ _) ?_
  refine wpList_nil ?_
  rw [World.setRow_alloc_new]
  change Code.wp _ Code.ret _ _ _
  refine wp_ret ?_
  refine bodyPost_ret (results_cell_row Try.results63 _ _ w.heap.size 98 (tabCells .i32 tHalf).toArray (0, 0) _ (by kernel_rfl) (heap_alloc_last w _) Try.underlying98 rfl (by rw [hs]; kernel_rfl)) (by kernel_rfl) ⟨rfl, (Below.refl _ _).alloc (Nat.le_refl _) _⟩
set_option maxRecDepth 100000 in
theorem r09list1_any (w : World) : Calls Try.prog 17 #[] w (GivesT .i64 w tCR) := by
  go_enter Try.func17, Try.ntmps17
  refine wp_seq ?_
  refine wp_region_lit ?_
  refine wpList_assign rfl _ rfl ?_
  first
  | refine wpList_nil ?_
    change Code.wp _ _ _ _ _
    refine wp_seq ?_
    refine wp_region_lit ?_
    refine wpList_builds 1 (by kernel_rfl) ?_
  | refine wpList_builds 1 (by kernel_rfl) ?_
  simp only [List.drop_succ_cons, List.drop_zero]
  refine wpList_buildSlice rfl 46 1 _ rfl 64 (tabCells .i64 tCR).toArray (by kernel_rfl) ?_
  refine wpList_assign rfl _ rfl ?_
  refine wpList_nil ?_
  change Code.wp _ Code.ret _ _ _
  refine wp_ret ?_
  exact bodyPost_ret (v := .slice (some ⟨w.heap.size, 0, none⟩) 1 1) (by rw [results_tmp Try.results17]; kernel_rfl) (by kernel_rfl) ⟨_, rfl, heldT_has (T := tCR) (heap_alloc_last w _), (Below.refl _ _).alloc (Nat.le_refl _) _⟩
set_option maxRecDepth 100000 in
theorem r09list2_any (w : World) : Calls Try.prog 18 #[] w (GivesT .i64 w tLF) := by
  go_enter Try.func18, Try.ntmps18
  refine wp_seq ?_
  refine wp_region_lit ?_
  refine wpList_assign rfl _ rfl ?_
  first
  | refine wpList_nil ?_
    change Code.wp _ _ _ _ _
    refine wp_seq ?_
    refine wp_region_lit ?_
    refine wpList_builds 1 (by kernel_rfl) ?_
  | refine wpList_builds 1 (by kernel_rfl) ?_
  simp only [List.drop_succ_cons, List.drop_zero]
  refine wpList_buildSlice rfl 46 1 _ rfl 64 (tabCells .i64 tLF).toArray (by kernel_rfl) ?_
  refine wpList_assign rfl _ rfl ?_
  refine wpList_nil ?_
  change Code.wp _ Code.ret _ _ _
  refine wp_ret ?_
  exact bodyPost_ret (v := .slice (some ⟨w.heap.size, 0, none⟩) 1 1) (by rw [results_tmp Try.results18]; kernel_rfl) (by kernel_rfl) ⟨_, rfl, heldT_has (T := tLF) (heap_alloc_last w _), (Below.refl _ _).alloc (Nat.le_refl _) _⟩
set_option maxRecDepth 100000 in
theorem r09list3_any (w : World) : Calls Try.prog 19 #[] w (GivesT .i64 w tControl) := by
  go_enter Try.func19, Try.ntmps19
  refine wp_seq ?_
  refine wp_region_lit ?_
  refine wpList_assign rfl _ rfl ?_
  first
  | refine wpList_nil ?_
    change Code.wp _ _ _ _ _
    refine wp_seq ?_
    refine wp_region_lit ?_
    refine wpList_builds 16 (by kernel_rfl) ?_
  | refine wpList_builds 16 (by kernel_rfl) ?_
  simp only [List.drop_succ_cons, List.drop_zero]
  refine wpList_buildSlice rfl 46 16 _ rfl 64 (tabCells .i64 tControl).toArray (by kernel_rfl) ?_
  refine wpList_assign rfl _ rfl ?_
  refine wpList_nil ?_
  change Code.wp _ Code.ret _ _ _
  refine wp_ret ?_
  exact bodyPost_ret (v := .slice (some ⟨w.heap.size, 0, none⟩) 16 16) (by rw [results_tmp Try.results19]; kernel_rfl) (by kernel_rfl) ⟨_, rfl, heldT_has (T := tControl) (heap_alloc_last w _), (Below.refl _ _).alloc (Nat.le_refl _) _⟩
set_option maxRecDepth 100000 in
theorem r09list4_any (w : World) : Calls Try.prog 20 #[] w (GivesT .i64 w tExtend) := by
  go_enter Try.func20, Try.ntmps20
  refine wp_seq ?_
  refine wp_region_lit ?_
  refine wpList_assign rfl _ rfl ?_
  first
  | refine wpList_nil ?_
    change Code.wp _ _ _ _ _
    refine wp_seq ?_
    refine wp_region_lit ?_
    refine wpList_builds 77 (by kernel_rfl) ?_
  | refine wpList_builds 77 (by kernel_rfl) ?_
  simp only [List.drop_succ_cons, List.drop_zero]
  refine wpList_buildSlice rfl 46 77 _ rfl 64 (tabCells .i64 tExtend).toArray (by kernel_rfl) ?_
  refine wpList_assign rfl _ rfl ?_
  refine wpList_nil ?_
  change Code.wp _ Code.ret _ _ _
  refine wp_ret ?_
  exact bodyPost_ret (v := .slice (some ⟨w.heap.size, 0, none⟩) 77 77) (by rw [results_tmp Try.results20]; kernel_rfl) (by kernel_rfl) ⟨_, rfl, heldT_has (T := tExtend) (heap_alloc_last w _), (Below.refl _ _).alloc (Nat.le_refl _) _⟩
set_option maxRecDepth 100000 in
theorem r09list5_any (w : World) : Calls Try.prog 21 #[] w (GivesT .i64 w tZWJ) := by
  go_enter Try.func21, Try.ntmps21
  refine wp_seq ?_
  refine wp_region_lit ?_
  refine wpList_assign rfl _ rfl ?_
  first
  | refine wpList_nil ?_
    change Code.wp _ _ _ _ _
    refine wp_seq ?_
    refine wp_region_lit ?_
    refine wpList_builds 1 (by kernel_rfl) ?_
  | refine wpList_builds 1 (by kernel_rfl) ?_
  simp only [List.drop_succ_cons, List.drop_zero]
  refine wpList_buildSlice rfl 46 1 _ rfl 64 (tabCells .i64 tZWJ).toArray (by kernel_rfl) ?_
  refine wpList_assign rfl _ rfl ?_
  refine wpList_nil ?_
  change Code.wp _ Code.ret _ _ _
  refine wp_ret ?_
  exact bodyPost_ret (v := .slice (some ⟨w.heap.size, 0, none⟩) 1 1) (by rw [results_tmp Try.results21]; kernel_rfl) (by kernel_rfl) ⟨_, rfl, heldT_has (T := tZWJ) (heap_alloc_last w _), (Below.refl _ _).alloc (Nat.le_refl _) _⟩
set_option maxRecDepth 100000 in
theorem r09list6_any (w : World) : Calls Try.prog 22 #[] w (GivesT .i64 w tRI) := by
  go_enter Try.func22, Try.ntmps22
  refine wp_seq ?_
  refine wp_region_lit ?_
  refine wpList_assign rfl _ rfl ?_
  first
  | refine wpList_nil ?_
    change Code.wp _ _ _ _ _
    refine wp_seq ?_
    refine wp_region_lit ?_
    refine wpList_builds 1 (by kernel_rfl) ?_
  | refine wpList_builds 1 (by kernel_rfl) ?_
  simp only [List.drop_succ_cons, List.drop_zero]
  refine wpList_buildSlice rfl 46 1 _ rfl 64 (tabCells .i64 tRI).toArray (by kernel_rfl) ?_
  refine wpList_assign rfl _ rfl ?_
  refine wpList_nil ?_
  change Code.wp _ Code.ret _ _ _
  refine wp_ret ?_
  exact bodyPost_ret (v := .slice (some ⟨w.heap.size, 0, none⟩) 1 1) (by rw [results_tmp Try.results22]; kernel_rfl) (by kernel_rfl) ⟨_, rfl, heldT_has (T := tRI) (heap_alloc_last w _), (Below.refl _ _).alloc (Nat.le_refl _) _⟩
set_option maxRecDepth 100000 in
theorem r09list7_any (w : World) : Calls Try.prog 23 #[] w (GivesT .i64 w tPrepend) := by
  go_enter Try.func23, Try.ntmps23
  refine wp_seq ?_
  refine wp_region_lit ?_
  refine wpList_assign rfl _ rfl ?_
  first
  | refine wpList_nil ?_
    change Code.wp _ _ _ _ _
    refine wp_seq ?_
    refine wp_region_lit ?_
    refine wpList_builds 8 (by kernel_rfl) ?_
  | refine wpList_builds 8 (by kernel_rfl) ?_
  simp only [List.drop_succ_cons, List.drop_zero]
  refine wpList_buildSlice rfl 46 8 _ rfl 64 (tabCells .i64 tPrepend).toArray (by kernel_rfl) ?_
  refine wpList_assign rfl _ rfl ?_
  refine wpList_nil ?_
  change Code.wp _ Code.ret _ _ _
  refine wp_ret ?_
  exact bodyPost_ret (v := .slice (some ⟨w.heap.size, 0, none⟩) 8 8) (by rw [results_tmp Try.results23]; kernel_rfl) (by kernel_rfl) ⟨_, rfl, heldT_has (T := tPrepend) (heap_alloc_last w _), (Below.refl _ _).alloc (Nat.le_refl _) _⟩
set_option maxRecDepth 100000 in
theorem r09list8_any (w : World) : Calls Try.prog 24 #[] w (GivesT .i64 w tSpacing) := by
  go_enter Try.func24, Try.ntmps24
  refine wp_seq ?_
  refine wp_region_lit ?_
  refine wpList_assign rfl _ rfl ?_
  first
  | refine wpList_nil ?_
    change Code.wp _ _ _ _ _
    refine wp_seq ?_
    refine wp_region_lit ?_
    refine wpList_builds 26 (by kernel_rfl) ?_
  | refine wpList_builds 26 (by kernel_rfl) ?_
  simp only [List.drop_succ_cons, List.drop_zero]
  refine wpList_buildSlice rfl 46 26 _ rfl 64 (tabCells .i64 tSpacing).toArray (by kernel_rfl) ?_
  refine wpList_assign rfl _ rfl ?_
  refine wpList_nil ?_
  change Code.wp _ Code.ret _ _ _
  refine wp_ret ?_
  exact bodyPost_ret (v := .slice (some ⟨w.heap.size, 0, none⟩) 26 26) (by rw [results_tmp Try.results24]; kernel_rfl) (by kernel_rfl) ⟨_, rfl, heldT_has (T := tSpacing) (heap_alloc_last w _), (Below.refl _ _).alloc (Nat.le_refl _) _⟩
end Go.Proofs.Ytkpmmkokfllafaa
