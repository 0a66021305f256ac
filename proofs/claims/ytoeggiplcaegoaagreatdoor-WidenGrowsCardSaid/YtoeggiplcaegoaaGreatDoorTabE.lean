/- The tables of the program and of the reference, as their functions give them. -/
import Derived.Test.YtoeggiplcaegoaaGreatDoorMg1
namespace Go.Proofs.YtoeggiplcaegoaaGreatDoor
open Go.RowKit Go.ChangeShapes Go.WideShapes
theorem wpList_assign {P : Program} {ops : Array Oper} {Q : Exit → Act → World → Prop} {w : World} {o : Oper} {rest : List Oper} {a : Act} (hg : o.guard = none) (x : Operand) (ho : o.op = .assign x)
    (h : wpList P ops Q rest (a.put o.dst (a.eval x)) w) : wpList P ops Q (o :: rest) a w := by
  refine wpList_plain hg fun K hK => ?_
  unfold Oper.wp execOp
  simp only [ho]
  exact hK _ _ h
def GivesT (k : IntKind) (w : World) (T : List (Int × Int)) (e : Ending) (w' : World) : Prop := ∃ v, e = .returned v ∧ HeldT k w' v T ∧ Below w.heap.size w w'
def tCR : List (Int × Int) := [(13, 13)]
def tLF : List (Int × Int) := [(10, 10)]
def tZWJ : List (Int × Int) := [(8205, 8205)]
def tRI : List (Int × Int) := [(127462, 127487)]
set_option maxRecDepth 100000 in
theorem r09list1_any (w : World) : Calls Tryz.prog 117 #[] w (GivesT .i64 w tCR) := by
  go_enter Tryz.func117, Tryz.ntmps117
  refine wp_seq ?_
  refine wp_region_lit ?_
  refine wpList_assign rfl _ rfl ?_
  first
  | refine wpList_nil ?_
    change Code.wp _ _ _ _ _
    refine wp_seq ?_
    refine wp_region_lit ?_
    refine wpList_builds 1 (by kernel_rfl) ?_
  | refine wpList_builds 1 (by kernel_rfl) ?_
  simp only [List.drop_succ_cons, List.drop_zero]
  refine wpList_buildSlice rfl 188 1 _ rfl 242 (tabCells .i64 tCR).toArray (by kernel_rfl) ?_
  refine wpList_assign rfl _ rfl ?_
  refine wpList_nil ?_
  change Code.wp _ Code.ret _ _ _
  refine wp_ret ?_
  exact bodyPost_ret (v := .slice (some ⟨w.heap.size, 0, none⟩) 1 1) (by rw [results_tmp Tryz.results117]; kernel_rfl) (by kernel_rfl) ⟨_, rfl, heldT_has (T := tCR) (heap_alloc_last w _), (Below.refl _ _).alloc (Nat.le_refl _) _⟩
set_option maxRecDepth 100000 in
theorem r09list2_any (w : World) : Calls Tryz.prog 118 #[] w (GivesT .i64 w tLF) := by
  go_enter Tryz.func118, Tryz.ntmps118
  refine wp_seq ?_
  refine wp_region_lit ?_
  refine wpList_assign rfl _ rfl ?_
  first
  | refine wpList_nil ?_
    change Code.wp _ _ _ _ _
    refine wp_seq ?_
    refine wp_region_lit ?_
    refine wpList_builds 1 (by kernel_rfl) ?_
  | refine wpList_builds 1 (by kernel_rfl) ?_
  simp only [List.drop_succ_cons, List.drop_zero]
  refine wpList_buildSlice rfl 188 1 _ rfl 242 (tabCells .i64 tLF).toArray (by kernel_rfl) ?_
  refine wpList_assign rfl _ rfl ?_
  refine wpList_nil ?_
  change Code.wp _ Code.ret _ _ _
  refine wp_ret ?_
  exact bodyPost_ret (v := .slice (some ⟨w.heap.size, 0, none⟩) 1 1) (by rw [results_tmp Tryz.results118]; kernel_rfl) (by kernel_rfl) ⟨_, rfl, heldT_has (T := tLF) (heap_alloc_last w _), (Below.refl _ _).alloc (Nat.le_refl _) _⟩
set_option maxRecDepth 100000 in
theorem r09list3_any (w : World) : Calls Tryz.prog 119 #[] w (GivesT .i64 w tControl) := by
  go_enter Tryz.func119, Tryz.ntmps119
  refine wp_seq ?_
  refine wp_region_lit ?_
  refine wpList_assign rfl _ rfl ?_
  first
  | refine wpList_nil ?_
    change Code.wp _ _ _ _ _
    refine wp_seq ?_
    refine wp_region_lit ?_
    refine wpList_builds 16 (by kernel_rfl) ?_
  | refine wpList_builds 16 (by kernel_rfl) ?_
  simp only [List.drop_succ_cons, List.drop_zero]
  refine wpList_buildSlice rfl 188 16 _ rfl 242 (tabCells .i64 tControl).toArray (by kernel_rfl) ?_
  refine wpList_assign rfl _ rfl ?_
  refine wpList_nil ?_
  change Code.wp _ Code.ret _ _ _
  refine wp_ret ?_
  exact bodyPost_ret (v := .slice (some ⟨w.heap.size, 0, none⟩) 16 16) (by rw [results_tmp Tryz.results119]; kernel_rfl) (by kernel_rfl) ⟨_, rfl, heldT_has (T := tControl) (heap_alloc_last w _), (Below.refl _ _).alloc (Nat.le_refl _) _⟩
set_option maxRecDepth 100000 in
theorem r09list4_any (w : World) : Calls Tryz.prog 120 #[] w (GivesT .i64 w tExtend) := by
  go_enter Tryz.func120, Tryz.ntmps120
  refine wp_seq ?_
  refine wp_region_lit ?_
  refine wpList_assign rfl _ rfl ?_
  first
  | refine wpList_nil ?_
    change Code.wp _ _ _ _ _
    refine wp_seq ?_
    refine wp_region_lit ?_
    refine wpList_builds 77 (by kernel_rfl) ?_
  | refine wpList_builds 77 (by kernel_rfl) ?_
  simp only [List.drop_succ_cons, List.drop_zero]
  refine wpList_buildSlice rfl 188 77 _ rfl 242 (tabCells .i64 tExtend).toArray (by kernel_rfl) ?_
  refine wpList_assign rfl _ rfl ?_
  refine wpList_nil ?_
  change Code.wp _ Code.ret _ _ _
  refine wp_ret ?_
  exact bodyPost_ret (v := .slice (some ⟨w.heap.size, 0, none⟩) 77 77) (by rw [results_tmp Tryz.results120]; kernel_rfl) (by kernel_rfl) ⟨_, rfl, heldT_has (T := tExtend) (heap_alloc_last w _), (Below.refl _ _).alloc (Nat.le_refl _) _⟩
set_option maxRecDepth 100000 in
theorem r09list5_any (w : World) : Calls Tryz.prog 121 #[] w (GivesT .i64 w tZWJ) := by
  go_enter Tryz.func121, Tryz.ntmps121
  refine wp_seq ?_
  refine wp_region_lit ?_
  refine wpList_assign rfl _ rfl ?_
  first
  | refine wpList_nil ?_
    change Code.wp _ _ _ _ _
    refine wp_seq ?_
    refine wp_region_lit ?_
    refine wpList_builds 1 (by kernel_rfl) ?_
  | refine wpList_builds 1 (by kernel_rfl) ?_
  simp only [List.drop_succ_cons, List.drop_zero]
  refine wpList_buildSlice rfl 188 1 _ rfl 242 (tabCells .i64 tZWJ).toArray (by kernel_rfl) ?_
  refine wpList_assign rfl _ rfl ?_
  refine wpList_nil ?_
  change Code.wp _ Code.ret _ _ _
  refine wp_ret ?_
  exact bodyPost_ret (v := .slice (some ⟨w.heap.size, 0, none⟩) 1 1) (by rw [results_tmp Tryz.results121]; kernel_rfl) (by kernel_rfl) ⟨_, rfl, heldT_has (T := tZWJ) (heap_alloc_last w _), (Below.refl _ _).alloc (Nat.le_refl _) _⟩
set_option maxRecDepth 100000 in
theorem r09list6_any (w : World) : Calls Tryz.prog 122 #[] w (GivesT .i64 w tRI) := by
  go_enter Tryz.func122, Tryz.ntmps122
  refine wp_seq ?_
  refine wp_region_lit ?_
  refine wpList_assign rfl _ rfl ?_
  first
  | refine wpList_nil ?_
    change Code.wp _ _ _ _ _
    refine wp_seq ?_
    refine wp_region_lit ?_
    refine wpList_builds 1 (by kernel_rfl) ?_
  | refine wpList_builds 1 (by kernel_rfl) ?_
  simp only [List.drop_succ_cons, List.drop_zero]
  refine wpList_buildSlice rfl 188 1 _ rfl 242 (tabCells .i64 tRI).toArray (by kernel_rfl) ?_
  refine wpList_assign rfl _ rfl ?_
  refine wpList_nil ?_
  change Code.wp _ Code.ret _ _ _
  refine wp_ret ?_
  exact bodyPost_ret (v := .slice (some ⟨w.heap.size, 0, none⟩) 1 1) (by rw [results_tmp Tryz.results122]; kernel_rfl) (by kernel_rfl) ⟨_, rfl, heldT_has (T := tRI) (heap_alloc_last w _), (Below.refl _ _).alloc (Nat.le_refl _) _⟩
set_option maxRecDepth 100000 in
theorem r09list7_any (w : World) : Calls Tryz.prog 123 #[] w (GivesT .i64 w tPrepend) := by
  go_enter Tryz.func123, Tryz.ntmps123
  refine wp_seq ?_
  refine wp_region_lit ?_
  refine wpList_assign rfl _ rfl ?_
  first
  | refine wpList_nil ?_
    change Code.wp _ _ _ _ _
    refine wp_seq ?_
    refine wp_region_lit ?_
    refine wpList_builds 8 (by kernel_rfl) ?_
  | refine wpList_builds 8 (by kernel_rfl) ?_
  simp only [List.drop_succ_cons, List.drop_zero]
  refine wpList_buildSlice rfl 188 8 _ rfl 242 (tabCells .i64 tPrepend).toArray (by kernel_rfl) ?_
  refine wpList_assign rfl _ rfl ?_
  refine wpList_nil ?_
  change Code.wp _ Code.ret _ _ _
  refine wp_ret ?_
  exact bodyPost_ret (v := .slice (some ⟨w.heap.size, 0, none⟩) 8 8) (by rw [results_tmp Tryz.results123]; kernel_rfl) (by kernel_rfl) ⟨_, rfl, heldT_has (T := tPrepend) (heap_alloc_last w _), (Below.refl _ _).alloc (Nat.le_refl _) _⟩
set_option maxRecDepth 100000 in
theorem r09list8_any (w : World) : Calls Tryz.prog 124 #[] w (GivesT .i64 w tSpacing) := by
  go_enter Tryz.func124, Tryz.ntmps124
  refine wp_seq ?_
  refine wp_region_lit ?_
  refine wpList_assign rfl _ rfl ?_
  first
  | refine wpList_nil ?_
    change Code.wp _ _ _ _ _
    refine wp_seq ?_
    refine wp_region_lit ?_
    refine wpList_builds 26 (by kernel_rfl) ?_
  | refine wpList_builds 26 (by kernel_rfl) ?_
  simp only [List.drop_succ_cons, List.drop_zero]
  refine wpList_buildSlice rfl 188 26 _ rfl 242 (tabCells .i64 tSpacing).toArray (by kernel_rfl) ?_
  refine wpList_assign rfl _ rfl ?_
  refine wpList_nil ?_
  change Code.wp _ Code.ret _ _ _
  refine wp_ret ?_
  exact bodyPost_ret (v := .slice (some ⟨w.heap.size, 0, none⟩) 26 26) (by rw [results_tmp Tryz.results124]; kernel_rfl) (by kernel_rfl) ⟨_, rfl, heldT_has (T := tSpacing) (heap_alloc_last w _), (Below.refl _ _).alloc (Nat.le_refl _) _⟩
set_option maxRecDepth 100000 in
theorem r10list_any (w : World) : Calls Tryz.prog 127 #[] w (GivesT .i64 w tPict) := by
  go_enter Tryz.func127, Tryz.ntmps127
  refine wp_seq ?_
  refine wp_region_lit ?_
  refine wpList_assign rfl _ rfl ?_
  first
  | refine wpList_nil ?_
    change Code.wp _ _ _ _ _
    refine wp_seq ?_
    refine wp_region_lit ?_
    refine wpList_builds 78 (by kernel_rfl) ?_
  | refine wpList_builds 78 (by kernel_rfl) ?_
  simp only [List.drop_succ_cons, List.drop_zero]
  refine wpList_buildSlice rfl 188 78 _ rfl 242 (tabCells .i64 tPict).toArray (by kernel_rfl) ?_
  refine wpList_assign rfl _ rfl ?_
  refine wpList_nil ?_
  change Code.wp _ Code.ret _ _ _
  refine wp_ret ?_
  exact bodyPost_ret (v := .slice (some ⟨w.heap.size, 0, none⟩) 78 78) (by rw [results_tmp Tryz.results127]; kernel_rfl) (by kernel_rfl) ⟨_, rfl, heldT_has (T := tPict) (heap_alloc_last w _), (Below.refl _ _).alloc (Nat.le_refl _) _⟩
set_option maxRecDepth 100000 in
theorem r11list1_any (w : World) : Calls Tryz.prog 128 #[] w (GivesT .i64 w tCons) := by
  go_enter Tryz.func128, Tryz.ntmps128
  refine wp_seq ?_
  refine wp_region_lit ?_
  refine wpList_assign rfl _ rfl ?_
  first
  | refine wpList_nil ?_
    change Code.wp _ _ _ _ _
    refine wp_seq ?_
    refine wp_region_lit ?_
    refine wpList_builds 26 (by kernel_rfl) ?_
  | refine wpList_builds 26 (by kernel_rfl) ?_
  simp only [List.drop_succ_cons, List.drop_zero]
  refine wpList_buildSlice rfl 188 26 _ rfl 242 (tabCells .i64 tCons).toArray (by kernel_rfl) ?_
  refine wpList_assign rfl _ rfl ?_
  refine wpList_nil ?_
  change Code.wp _ Code.ret _ _ _
  refine wp_ret ?_
  exact bodyPost_ret (v := .slice (some ⟨w.heap.size, 0, none⟩) 26 26) (by rw [results_tmp Tryz.results128]; kernel_rfl) (by kernel_rfl) ⟨_, rfl, heldT_has (T := tCons) (heap_alloc_last w _), (Below.refl _ _).alloc (Nat.le_refl _) _⟩
set_option maxRecDepth 100000 in
theorem r11list2_any (w : World) : Calls Tryz.prog 129 #[] w (GivesT .i64 w tLink) := by
  go_enter Tryz.func129, Tryz.ntmps129
  refine wp_seq ?_
  refine wp_region_lit ?_
  refine wpList_assign rfl _ rfl ?_
  first
  | refine wpList_nil ?_
    change Code.wp _ _ _ _ _
    refine wp_seq ?_
    refine wp_region_lit ?_
    refine wpList_builds 6 (by kernel_rfl) ?_
  | refine wpList_builds 6 (by kernel_rfl) ?_
  simp only [List.drop_succ_cons, List.drop_zero]
  refine wpList_buildSlice rfl 188 6 _ rfl 242 (tabCells .i64 tLink).toArray (by kernel_rfl) ?_
  refine wpList_assign rfl _ rfl ?_
  refine wpList_nil ?_
  change Code.wp _ Code.ret _ _ _
  refine wp_ret ?_
  exact bodyPost_ret (v := .slice (some ⟨w.heap.size, 0, none⟩) 6 6) (by rw [results_tmp Tryz.results129]; kernel_rfl) (by kernel_rfl) ⟨_, rfl, heldT_has (T := tLink) (heap_alloc_last w _), (Below.refl _ _).alloc (Nat.le_refl _) _⟩
set_option maxRecDepth 100000 in
theorem r11list3_any (w : World) : Calls Tryz.prog 130 #[] w (GivesT .i64 w tJoin) := by
  go_enter Tryz.func130, Tryz.ntmps130
  refine wp_seq ?_
  refine wp_region_lit ?_
  refine wpList_assign rfl _ rfl ?_
  first
  | refine wpList_nil ?_
    change Code.wp _ _ _ _ _
    refine wp_seq ?_
    refine wp_region_lit ?_
    refine wpList_builds 18 (by kernel_rfl) ?_
  | refine wpList_builds 18 (by kernel_rfl) ?_
  simp only [List.drop_succ_cons, List.drop_zero]
  refine wpList_buildSlice rfl 188 18 _ rfl 242 (tabCells .i64 tJoin).toArray (by kernel_rfl) ?_
  refine wpList_assign rfl _ rfl ?_
  refine wpList_nil ?_
  change Code.wp _ Code.ret _ _ _
  refine wp_ret ?_
  exact bodyPost_ret (v := .slice (some ⟨w.heap.size, 0, none⟩) 18 18) (by rw [results_tmp Tryz.results130]; kernel_rfl) (by kernel_rfl) ⟨_, rfl, heldT_has (T := tJoin) (heap_alloc_last w _), (Below.refl _ _).alloc (Nat.le_refl _) _⟩
set_option maxRecDepth 100000 in
theorem r12list1_any (w : World) : Calls Tryz.prog 131 #[] w (GivesT .i64 w tWide) := by
  go_enter Tryz.func131, Tryz.ntmps131
  refine wp_seq ?_
  refine wp_region_lit ?_
  refine wpList_assign rfl _ rfl ?_
  first
  | refine wpList_nil ?_
    change Code.wp _ _ _ _ _
    refine wp_seq ?_
    refine wp_region_lit ?_
    refine wpList_builds 109 (by kernel_rfl) ?_
  | refine wpList_builds 109 (by kernel_rfl) ?_
  simp only [List.drop_succ_cons, List.drop_zero]
  refine wpList_buildSlice rfl 188 109 _ rfl 242 (tabCells .i64 tWide).toArray (by kernel_rfl) ?_
  refine wpList_assign rfl _ rfl ?_
  refine wpList_nil ?_
  change Code.wp _ Code.ret _ _ _
  refine wp_ret ?_
  exact bodyPost_ret (v := .slice (some ⟨w.heap.size, 0, none⟩) 109 109) (by rw [results_tmp Tryz.results131]; kernel_rfl) (by kernel_rfl) ⟨_, rfl, heldT_has (T := tWide) (heap_alloc_last w _), (Below.refl _ _).alloc (Nat.le_refl _) _⟩
set_option maxRecDepth 100000 in
theorem r12list2_any (w : World) : Calls Tryz.prog 132 #[] w (GivesT .i64 w tFull) := by
  go_enter Tryz.func132, Tryz.ntmps132
  refine wp_seq ?_
  refine wp_region_lit ?_
  refine wpList_assign rfl _ rfl ?_
  first
  | refine wpList_nil ?_
    change Code.wp _ _ _ _ _
    refine wp_seq ?_
    refine wp_region_lit ?_
    refine wpList_builds 3 (by kernel_rfl) ?_
  | refine wpList_builds 3 (by kernel_rfl) ?_
  simp only [List.drop_succ_cons, List.drop_zero]
  refine wpList_buildSlice rfl 188 3 _ rfl 242 (tabCells .i64 tFull).toArray (by kernel_rfl) ?_
  refine wpList_assign rfl _ rfl ?_
  refine wpList_nil ?_
  change Code.wp _ Code.ret _ _ _
  refine wp_ret ?_
  exact bodyPost_ret (v := .slice (some ⟨w.heap.size, 0, none⟩) 3 3) (by rw [results_tmp Tryz.results132]; kernel_rfl) (by kernel_rfl) ⟨_, rfl, heldT_has (T := tFull) (heap_alloc_last w _), (Below.refl _ _).alloc (Nat.le_refl _) _⟩
set_option maxRecDepth 100000 in
theorem r12list3_any (w : World) : Calls Tryz.prog 133 #[] w (GivesT .i64 w tHalf) := by
  go_enter Tryz.func133, Tryz.ntmps133
  refine wp_seq ?_
  refine wp_region_lit ?_
  refine wpList_assign rfl _ rfl ?_
  first
  | refine wpList_nil ?_
    change Code.wp _ _ _ _ _
    refine wp_seq ?_
    refine wp_region_lit ?_
    refine wpList_builds 7 (by kernel_rfl) ?_
  | refine wpList_builds 7 (by kernel_rfl) ?_
  simp only [List.drop_succ_cons, List.drop_zero]
  refine wpList_buildSlice rfl 188 7 _ rfl 242 (tabCells .i64 tHalf).toArray (by kernel_rfl) ?_
  refine wpList_assign rfl _ rfl ?_
  refine wpList_nil ?_
  change Code.wp _ Code.ret _ _ _
  refine wp_ret ?_
  exact bodyPost_ret (v := .slice (some ⟨w.heap.size, 0, none⟩) 7 7) (by rw [results_tmp Tryz.results133]; kernel_rfl) (by kernel_rfl) ⟨_, rfl, heldT_has (T := tHalf) (heap_alloc_last w _), (Below.refl _ _).alloc (Nat.le_refl _) _⟩
end Go.Proofs.YtoeggiplcaegoaaGreatDoor
