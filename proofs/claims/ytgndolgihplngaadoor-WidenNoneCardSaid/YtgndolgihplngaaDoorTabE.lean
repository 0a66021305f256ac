/- The tables of the program and of the reference, as their functions give them. -/
import Derived.Test.YtgndolgihplngaaDoorMg1
namespace Go.Proofs.YtgndolgihplngaaDoor
open Go.RowKit Go.ChangeShapes Go.WideShapes
theorem wpList_assign {P : Program} {ops : Array Oper} {Q : Exit → Act → World → Prop} {w : World} {o : Oper} {rest : List Oper} {a : Act} (hg : o.guard = none) (x : Operand) (ho : o.op = .assign x)
    (h : wpList P ops Q rest (a.put o.dst (a.eval x)) w) : wpList P ops Q (o :: rest) a w := by
  refine wpList_plain hg fun K hK => ?_
  unfold Oper.wp execOp
  simp only [ho]
  exact hK _ _ h
def GivesT (k : IntKind) (w : World) (T : List (Int × Int)) (e : Ending) (w' : World) : Prop := ∃ v, e = .returned v ∧ HeldT k w' v T ∧ Below w.heap.size w w'
def tCR : List (Int × Int) := [(13, 13)]
def tLF : List (Int × Int) := [(10, 10)]
def tZWJ : List (Int × Int) := [(8205, 8205)]
def tRI : List (Int × Int) := [(127462, 127487)]
set_option maxRecDepth 100000 in
theorem r09list1_any (w : World) : Calls Tryd.prog 127 #[] w (GivesT .i64 w tCR) := by
  go_enter Tryd.func127, Tryd.ntmps127
  refine wp_seq ?_
  refine wp_region_lit ?_
  refine wpList_assign rfl _ rfl ?_
  first
  | refine wpList_nil ?_
    change Code.wp _ _ _ _ _
    refine wp_seq ?_
    refine wp_region_lit ?_
    refine wpList_builds 1 (by kernel_rfl) ?_
  | refine wpList_builds 1 (by kernel_rfl) ?_
  simp only [List.drop_succ_cons, List.drop_zero]
  refine wpList_buildSlice rfl 27 1 _ rfl 40 (tabCells .i64 tCR).toArray (by kernel_rfl) ?_
  refine wpList_assign rfl _ rfl ?_
  refine wpList_nil ?_
  change Code.wp _ Code.ret _ _ _
  refine wp_ret ?_
  exact bodyPost_ret (v := .slice (some ⟨w.heap.size, 0, none⟩) 1 1) (by rw [results_tmp Tryd.results127]; kernel_rfl) (by kernel_rfl) ⟨_, rfl, heldT_has (T := tCR) (heap_alloc_last w _), (Below.refl _ _).alloc (Nat.le_refl _) _⟩
set_option maxRecDepth 100000 in
theorem r09list2_any (w : World) : Calls Tryd.prog 128 #[] w (GivesT .i64 w tLF) := by
  go_enter Tryd.func128, Tryd.ntmps128
  refine wp_seq ?_
  refine wp_region_lit ?_
  refine wpList_assign rfl _ rfl ?_
  first
  | refine wpList_nil ?_
    change Code.wp _ _ _ _ _
    refine wp_seq ?_
    refine wp_region_lit ?_
    refine wpList_builds 1 (by kernel_rfl) ?_
  | refine wpList_builds 1 (by kernel_rfl) ?_
  simp only [List.drop_succ_cons, List.drop_zero]
  refine wpList_buildSlice rfl 27 1 _ rfl 40 (tabCells .i64 tLF).toArray (by kernel_rfl) ?_
  refine wpList_assign rfl _ rfl ?_
  refine wpList_nil ?_
  change Code.wp _ Code.ret _ _ _
  refine wp_ret ?_
  exact bodyPost_ret (v := .slice (some ⟨w.heap.size, 0, none⟩) 1 1) (by rw [results_tmp Tryd.results128]; kernel_rfl) (by kernel_rfl) ⟨_, rfl, heldT_has (T := tLF) (heap_alloc_last w _), (Below.refl _ _).alloc (Nat.le_refl _) _⟩
set_option maxRecDepth 100000 in
theorem r09list3_any (w : World) : Calls Tryd.prog 129 #[] w (GivesT .i64 w tControl) := by
  go_enter Tryd.func129, Tryd.ntmps129
  refine wp_seq ?_
  refine wp_region_lit ?_
  refine wpList_assign rfl _ rfl ?_
  first
  | refine wpList_nil ?_
    change Code.wp _ _ _ _ _
    refine wp_seq ?_
    refine wp_region_lit ?_
    refine wpList_builds 16 (by kernel_rfl) ?_
  | refine wpList_builds 16 (by kernel_rfl) ?_
  simp only [List.drop_succ_cons, List.drop_zero]
  refine wpList_buildSlice rfl 27 16 _ rfl 40 (tabCells .i64 tControl).toArray (by kernel_rfl) ?_
  refine wpList_assign rfl _ rfl ?_
  refine wpList_nil ?_
  change Code.wp _ Code.ret _ _ _
  refine wp_ret ?_
  exact bodyPost_ret (v := .slice (some ⟨w.heap.size, 0, none⟩) 16 16) (by rw [results_tmp Tryd.results129]; kernel_rfl) (by kernel_rfl) ⟨_, rfl, heldT_has (T := tControl) (heap_alloc_last w _), (Below.refl _ _).alloc (Nat.le_refl _) _⟩
set_option maxRecDepth 100000 in
theorem r09list4_any (w : World) : Calls Tryd.prog 130 #[] w (GivesT .i64 w tExtend) := by
  go_enter Tryd.func130, Tryd.ntmps130
  refine wp_seq ?_
  refine wp_region_lit ?_
  refine wpList_assign rfl _ rfl ?_
  first
  | refine wpList_nil ?_
    change Code.wp _ _ _ _ _
    refine wp_seq ?_
    refine wp_region_lit ?_
    refine wpList_builds 77 (by kernel_rfl) ?_
  | refine wpList_builds 77 (by kernel_rfl) ?_
  simp only [List.drop_succ_cons, List.drop_zero]
  refine wpList_buildSlice rfl 27 77 _ rfl 40 (tabCells .i64 tExtend).toArray (by kernel_rfl) ?_
  refine wpList_assign rfl _ rfl ?_
  refine wpList_nil ?_
  change Code.wp _ Code.ret _ _ _
  refine wp_ret ?_
  exact bodyPost_ret (v := .slice (some ⟨w.heap.size, 0, none⟩) 77 77) (by rw [results_tmp Tryd.results130]; kernel_rfl) (by kernel_rfl) ⟨_, rfl, heldT_has (T := tExtend) (heap_alloc_last w _), (Below.refl _ _).alloc (Nat.le_refl _) _⟩
set_option maxRecDepth 100000 in
theorem r09list5_any (w : World) : Calls Tryd.prog 131 #[] w (GivesT .i64 w tZWJ) := by
  go_enter Tryd.func131, Tryd.ntmps131
  refine wp_seq ?_
  refine wp_region_lit ?_
  refine wpList_assign rfl _ rfl ?_
  first
  | refine wpList_nil ?_
    change Code.wp _ _ _ _ _
    refine wp_seq ?_
    refine wp_region_lit ?_
    refine wpList_builds 1 (by kernel_rfl) ?_
  | refine wpList_builds 1 (by kernel_rfl) ?_
  simp only [List.drop_succ_cons, List.drop_zero]
  refine wpList_buildSlice rfl 27 1 _ rfl 40 (tabCells .i64 tZWJ).toArray (by kernel_rfl) ?_
  refine wpList_assign rfl _ rfl ?_
  refine wpList_nil ?_
  change Code.wp _ Code.ret _ _ _
  refine wp_ret ?_
  exact bodyPost_ret (v := .slice (some ⟨w.heap.size, 0, none⟩) 1 1) (by rw [results_tmp Tryd.results131]; kernel_rfl) (by kernel_rfl) ⟨_, rfl, heldT_has (T := tZWJ) (heap_alloc_last w _), (Below.refl _ _).alloc (Nat.le_refl _) _⟩
set_option maxRecDepth 100000 in
theorem r09list6_any (w : World) : Calls Tryd.prog 132 #[] w (GivesT .i64 w tRI) := by
  go_enter Tryd.func132, Tryd.ntmps132
  refine wp_seq ?_
  refine wp_region_lit ?_
  refine wpList_assign rfl _ rfl ?_
  first
  | refine wpList_nil ?_
    change Code.wp _ _ _ _ _
    refine wp_seq ?_
    refine wp_region_lit ?_
    refine wpList_builds 1 (by kernel_rfl) ?_
  | refine wpList_builds 1 (by kernel_rfl) ?_
  simp only [List.drop_succ_cons, List.drop_zero]
  refine wpList_buildSlice rfl 27 1 _ rfl 40 (tabCells .i64 tRI).toArray (by kernel_rfl) ?_
  refine wpList_assign rfl _ rfl ?_
  refine wpList_nil ?_
  change Code.wp _ Code.ret _ _ _
  refine wp_ret ?_
  exact bodyPost_ret (v := .slice (some ⟨w.heap.size, 0, none⟩) 1 1) (by rw [results_tmp Tryd.results132]; kernel_rfl) (by kernel_rfl) ⟨_, rfl, heldT_has (T := tRI) (heap_alloc_last w _), (Below.refl _ _).alloc (Nat.le_refl _) _⟩
set_option maxRecDepth 100000 in
theorem r09list7_any (w : World) : Calls Tryd.prog 133 #[] w (GivesT .i64 w tPrepend) := by
  go_enter Tryd.func133, Tryd.ntmps133
  refine wp_seq ?_
  refine wp_region_lit ?_
  refine wpList_assign rfl _ rfl ?_
  first
  | refine wpList_nil ?_
    change Code.wp _ _ _ _ _
    refine wp_seq ?_
    refine wp_region_lit ?_
    refine wpList_builds 8 (by kernel_rfl) ?_
  | refine wpList_builds 8 (by kernel_rfl) ?_
  simp only [List.drop_succ_cons, List.drop_zero]
  refine wpList_buildSlice rfl 27 8 _ rfl 40 (tabCells .i64 tPrepend).toArray (by kernel_rfl) ?_
  refine wpList_assign rfl _ rfl ?_
  refine wpList_nil ?_
  change Code.wp _ Code.ret _ _ _
  refine wp_ret ?_
  exact bodyPost_ret (v := .slice (some ⟨w.heap.size, 0, none⟩) 8 8) (by rw [results_tmp Tryd.results133]; kernel_rfl) (by kernel_rfl) ⟨_, rfl, heldT_has (T := tPrepend) (heap_alloc_last w _), (Below.refl _ _).alloc (Nat.le_refl _) _⟩
set_option maxRecDepth 100000 in
theorem r09list8_any (w : World) : Calls Tryd.prog 134 #[] w (GivesT .i64 w tSpacing) := by
  go_enter Tryd.func134, Tryd.ntmps134
  refine wp_seq ?_
  refine wp_region_lit ?_
  refine wpList_assign rfl _ rfl ?_
  first
  | refine wpList_nil ?_
    change Code.wp _ _ _ _ _
    refine wp_seq ?_
    refine wp_region_lit ?_
    refine wpList_builds 26 (by kernel_rfl) ?_
  | refine wpList_builds 26 (by kernel_rfl) ?_
  simp only [List.drop_succ_cons, List.drop_zero]
  refine wpList_buildSlice rfl 27 26 _ rfl 40 (tabCells .i64 tSpacing).toArray (by kernel_rfl) ?_
  refine wpList_assign rfl _ rfl ?_
  refine wpList_nil ?_
  change Code.wp _ Code.ret _ _ _
  refine wp_ret ?_
  exact bodyPost_ret (v := .slice (some ⟨w.heap.size, 0, none⟩) 26 26) (by rw [results_tmp Tryd.results134]; kernel_rfl) (by kernel_rfl) ⟨_, rfl, heldT_has (T := tSpacing) (heap_alloc_last w _), (Below.refl _ _).alloc (Nat.le_refl _) _⟩
set_option maxRecDepth 100000 in
theorem r10list_any (w : World) : Calls Tryd.prog 137 #[] w (GivesT .i64 w tPict) := by
  go_enter Tryd.func137, Tryd.ntmps137
  refine wp_seq ?_
  refine wp_region_lit ?_
  refine wpList_assign rfl _ rfl ?_
  first
  | refine wpList_nil ?_
    change Code.wp _ _ _ _ _
    refine wp_seq ?_
    refine wp_region_lit ?_
    refine wpList_builds 78 (by kernel_rfl) ?_
  | refine wpList_builds 78 (by kernel_rfl) ?_
  simp only [List.drop_succ_cons, List.drop_zero]
  refine wpList_buildSlice rfl 27 78 _ rfl 40 (tabCells .i64 tPict).toArray (by kernel_rfl) ?_
  refine wpList_assign rfl _ rfl ?_
  refine wpList_nil ?_
  change Code.wp _ Code.ret _ _ _
  refine wp_ret ?_
  exact bodyPost_ret (v := .slice (some ⟨w.heap.size, 0, none⟩) 78 78) (by rw [results_tmp Tryd.results137]; kernel_rfl) (by kernel_rfl) ⟨_, rfl, heldT_has (T := tPict) (heap_alloc_last w _), (Below.refl _ _).alloc (Nat.le_refl _) _⟩
set_option maxRecDepth 100000 in
theorem r11list1_any (w : World) : Calls Tryd.prog 138 #[] w (GivesT .i64 w tCons) := by
  go_enter Tryd.func138, Tryd.ntmps138
  refine wp_seq ?_
  refine wp_region_lit ?_
  refine wpList_assign rfl _ rfl ?_
  first
  | refine wpList_nil ?_
    change Code.wp _ _ _ _ _
    refine wp_seq ?_
    refine wp_region_lit ?_
    refine wpList_builds 26 (by kernel_rfl) ?_
  | refine wpList_builds 26 (by kernel_rfl) ?_
  simp only [List.drop_succ_cons, List.drop_zero]
  refine wpList_buildSlice rfl 27 26 _ rfl 40 (tabCells .i64 tCons).toArray (by kernel_rfl) ?_
  refine wpList_assign rfl _ rfl ?_
  refine wpList_nil ?_
  change Code.wp _ Code.ret _ _ _
  refine wp_ret ?_
  exact bodyPost_ret (v := .slice (some ⟨w.heap.size, 0, none⟩) 26 26) (by rw [results_tmp Tryd.results138]; kernel_rfl) (by kernel_rfl) ⟨_, rfl, heldT_has (T := tCons) (heap_alloc_last w _), (Below.refl _ _).alloc (Nat.le_refl _) _⟩
set_option maxRecDepth 100000 in
theorem r11list2_any (w : World) : Calls Tryd.prog 139 #[] w (GivesT .i64 w tLink) := by
  go_enter Tryd.func139, Tryd.ntmps139
  refine wp_seq ?_
  refine wp_region_lit ?_
  refine wpList_assign rfl _ rfl ?_
  first
  | refine wpList_nil ?_
    change Code.wp _ _ _ _ _
    refine wp_seq ?_
    refine wp_region_lit ?_
    refine wpList_builds 6 (by kernel_rfl) ?_
  | refine wpList_builds 6 (by kernel_rfl) ?_
  simp only [List.drop_succ_cons, List.drop_zero]
  refine wpList_buildSlice rfl 27 6 _ rfl 40 (tabCells .i64 tLink).toArray (by kernel_rfl) ?_
  refine wpList_assign rfl _ rfl ?_
  refine wpList_nil ?_
  change Code.wp _ Code.ret _ _ _
  refine wp_ret ?_
  exact bodyPost_ret (v := .slice (some ⟨w.heap.size, 0, none⟩) 6 6) (by rw [results_tmp Tryd.results139]; kernel_rfl) (by kernel_rfl) ⟨_, rfl, heldT_has (T := tLink) (heap_alloc_last w _), (Below.refl _ _).alloc (Nat.le_refl _) _⟩
set_option maxRecDepth 100000 in
theorem r11list3_any (w : World) : Calls Tryd.prog 140 #[] w (GivesT .i64 w tJoin) := by
  go_enter Tryd.func140, Tryd.ntmps140
  refine wp_seq ?_
  refine wp_region_lit ?_
  refine wpList_assign rfl _ rfl ?_
  first
  | refine wpList_nil ?_
    change Code.wp _ _ _ _ _
    refine wp_seq ?_
    refine wp_region_lit ?_
    refine wpList_builds 18 (by kernel_rfl) ?_
  | refine wpList_builds 18 (by kernel_rfl) ?_
  simp only [List.drop_succ_cons, List.drop_zero]
  refine wpList_buildSlice rfl 27 18 _ rfl 40 (tabCells .i64 tJoin).toArray (by kernel_rfl) ?_
  refine wpList_assign rfl _ rfl ?_
  refine wpList_nil ?_
  change Code.wp _ Code.ret _ _ _
  refine wp_ret ?_
  exact bodyPost_ret (v := .slice (some ⟨w.heap.size, 0, none⟩) 18 18) (by rw [results_tmp Tryd.results140]; kernel_rfl) (by kernel_rfl) ⟨_, rfl, heldT_has (T := tJoin) (heap_alloc_last w _), (Below.refl _ _).alloc (Nat.le_refl _) _⟩
set_option maxRecDepth 100000 in
theorem r12list1_any (w : World) : Calls Tryd.prog 141 #[] w (GivesT .i64 w tWide) := by
  go_enter Tryd.func141, Tryd.ntmps141
  refine wp_seq ?_
  refine wp_region_lit ?_
  refine wpList_assign rfl _ rfl ?_
  first
  | refine wpList_nil ?_
    change Code.wp _ _ _ _ _
    refine wp_seq ?_
    refine wp_region_lit ?_
    refine wpList_builds 109 (by kernel_rfl) ?_
  | refine wpList_builds 109 (by kernel_rfl) ?_
  simp only [List.drop_succ_cons, List.drop_zero]
  refine wpList_buildSlice rfl 27 109 _ rfl 40 (tabCells .i64 tWide).toArray (by kernel_rfl) ?_
  refine wpList_assign rfl _ rfl ?_
  refine wpList_nil ?_
  change Code.wp _ Code.ret _ _ _
  refine wp_ret ?_
  exact bodyPost_ret (v := .slice (some ⟨w.heap.size, 0, none⟩) 109 109) (by rw [results_tmp Tryd.results141]; kernel_rfl) (by kernel_rfl) ⟨_, rfl, heldT_has (T := tWide) (heap_alloc_last w _), (Below.refl _ _).alloc (Nat.le_refl _) _⟩
set_option maxRecDepth 100000 in
theorem r12list2_any (w : World) : Calls Tryd.prog 142 #[] w (GivesT .i64 w tFull) := by
  go_enter Tryd.func142, Tryd.ntmps142
  refine wp_seq ?_
  refine wp_region_lit ?_
  refine wpList_assign rfl _ rfl ?_
  first
  | refine wpList_nil ?_
    change Code.wp _ _ _ _ _
    refine wp_seq ?_
    refine wp_region_lit ?_
    refine wpList_builds 3 (by kernel_rfl) ?_
  | refine wpList_builds 3 (by kernel_rfl) ?_
  simp only [List.drop_succ_cons, List.drop_zero]
  refine wpList_buildSlice rfl 27 3 _ rfl 40 (tabCells .i64 tFull).toArray (by kernel_rfl) ?_
  refine wpList_assign rfl _ rfl ?_
  refine wpList_nil ?_
  change Code.wp _ Code.ret _ _ _
  refine wp_ret ?_
  exact bodyPost_ret (v := .slice (some ⟨w.heap.size, 0, none⟩) 3 3) (by rw [results_tmp Tryd.results142]; kernel_rfl) (by kernel_rfl) ⟨_, rfl, heldT_has (T := tFull) (heap_alloc_last w _), (Below.refl _ _).alloc (Nat.le_refl _) _⟩
set_option maxRecDepth 100000 in
theorem r12list3_any (w : World) : Calls Tryd.prog 143 #[] w (GivesT .i64 w tHalf) := by
  go_enter Tryd.func143, Tryd.ntmps143
  refine wp_seq ?_
  refine wp_region_lit ?_
  refine wpList_assign rfl _ rfl ?_
  first
  | refine wpList_nil ?_
    change Code.wp _ _ _ _ _
    refine wp_seq ?_
    refine wp_region_lit ?_
    refine wpList_builds 7 (by kernel_rfl) ?_
  | refine wpList_builds 7 (by kernel_rfl) ?_
  simp only [List.drop_succ_cons, List.drop_zero]
  refine wpList_buildSlice rfl 27 7 _ rfl 40 (tabCells .i64 tHalf).toArray (by kernel_rfl) ?_
  refine wpList_assign rfl _ rfl ?_
  refine wpList_nil ?_
  change Code.wp _ Code.ret _ _ _
  refine wp_ret ?_
  exact bodyPost_ret (v := .slice (some ⟨w.heap.size, 0, none⟩) 7 7) (by rw [results_tmp Tryd.results143]; kernel_rfl) (by kernel_rfl) ⟨_, rfl, heldT_has (T := tHalf) (heap_alloc_last w _), (Below.refl _ _).alloc (Nat.le_refl _) _⟩
end Go.Proofs.YtgndolgihplngaaDoor
