import Derived.Test.YtoeggiplcaegoaaGreatDoorZ0
import Derived.Test.YtoeggiplcaegoaaGreatDoorMg2
import Derived.Test.YtoeggiplcaegoaaGreatDoorMg1
set_option maxRecDepth 100000
set_option linter.unusedVariables false
set_option linter.unusedSimpArgs false
set_option maxHeartbeats 400000
namespace Go.Proofs.YtoeggiplcaegoaaGreatDoor
open Go.RowKit Go.ChangeShapes Go.WideShapes
theorem dG(k:IntKind)(T:List (Int × Int)):(az k T).toArray.all (·.oneCell')=true:=by
 simp only [List.all_toArray,List.all_eq_true];intro v hv;unfold az at hv;obtain ⟨p,_,h⟩:=List.mem_flatMap.1 hv
 rcases List.mem_cons.1 h with rfl | h
 ·rfl
 ·rcases List.mem_cons.1 h with rfl | h
  ·rfl
  ·cases h
theorem cA(n:Nat):(Value.agg (Array.replicate n (.int .i32 0))).cells.size=n:=by simp [Value.cells]
theorem dd(k:IntKind)(T:List (Int × Int))(n:Nat)(h:T.length=n):(az k T).toArray.size=2 * n:=by
 rw [List.size_toArray,oy,h]
theorem aB{P:Program}{ops:Array Oper}{Q:Exit->Act->World->Prop}{w:World}{o:Oper}{rest:List Oper}{a:Act}(hg:o.guard=none)(x:Operand)(ho:o.op=.assign x)
  (h:wpList P ops Q rest (a.put o.dst (a.eval x)) w):wpList P ops Q (o :: rest) a w:=by
 refine wpList_plain hg fun K hK=>?_
 unfold Oper.wp execOp;simp only [ho];exact hK _ _ h
def dH(k:IntKind)(w:World)(T:List (Int × Int))(e:Ending)(w':World):Prop:=∃ v,e=.returned v/\HeldT k w' v T/\Below w.heap.size w w'
def tCR:List (Int × Int):=[(13,13)]
def tLF:List (Int × Int):=[(10,10)]
def tZWJ:List (Int × Int):=[(8205,8205)]
def tRI:List (Int × Int):=[(127462,127487)]
theorem dU(w:World):Calls Tryz.prog 276 #[] w (Gives w (.agg (az .i32 tControl).toArray)):=by
 have hs:=dd .i32 tControl 16 bG
 go_enter Tryz.func276,Tryz.ntmps276
 refine wp_seq ?_;refine wp_region_lit ?_;refine aQ rfl 329 rfl (.agg (Array.replicate 32 (.int .i32 0))) 32 (by kernel_rfl) ?_
 first
 |refine wpList_nil ?_
  change Code.wp _ _ _ _ _;refine wp_seq ?_;refine wp_region_lit ?_;refine am 17 (by kernel_rfl) ?_
 |refine am 17 (by kernel_rfl) ?_
 simp only [List.drop_succ_cons,List.drop_zero];refine wpList_store_row rfl 329 (.tmp 0) (.tmp 17) rfl w.heap.size (az .i32 tControl).toArray (by kernel_rfl) (by kernel_rfl) 329 _ (heap_alloc_last w _) (by rw [hs];kernel_rfl) (by rw [hs];exact cA 32) (dG _ _) ?_;refine wpList_nil ?_;rw [World.setRow_alloc_new];change Code.wp _ Code.ret _ _ _;refine wp_ret ?_;refine bodyPost_ret (results_cell_row Tryz.results276 _ _ w.heap.size 329 (az .i32 tControl).toArray (0,0) _ (by kernel_rfl) (heap_alloc_last w _) Tryz.underlying329 rfl (by rw [hs];kernel_rfl)) (by kernel_rfl) ⟨rfl,AU _ _⟩
theorem fz(w:World):Calls Tryz.prog 277 #[] w (Gives w (.agg (az .i32 tExtend).toArray)):=by
 have hs:=dd .i32 tExtend 77 cn
 go_enter Tryz.func277,Tryz.ntmps277
 refine wp_seq ?_;refine wp_region_lit ?_;refine aQ rfl 331 rfl (.agg (Array.replicate 154 (.int .i32 0))) 154 (by kernel_rfl) ?_
 first
 |refine wpList_nil ?_
  change Code.wp _ _ _ _ _;refine wp_seq ?_;refine wp_region_lit ?_;refine am 78 (by kernel_rfl) ?_
 |refine am 78 (by kernel_rfl) ?_
 simp only [List.drop_succ_cons,List.drop_zero];refine wpList_store_row rfl 331 (.tmp 0) (.tmp 78) rfl w.heap.size (az .i32 tExtend).toArray (by kernel_rfl) (by kernel_rfl) 331 _ (heap_alloc_last w _) (by rw [hs];kernel_rfl) (by rw [hs];exact cA 154) (dG _ _) ?_;refine wpList_nil ?_;rw [World.setRow_alloc_new];change Code.wp _ Code.ret _ _ _;refine wp_ret ?_;refine bodyPost_ret (results_cell_row Tryz.results277 _ _ w.heap.size 331 (az .i32 tExtend).toArray (0,0) _ (by kernel_rfl) (heap_alloc_last w _) Tryz.underlying331 rfl (by rw [hs];kernel_rfl)) (by kernel_rfl) ⟨rfl,AU _ _⟩
theorem ji(w:World):Calls Tryz.prog 279 #[] w (Gives w (.agg (az .i32 tPrepend).toArray)):=by
 have hs:=dd .i32 tPrepend 8 du
 go_enter Tryz.func279,Tryz.ntmps279
 refine wp_seq ?_;refine wp_region_lit ?_;refine aQ rfl 333 rfl (.agg (Array.replicate 16 (.int .i32 0))) 16 (by kernel_rfl) ?_
 first
 |refine wpList_nil ?_
  change Code.wp _ _ _ _ _;refine wp_seq ?_;refine wp_region_lit ?_;refine am 9 (by kernel_rfl) ?_
 |refine am 9 (by kernel_rfl) ?_
 simp only [List.drop_succ_cons,List.drop_zero];refine wpList_store_row rfl 333 (.tmp 0) (.tmp 9) rfl w.heap.size (az .i32 tPrepend).toArray (by kernel_rfl) (by kernel_rfl) 333 _ (heap_alloc_last w _) (by rw [hs];kernel_rfl) (by rw [hs];exact cA 16) (dG _ _) ?_;refine wpList_nil ?_;rw [World.setRow_alloc_new];change Code.wp _ Code.ret _ _ _;refine wp_ret ?_;refine bodyPost_ret (results_cell_row Tryz.results279 _ _ w.heap.size 333 (az .i32 tPrepend).toArray (0,0) _ (by kernel_rfl) (heap_alloc_last w _) Tryz.underlying333 rfl (by rw [hs];kernel_rfl)) (by kernel_rfl) ⟨rfl,AU _ _⟩
theorem gx(w:World):Calls Tryz.prog 278 #[] w (Gives w (.agg (az .i32 tSpacing).toArray)):=by
 have hs:=dd .i32 tSpacing 26 cG
 go_enter Tryz.func278,Tryz.ntmps278
 refine wp_seq ?_;refine wp_region_lit ?_;refine aQ rfl 297 rfl (.agg (Array.replicate 52 (.int .i32 0))) 52 (by kernel_rfl) ?_
 first
 |refine wpList_nil ?_
  change Code.wp _ _ _ _ _;refine wp_seq ?_;refine wp_region_lit ?_;refine am 27 (by kernel_rfl) ?_
 |refine am 27 (by kernel_rfl) ?_
 simp only [List.drop_succ_cons,List.drop_zero];refine wpList_store_row rfl 297 (.tmp 0) (.tmp 27) rfl w.heap.size (az .i32 tSpacing).toArray (by kernel_rfl) (by kernel_rfl) 297 _ (heap_alloc_last w _) (by rw [hs];kernel_rfl) (by rw [hs];exact cA 52) (dG _ _) ?_;refine wpList_nil ?_;rw [World.setRow_alloc_new];change Code.wp _ Code.ret _ _ _;refine wp_ret ?_;refine bodyPost_ret (results_cell_row Tryz.results278 _ _ w.heap.size 297 (az .i32 tSpacing).toArray (0,0) _ (by kernel_rfl) (heap_alloc_last w _) Tryz.underlying297 rfl (by rw [hs];kernel_rfl)) (by kernel_rfl) ⟨rfl,AU _ _⟩
theorem nU(w:World):Calls Tryz.prog 241 #[] w (Gives w (.agg (az .i32 tPict).toArray)):=by
 have hs:=dd .i32 tPict 78 fS
 go_enter Tryz.func241,Tryz.ntmps241
 refine wp_seq ?_;refine wp_region_lit ?_;refine aQ rfl 293 rfl (.agg (Array.replicate 156 (.int .i32 0))) 156 (by kernel_rfl) ?_
 first
 |refine wpList_nil ?_
  change Code.wp _ _ _ _ _;refine wp_seq ?_;refine wp_region_lit ?_;refine am 79 (by kernel_rfl) ?_
 |refine am 79 (by kernel_rfl) ?_
 simp only [List.drop_succ_cons,List.drop_zero];refine wpList_store_row rfl 293 (.tmp 0) (.tmp 79) rfl w.heap.size (az .i32 tPict).toArray (by kernel_rfl) (by kernel_rfl) 293 _ (heap_alloc_last w _) (by rw [hs];kernel_rfl) (by rw [hs];exact cA 156) (dG _ _) ?_;refine wpList_nil ?_;rw [World.setRow_alloc_new];change Code.wp _ Code.ret _ _ _;refine wp_ret ?_;refine bodyPost_ret (results_cell_row Tryz.results241 _ _ w.heap.size 293 (az .i32 tPict).toArray (0,0) _ (by kernel_rfl) (heap_alloc_last w _) Tryz.underlying293 rfl (by rw [hs];kernel_rfl)) (by kernel_rfl) ⟨rfl,AU _ _⟩
theorem dV(w:World):Calls Tryz.prog 243 #[] w (Gives w (.agg (az .i32 tCons).toArray)):=by
 have hs:=dd .i32 tCons 26 dg
 go_enter Tryz.func243,Tryz.ntmps243
 refine wp_seq ?_;refine wp_region_lit ?_;refine aQ rfl 297 rfl (.agg (Array.replicate 52 (.int .i32 0))) 52 (by kernel_rfl) ?_
 first
 |refine wpList_nil ?_
  change Code.wp _ _ _ _ _;refine wp_seq ?_;refine wp_region_lit ?_;refine am 27 (by kernel_rfl) ?_
 |refine am 27 (by kernel_rfl) ?_
 simp only [List.drop_succ_cons,List.drop_zero];refine wpList_store_row rfl 297 (.tmp 0) (.tmp 27) rfl w.heap.size (az .i32 tCons).toArray (by kernel_rfl) (by kernel_rfl) 297 _ (heap_alloc_last w _) (by rw [hs];kernel_rfl) (by rw [hs];exact cA 52) (dG _ _) ?_;refine wpList_nil ?_;rw [World.setRow_alloc_new];change Code.wp _ Code.ret _ _ _;refine wp_ret ?_;refine bodyPost_ret (results_cell_row Tryz.results243 _ _ w.heap.size 297 (az .i32 tCons).toArray (0,0) _ (by kernel_rfl) (heap_alloc_last w _) Tryz.underlying297 rfl (by rw [hs];kernel_rfl)) (by kernel_rfl) ⟨rfl,AU _ _⟩
theorem gT(w:World):Calls Tryz.prog 244 #[] w (Gives w (.agg (az .i32 tLink).toArray)):=by
 have hs:=dd .i32 tLink 6 dN
 go_enter Tryz.func244,Tryz.ntmps244
 refine wp_seq ?_;refine wp_region_lit ?_;refine aQ rfl 299 rfl (.agg (Array.replicate 12 (.int .i32 0))) 12 (by kernel_rfl) ?_
 first
 |refine wpList_nil ?_
  change Code.wp _ _ _ _ _;refine wp_seq ?_;refine wp_region_lit ?_;refine am 7 (by kernel_rfl) ?_
 |refine am 7 (by kernel_rfl) ?_
 simp only [List.drop_succ_cons,List.drop_zero];refine wpList_store_row rfl 299 (.tmp 0) (.tmp 7) rfl w.heap.size (az .i32 tLink).toArray (by kernel_rfl) (by kernel_rfl) 299 _ (heap_alloc_last w _) (by rw [hs];kernel_rfl) (by rw [hs];exact cA 12) (dG _ _) ?_;refine wpList_nil ?_;rw [World.setRow_alloc_new];change Code.wp _ Code.ret _ _ _;refine wp_ret ?_;refine bodyPost_ret (results_cell_row Tryz.results244 _ _ w.heap.size 299 (az .i32 tLink).toArray (0,0) _ (by kernel_rfl) (heap_alloc_last w _) Tryz.underlying299 rfl (by rw [hs];kernel_rfl)) (by kernel_rfl) ⟨rfl,AU _ _⟩
theorem kr(w:World):Calls Tryz.prog 245 #[] w (Gives w (.agg (az .i32 tJoin).toArray)):=by
 have hs:=dd .i32 tJoin 18 eW
 go_enter Tryz.func245,Tryz.ntmps245
 refine wp_seq ?_;refine wp_region_lit ?_;refine aQ rfl 301 rfl (.agg (Array.replicate 36 (.int .i32 0))) 36 (by kernel_rfl) ?_
 first
 |refine wpList_nil ?_
  change Code.wp _ _ _ _ _;refine wp_seq ?_;refine wp_region_lit ?_;refine am 19 (by kernel_rfl) ?_
 |refine am 19 (by kernel_rfl) ?_
 simp only [List.drop_succ_cons,List.drop_zero];refine wpList_store_row rfl 301 (.tmp 0) (.tmp 19) rfl w.heap.size (az .i32 tJoin).toArray (by kernel_rfl) (by kernel_rfl) 301 _ (heap_alloc_last w _) (by rw [hs];kernel_rfl) (by rw [hs];exact cA 36) (dG _ _) ?_;refine wpList_nil ?_;rw [World.setRow_alloc_new];change Code.wp _ Code.ret _ _ _;refine wp_ret ?_;refine bodyPost_ret (results_cell_row Tryz.results245 _ _ w.heap.size 301 (az .i32 tJoin).toArray (0,0) _ (by kernel_rfl) (heap_alloc_last w _) Tryz.underlying301 rfl (by rw [hs];kernel_rfl)) (by kernel_rfl) ⟨rfl,AU _ _⟩
theorem im(w:World):Calls Tryz.prog 246 #[] w (Gives w (.agg (az .i32 tWide).toArray)):=by
 have hs:=dd .i32 tWide 109 dh
 go_enter Tryz.func246,Tryz.ntmps246
 refine wp_seq ?_;refine wp_region_lit ?_;refine aQ rfl 303 rfl (.agg (Array.replicate 218 (.int .i32 0))) 218 (by kernel_rfl) ?_
 first
 |refine wpList_nil ?_
  change Code.wp _ _ _ _ _;refine wp_seq ?_;refine wp_region_lit ?_;refine am 110 (by kernel_rfl) ?_
 |refine am 110 (by kernel_rfl) ?_
 simp only [List.drop_succ_cons,List.drop_zero];refine wpList_store_row rfl 303 (.tmp 0) (.tmp 110) rfl w.heap.size (az .i32 tWide).toArray (by kernel_rfl) (by kernel_rfl) 303 _ (heap_alloc_last w _) (by rw [hs];kernel_rfl) (by rw [hs];exact cA 218) (dG _ _) ?_;refine wpList_nil ?_;rw [World.setRow_alloc_new];change Code.wp _ Code.ret _ _ _;refine wp_ret ?_;refine bodyPost_ret (results_cell_row Tryz.results246 _ _ w.heap.size 303 (az .i32 tWide).toArray (0,0) _ (by kernel_rfl) (heap_alloc_last w _) Tryz.underlying303 rfl (by rw [hs];kernel_rfl)) (by kernel_rfl) ⟨rfl,AU _ _⟩
theorem jY(w:World):Calls Tryz.prog 247 #[] w (Gives w (.agg (az .i32 tFull).toArray)):=by
 have hs:=dd .i32 tFull 3 dO
 go_enter Tryz.func247,Tryz.ntmps247
 refine wp_seq ?_;refine wp_region_lit ?_;refine aQ rfl 305 rfl (.agg (Array.replicate 6 (.int .i32 0))) 6 (by kernel_rfl) ?_
 first
 |refine wpList_nil ?_
  change Code.wp _ _ _ _ _;refine wp_seq ?_;refine wp_region_lit ?_;refine am 4 (by kernel_rfl) ?_
 |refine am 4 (by kernel_rfl) ?_
 simp only [List.drop_succ_cons,List.drop_zero];refine wpList_store_row rfl 305 (.tmp 0) (.tmp 4) rfl w.heap.size (az .i32 tFull).toArray (by kernel_rfl) (by kernel_rfl) 305 _ (heap_alloc_last w _) (by rw [hs];kernel_rfl) (by rw [hs];exact cA 6) (dG _ _) ?_;refine wpList_nil ?_;rw [World.setRow_alloc_new];change Code.wp _ Code.ret _ _ _;refine wp_ret ?_;refine bodyPost_ret (results_cell_row Tryz.results247 _ _ w.heap.size 305 (az .i32 tFull).toArray (0,0) _ (by kernel_rfl) (heap_alloc_last w _) Tryz.underlying305 rfl (by rw [hs];kernel_rfl)) (by kernel_rfl) ⟨rfl,AU _ _⟩
theorem lC(w:World):Calls Tryz.prog 248 #[] w (Gives w (.agg (az .i32 tHalf).toArray)):=by
 have hs:=dd .i32 tHalf 7 eX
 go_enter Tryz.func248,Tryz.ntmps248
 refine wp_seq ?_;refine wp_region_lit ?_;refine aQ rfl 307 rfl (.agg (Array.replicate 14 (.int .i32 0))) 14 (by kernel_rfl) ?_
 first
 |refine wpList_nil ?_
  change Code.wp _ _ _ _ _;refine wp_seq ?_;refine wp_region_lit ?_;refine am 8 (by kernel_rfl) ?_
 |refine am 8 (by kernel_rfl) ?_
 simp only [List.drop_succ_cons,List.drop_zero];refine wpList_store_row rfl 307 (.tmp 0) (.tmp 8) rfl w.heap.size (az .i32 tHalf).toArray (by kernel_rfl) (by kernel_rfl) 307 _ (heap_alloc_last w _) (by rw [hs];kernel_rfl) (by rw [hs];exact cA 14) (dG _ _) ?_;refine wpList_nil ?_;rw [World.setRow_alloc_new];change Code.wp _ Code.ret _ _ _;refine wp_ret ?_;refine bodyPost_ret (results_cell_row Tryz.results248 _ _ w.heap.size 307 (az .i32 tHalf).toArray (0,0) _ (by kernel_rfl) (heap_alloc_last w _) Tryz.underlying307 rfl (by rw [hs];kernel_rfl)) (by kernel_rfl) ⟨rfl,AU _ _⟩
theorem nV(w:World):Calls Tryz.prog 117 #[] w (dH .i64 w tCR):=by
 go_enter Tryz.func117,Tryz.ntmps117
 refine wp_seq ?_;refine wp_region_lit ?_;refine aB rfl _ rfl ?_
 first
 |refine wpList_nil ?_
  change Code.wp _ _ _ _ _;refine wp_seq ?_;refine wp_region_lit ?_;refine am 1 (by kernel_rfl) ?_
 |refine am 1 (by kernel_rfl) ?_
 simp only [List.drop_succ_cons,List.drop_zero];refine aK rfl 188 1 _ rfl 242 (az .i64 tCR).toArray (by kernel_rfl) ?_;refine aB rfl _ rfl ?_;refine wpList_nil ?_;change Code.wp _ Code.ret _ _ _;refine wp_ret ?_;exact bodyPost_ret (v:=.slice (some ⟨w.heap.size,0,none⟩) 1 1) (by rw [results_tmp Tryz.results117];kernel_rfl) (by kernel_rfl) ⟨_,rfl,bL (T:=tCR) (heap_alloc_last w _),AU _ _⟩
theorem nW(w:World):Calls Tryz.prog 118 #[] w (dH .i64 w tLF):=by
 go_enter Tryz.func118,Tryz.ntmps118
 refine wp_seq ?_;refine wp_region_lit ?_;refine aB rfl _ rfl ?_
 first
 |refine wpList_nil ?_
  change Code.wp _ _ _ _ _;refine wp_seq ?_;refine wp_region_lit ?_;refine am 1 (by kernel_rfl) ?_
 |refine am 1 (by kernel_rfl) ?_
 simp only [List.drop_succ_cons,List.drop_zero];refine aK rfl 188 1 _ rfl 242 (az .i64 tLF).toArray (by kernel_rfl) ?_;refine aB rfl _ rfl ?_;refine wpList_nil ?_;change Code.wp _ Code.ret _ _ _;refine wp_ret ?_;exact bodyPost_ret (v:=.slice (some ⟨w.heap.size,0,none⟩) 1 1) (by rw [results_tmp Tryz.results118];kernel_rfl) (by kernel_rfl) ⟨_,rfl,bL (T:=tLF) (heap_alloc_last w _),AU _ _⟩
theorem nY(w:World):Calls Tryz.prog 119 #[] w (dH .i64 w tControl):=by
 go_enter Tryz.func119,Tryz.ntmps119
 refine wp_seq ?_;refine wp_region_lit ?_;refine aB rfl _ rfl ?_
 first
 |refine wpList_nil ?_
  change Code.wp _ _ _ _ _;refine wp_seq ?_;refine wp_region_lit ?_;refine am 16 (by kernel_rfl) ?_
 |refine am 16 (by kernel_rfl) ?_
 simp only [List.drop_succ_cons,List.drop_zero];refine aK rfl 188 16 _ rfl 242 (az .i64 tControl).toArray (by kernel_rfl) ?_;refine aB rfl _ rfl ?_;refine wpList_nil ?_;change Code.wp _ Code.ret _ _ _;refine wp_ret ?_;exact bodyPost_ret (v:=.slice (some ⟨w.heap.size,0,none⟩) 16 16) (by rw [results_tmp Tryz.results119];kernel_rfl) (by kernel_rfl) ⟨_,rfl,bL (T:=tControl) (heap_alloc_last w _),AU _ _⟩
theorem nZ(w:World):Calls Tryz.prog 120 #[] w (dH .i64 w tExtend):=by
 go_enter Tryz.func120,Tryz.ntmps120
 refine wp_seq ?_;refine wp_region_lit ?_;refine aB rfl _ rfl ?_
 first
 |refine wpList_nil ?_
  change Code.wp _ _ _ _ _;refine wp_seq ?_;refine wp_region_lit ?_;refine am 77 (by kernel_rfl) ?_
 |refine am 77 (by kernel_rfl) ?_
 simp only [List.drop_succ_cons,List.drop_zero];refine aK rfl 188 77 _ rfl 242 (az .i64 tExtend).toArray (by kernel_rfl) ?_;refine aB rfl _ rfl ?_;refine wpList_nil ?_;change Code.wp _ Code.ret _ _ _;refine wp_ret ?_;exact bodyPost_ret (v:=.slice (some ⟨w.heap.size,0,none⟩) 77 77) (by rw [results_tmp Tryz.results120];kernel_rfl) (by kernel_rfl) ⟨_,rfl,bL (T:=tExtend) (heap_alloc_last w _),AU _ _⟩
theorem n6(w:World):Calls Tryz.prog 121 #[] w (dH .i64 w tZWJ):=by
 go_enter Tryz.func121,Tryz.ntmps121
 refine wp_seq ?_;refine wp_region_lit ?_;refine aB rfl _ rfl ?_
 first
 |refine wpList_nil ?_
  change Code.wp _ _ _ _ _;refine wp_seq ?_;refine wp_region_lit ?_;refine am 1 (by kernel_rfl) ?_
 |refine am 1 (by kernel_rfl) ?_
 simp only [List.drop_succ_cons,List.drop_zero];refine aK rfl 188 1 _ rfl 242 (az .i64 tZWJ).toArray (by kernel_rfl) ?_;refine aB rfl _ rfl ?_;refine wpList_nil ?_;change Code.wp _ Code.ret _ _ _;refine wp_ret ?_;exact bodyPost_ret (v:=.slice (some ⟨w.heap.size,0,none⟩) 1 1) (by rw [results_tmp Tryz.results121];kernel_rfl) (by kernel_rfl) ⟨_,rfl,bL (T:=tZWJ) (heap_alloc_last w _),AU _ _⟩
theorem n7(w:World):Calls Tryz.prog 122 #[] w (dH .i64 w tRI):=by
 go_enter Tryz.func122,Tryz.ntmps122
 refine wp_seq ?_;refine wp_region_lit ?_;refine aB rfl _ rfl ?_
 first
 |refine wpList_nil ?_
  change Code.wp _ _ _ _ _;refine wp_seq ?_;refine wp_region_lit ?_;refine am 1 (by kernel_rfl) ?_
 |refine am 1 (by kernel_rfl) ?_
 simp only [List.drop_succ_cons,List.drop_zero];refine aK rfl 188 1 _ rfl 242 (az .i64 tRI).toArray (by kernel_rfl) ?_;refine aB rfl _ rfl ?_;refine wpList_nil ?_;change Code.wp _ Code.ret _ _ _;refine wp_ret ?_;exact bodyPost_ret (v:=.slice (some ⟨w.heap.size,0,none⟩) 1 1) (by rw [results_tmp Tryz.results122];kernel_rfl) (by kernel_rfl) ⟨_,rfl,bL (T:=tRI) (heap_alloc_last w _),AU _ _⟩
theorem ob(w:World):Calls Tryz.prog 123 #[] w (dH .i64 w tPrepend):=by
 go_enter Tryz.func123,Tryz.ntmps123
 refine wp_seq ?_;refine wp_region_lit ?_;refine aB rfl _ rfl ?_
 first
 |refine wpList_nil ?_
  change Code.wp _ _ _ _ _;refine wp_seq ?_;refine wp_region_lit ?_;refine am 8 (by kernel_rfl) ?_
 |refine am 8 (by kernel_rfl) ?_
 simp only [List.drop_succ_cons,List.drop_zero];refine aK rfl 188 8 _ rfl 242 (az .i64 tPrepend).toArray (by kernel_rfl) ?_;refine aB rfl _ rfl ?_;refine wpList_nil ?_;change Code.wp _ Code.ret _ _ _;refine wp_ret ?_;exact bodyPost_ret (v:=.slice (some ⟨w.heap.size,0,none⟩) 8 8) (by rw [results_tmp Tryz.results123];kernel_rfl) (by kernel_rfl) ⟨_,rfl,bL (T:=tPrepend) (heap_alloc_last w _),AU _ _⟩
theorem oe(w:World):Calls Tryz.prog 124 #[] w (dH .i64 w tSpacing):=by
 go_enter Tryz.func124,Tryz.ntmps124
 refine wp_seq ?_;refine wp_region_lit ?_;refine aB rfl _ rfl ?_
 first
 |refine wpList_nil ?_
  change Code.wp _ _ _ _ _;refine wp_seq ?_;refine wp_region_lit ?_;refine am 26 (by kernel_rfl) ?_
 |refine am 26 (by kernel_rfl) ?_
 simp only [List.drop_succ_cons,List.drop_zero];refine aK rfl 188 26 _ rfl 242 (az .i64 tSpacing).toArray (by kernel_rfl) ?_;refine aB rfl _ rfl ?_;refine wpList_nil ?_;change Code.wp _ Code.ret _ _ _;refine wp_ret ?_;exact bodyPost_ret (v:=.slice (some ⟨w.heap.size,0,none⟩) 26 26) (by rw [results_tmp Tryz.results124];kernel_rfl) (by kernel_rfl) ⟨_,rfl,bL (T:=tSpacing) (heap_alloc_last w _),AU _ _⟩
theorem pm(w:World):Calls Tryz.prog 127 #[] w (dH .i64 w tPict):=by
 go_enter Tryz.func127,Tryz.ntmps127
 refine wp_seq ?_;refine wp_region_lit ?_;refine aB rfl _ rfl ?_
 first
 |refine wpList_nil ?_
  change Code.wp _ _ _ _ _;refine wp_seq ?_;refine wp_region_lit ?_;refine am 78 (by kernel_rfl) ?_
 |refine am 78 (by kernel_rfl) ?_
 simp only [List.drop_succ_cons,List.drop_zero];refine aK rfl 188 78 _ rfl 242 (az .i64 tPict).toArray (by kernel_rfl) ?_;refine aB rfl _ rfl ?_;refine wpList_nil ?_;change Code.wp _ Code.ret _ _ _;refine wp_ret ?_;exact bodyPost_ret (v:=.slice (some ⟨w.heap.size,0,none⟩) 78 78) (by rw [results_tmp Tryz.results127];kernel_rfl) (by kernel_rfl) ⟨_,rfl,bL (T:=tPict) (heap_alloc_last w _),AU _ _⟩
theorem og(w:World):Calls Tryz.prog 128 #[] w (dH .i64 w tCons):=by
 go_enter Tryz.func128,Tryz.ntmps128
 refine wp_seq ?_;refine wp_region_lit ?_;refine aB rfl _ rfl ?_
 first
 |refine wpList_nil ?_
  change Code.wp _ _ _ _ _;refine wp_seq ?_;refine wp_region_lit ?_;refine am 26 (by kernel_rfl) ?_
 |refine am 26 (by kernel_rfl) ?_
 simp only [List.drop_succ_cons,List.drop_zero];refine aK rfl 188 26 _ rfl 242 (az .i64 tCons).toArray (by kernel_rfl) ?_;refine aB rfl _ rfl ?_;refine wpList_nil ?_;change Code.wp _ Code.ret _ _ _;refine wp_ret ?_;exact bodyPost_ret (v:=.slice (some ⟨w.heap.size,0,none⟩) 26 26) (by rw [results_tmp Tryz.results128];kernel_rfl) (by kernel_rfl) ⟨_,rfl,bL (T:=tCons) (heap_alloc_last w _),AU _ _⟩
theorem oh(w:World):Calls Tryz.prog 129 #[] w (dH .i64 w tLink):=by
 go_enter Tryz.func129,Tryz.ntmps129
 refine wp_seq ?_;refine wp_region_lit ?_;refine aB rfl _ rfl ?_
 first
 |refine wpList_nil ?_
  change Code.wp _ _ _ _ _;refine wp_seq ?_;refine wp_region_lit ?_;refine am 6 (by kernel_rfl) ?_
 |refine am 6 (by kernel_rfl) ?_
 simp only [List.drop_succ_cons,List.drop_zero];refine aK rfl 188 6 _ rfl 242 (az .i64 tLink).toArray (by kernel_rfl) ?_;refine aB rfl _ rfl ?_;refine wpList_nil ?_;change Code.wp _ Code.ret _ _ _;refine wp_ret ?_;exact bodyPost_ret (v:=.slice (some ⟨w.heap.size,0,none⟩) 6 6) (by rw [results_tmp Tryz.results129];kernel_rfl) (by kernel_rfl) ⟨_,rfl,bL (T:=tLink) (heap_alloc_last w _),AU _ _⟩
theorem om(w:World):Calls Tryz.prog 130 #[] w (dH .i64 w tJoin):=by
 go_enter Tryz.func130,Tryz.ntmps130
 refine wp_seq ?_;refine wp_region_lit ?_;refine aB rfl _ rfl ?_
 first
 |refine wpList_nil ?_
  change Code.wp _ _ _ _ _;refine wp_seq ?_;refine wp_region_lit ?_;refine am 18 (by kernel_rfl) ?_
 |refine am 18 (by kernel_rfl) ?_
 simp only [List.drop_succ_cons,List.drop_zero];refine aK rfl 188 18 _ rfl 242 (az .i64 tJoin).toArray (by kernel_rfl) ?_;refine aB rfl _ rfl ?_;refine wpList_nil ?_;change Code.wp _ Code.ret _ _ _;refine wp_ret ?_;exact bodyPost_ret (v:=.slice (some ⟨w.heap.size,0,none⟩) 18 18) (by rw [results_tmp Tryz.results130];kernel_rfl) (by kernel_rfl) ⟨_,rfl,bL (T:=tJoin) (heap_alloc_last w _),AU _ _⟩
theorem oq(w:World):Calls Tryz.prog 131 #[] w (dH .i64 w tWide):=by
 go_enter Tryz.func131,Tryz.ntmps131
 refine wp_seq ?_;refine wp_region_lit ?_;refine aB rfl _ rfl ?_
 first
 |refine wpList_nil ?_
  change Code.wp _ _ _ _ _;refine wp_seq ?_;refine wp_region_lit ?_;refine am 109 (by kernel_rfl) ?_
 |refine am 109 (by kernel_rfl) ?_
 simp only [List.drop_succ_cons,List.drop_zero];refine aK rfl 188 109 _ rfl 242 (az .i64 tWide).toArray (by kernel_rfl) ?_;refine aB rfl _ rfl ?_;refine wpList_nil ?_;change Code.wp _ Code.ret _ _ _;refine wp_ret ?_;exact bodyPost_ret (v:=.slice (some ⟨w.heap.size,0,none⟩) 109 109) (by rw [results_tmp Tryz.results131];kernel_rfl) (by kernel_rfl) ⟨_,rfl,bL (T:=tWide) (heap_alloc_last w _),AU _ _⟩
theorem ou(w:World):Calls Tryz.prog 132 #[] w (dH .i64 w tFull):=by
 go_enter Tryz.func132,Tryz.ntmps132
 refine wp_seq ?_;refine wp_region_lit ?_;refine aB rfl _ rfl ?_
 first
 |refine wpList_nil ?_
  change Code.wp _ _ _ _ _;refine wp_seq ?_;refine wp_region_lit ?_;refine am 3 (by kernel_rfl) ?_
 |refine am 3 (by kernel_rfl) ?_
 simp only [List.drop_succ_cons,List.drop_zero];refine aK rfl 188 3 _ rfl 242 (az .i64 tFull).toArray (by kernel_rfl) ?_;refine aB rfl _ rfl ?_;refine wpList_nil ?_;change Code.wp _ Code.ret _ _ _;refine wp_ret ?_;exact bodyPost_ret (v:=.slice (some ⟨w.heap.size,0,none⟩) 3 3) (by rw [results_tmp Tryz.results132];kernel_rfl) (by kernel_rfl) ⟨_,rfl,bL (T:=tFull) (heap_alloc_last w _),AU _ _⟩
theorem ow(w:World):Calls Tryz.prog 133 #[] w (dH .i64 w tHalf):=by
 go_enter Tryz.func133,Tryz.ntmps133
 refine wp_seq ?_;refine wp_region_lit ?_;refine aB rfl _ rfl ?_
 first
 |refine wpList_nil ?_
  change Code.wp _ _ _ _ _;refine wp_seq ?_;refine wp_region_lit ?_;refine am 7 (by kernel_rfl) ?_
 |refine am 7 (by kernel_rfl) ?_
 simp only [List.drop_succ_cons,List.drop_zero];refine aK rfl 188 7 _ rfl 242 (az .i64 tHalf).toArray (by kernel_rfl) ?_;refine aB rfl _ rfl ?_;refine wpList_nil ?_;change Code.wp _ Code.ret _ _ _;refine wp_ret ?_;exact bodyPost_ret (v:=.slice (some ⟨w.heap.size,0,none⟩) 7 7) (by rw [results_tmp Tryz.results133];kernel_rfl) (by kernel_rfl) ⟨_,rfl,bL (T:=tHalf) (heap_alloc_last w _),AU _ _⟩
end Go.Proofs.YtoeggiplcaegoaaGreatDoor
