/- Contracts of ucd: what is known of a number. -/
import Derived.Test.YtoeggiplcaegoaaGreatDoorMg4
import Derived.Test.YtoeggiplcaegoaaGreatDoorMg1
import Derived.Laws.StructEq
namespace Go.Proofs.YtoeggiplcaegoaaGreatDoor
open Go.RowKit Go.ChangeShapes Go.WideShapes
/-- What is known of r. -/
def knownV (r : Int) : Value := .agg #[.int .i64 (gcbI r), .bool (inTab tPict r), .int .i64 (conjO r), .int .i64 (eastI r)]
theorem four_set (w : World) (g : Nat) (a b c d : Value) : But g w.heap.size w ((((w.setCell ⟨g, 0, none⟩ a).setCell ⟨g, 1, none⟩ b).setCell ⟨g, 2, none⟩ c).setCell ⟨g, 3, none⟩ d) :=
  ((((But.refl _ _ _).set 0 _).set 1 _).set 2 _).set 3 _
set_option maxRecDepth 100000 in
theorem ucdof_any (r : Int) (w : World) : Calls Tryz.prog 149 #[.int .i32 r] w (Gives w (knownV r)) := by
  have hr0 := Has.new w [Value.int .i64 0, .bool false, .int .i64 0, .int .i64 0] 33
  have HR := Lib.hid hr0
  have hl0 : Below w.heap.size w (w.alloc (.cells [Value.int .i64 0, .bool false, .int .i64 0, .int .i64 0].toArray 33)) := (Below.refl _ _).alloc (Nat.le_refl _) _
  have HL := Lib.hid hl0
  clear hr0 hl0
  go_enter Tryz.func149, Tryz.ntmps149
  go_wp2_with fail
  refine (gcb_any r _).mono ?_
  rintro e w1 ⟨rfl, b1⟩
  go_wp2_with fail
  refine (pict_any r _).mono ?_
  rintro e w2 ⟨rfl, b2⟩
  go_wp2_with fail
  refine (cnj_any r _).mono ?_
  rintro e w3 ⟨rfl, b3⟩
  go_wp2_with fail
  refine (east_any r _).mono ?_
  rintro e w4 ⟨rfl, b4⟩
  have hb := b1.trans ((b2.trans ((b3.trans (b4.mono b3.size)).mono b2.size)).mono b1.size)
  have hr4 := HR.out.below hb HR.out.lt
  have hl4 := HL.out.trans (hb.mono HL.out.size)
  have g0 := hr4.cell 0 _ rfl
  have g1 := hr4.cell 1 _ rfl
  have g2 := hr4.cell 2 _ rfl
  have g3 := hr4.cell 3 _ rfl
  have f0 := hr4.free 0
  have f1 := hr4.free 1
  have f2 := hr4.free 2
  have f3 := hr4.free 3
  have hlt := hr4.lt
  have hbl := fun x y z u => hl4.trans ((four_set w4 w.heap.size x y z u).below hl4.size (Nat.le_refl _))
  have HBL := Lib.hid hbl
  clear hb hr4 hl4 hbl b1 b2 b3 b4 HR HL
  go_wp2
  exact bodyPost_ret (v := knownV r) (by simp [results, Tryz.results149, go_sem, knownV, g0, g1, g2, g3]) rfl ⟨rfl, HBL.out _ _ _ _⟩
end Go.Proofs.YtoeggiplcaegoaaGreatDoor
