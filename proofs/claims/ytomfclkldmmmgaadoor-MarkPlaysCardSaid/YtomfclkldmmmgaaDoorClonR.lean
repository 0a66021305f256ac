/- slices.Clone of scalar values. -/
import Derived.Test.YtomfclkldmmmgaaDoorProg
import Derived.Test.YtomfclkldmmmgaaDoorAid
import Derived.Lib.LazyBuf
namespace Go.Proofs.YtomfclkldmmmgaaDoor
open Go.RowKit Go.ChangeShapes Go.WideShapes
theorem heldAlloc {k : IntKind} {w : World} {v : Value} {xs : List Int} (h : Held k w v xs) (o : Obj) : Held k (w.alloc o) v xs := h.below ((Below.refl _ _).alloc (Nat.le_refl _) _)
theorem own_newK (w : World) (t : TypeId) (k : IntKind) (B : Nat) (hB : B ≤ w.heap.size) : (w.alloc (.cells #[] t)).ownsRow B t 1 (.slice (some ⟨w.heap.size, 0, none⟩) 0 0) 0 (([] : List Int).map (Value.int k)) :=
  ⟨rfl, .inr ⟨w.heap.size, 0, #[], rfl, hB, heap_alloc_new w _, Nat.le_refl _, by unfold maxLen; omega, rfl, rfl⟩⟩
theorem Tryd.info_r : (Tryd.prog.info? 21).map (fun i => (i.zero, i.size, i.bytes)) = some (some (.int .i32 0), 1, 4) := by kernel_rfl
/-- What hands back a slice of its own that holds these. -/
def Cloned (t : TypeId) (k : IntKind) (w : World) (xs : List Int) (e : Ending) (w' : World) : Prop := ∃ v', e = .returned v' ∧ w'.ownsRow w.heap.size t 1 v' xs.length (xs.map (Value.int k)) ∧ Below w.heap.size w w'
set_option maxRecDepth 100000 in
theorem rclone_any (v : Value) (xs : List Int) (w : World) (hv : Held .i32 w v xs) (hl : xs.length ≤ 1000000000) : Calls Tryd.prog 102 #[v] w (Cloned 21 .i32 w xs) := by
  obtain ⟨ao, cap, rfl, hn, _⟩ := id hv
  cases ao with
  | none =>
    obtain ⟨rfl, rfl⟩ := hn rfl
    clear hv hn
    have q := fun w => run_eql_slice_nil (P := Tryd.prog) w 25 21 none 0 0 Tryd.underlying25
    go_enter Tryd.func102, Tryd.ntmps102
    go_wp2
    go_ret
    exact ⟨_, rfl, World.ownsRow_nil _ _ _ _, Below.refl _ _⟩
  | some a =>
    have hv' := heldAlloc hv (.cells #[] 21)
    clear hv hn
    have q := fun w => run_eql_slice_nil (P := Tryd.prog) w 25 21 (some a) xs.length cap Tryd.underlying25
    go_enter Tryd.func102, Tryd.ntmps102
    go_wp2_with (at_builtin; refine wpList_append_held (w.alloc (.cells #[] 21)) rfl (.tmp 5) (.tmp 6) 25 rfl w.heap.size 21 (.int .i32 0) 4 Tryd.underlying25 Tryd.info_r rfl .i32 _ 0 [] rfl (own_newK w 21 .i32 _ (Nat.le_refl _)) _ xs rfl hv' (by omega) (by omega) (by simp) ?_)
    intro v5 w5 ho5 hb5
    have ho6 : w5.ownsRow w.heap.size 21 1 v5 xs.length (xs.map (Value.int .i32)) := by simpa using ho5
    clear ho5
    go_wp2
    go_ret
    exact ⟨_, rfl, ho6, ((Below.refl _ _).alloc (Nat.le_refl _) _).trans hb5⟩
end Go.Proofs.YtomfclkldmmmgaaDoor
