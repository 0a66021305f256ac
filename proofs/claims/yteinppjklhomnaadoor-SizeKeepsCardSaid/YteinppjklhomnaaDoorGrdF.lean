/- Grids: Copy, Set; nil grids. -/
import Derived.Test.YteinppjklhomnaaDoorGrdC
namespace Go.Proofs.YteinppjklhomnaaDoor
open Go.RowKit Go.ChangeShapes Go.WideShapes
theorem upon_make {P : Program} {Post : Value → World → Prop} {ρ : Operand → Value} {o : Oper} {w : World} {l c : Operand} {t : TypeId} (hop : o.op = Op.makeSlice t l c)
    (base : Nat) (e : TypeId) (i : TypeInfo) (z : Value) (size : Nat) (h1 : P.underlying t = some (.slice e)) (h2 : P.info? e = some i) (h3 : i.zero = some z) (h4 : i.size = size)
    (kl kc : IntKind) (n : Nat) (hl : ρ l = .int kl n) (hc : ρ c = .int kc n) (b2 : i.bytes * n ≤ 281474976710656) (b3 : n ≤ maxLen) (b4 : base ≤ w.heap.size)
    (hK : ∀ w', w'.ownsRow base e size (.slice (some ⟨w.heap.size, 0, none⟩) n n) n (madeCells z.cells (n * size)).toList → w.grownBy w' none → Post (.slice (some ⟨w.heap.size, 0, none⟩) n n) w') :
    Reg.upon P Post ((execOp ρ o).run P w) := by
  obtain ⟨w', hrun, r1, r2⟩ := run_make_full (P := P) w base t e i z size h1 h2 h3 h4 kl kc n b2 b3 b4
  have hx : (execOp ρ o).run P w = .ok (.value (.slice (some ⟨w.heap.size, 0, none⟩) n n)) w' := by simp [execOp, hop, hl, hc, hrun, Result.andThen]
  rw [hx]
  exact hK w' r1 r2
theorem ptrs_made {w : World} {B g n c : Nat} (h : w.ownsRow B 86 1 (.slice (some ⟨g, 0, none⟩) n c) n (madeCells (Value.pointer none).cells (n * 1)).toList) : OwnE ptrE (fun _ => True) w B 86 (.slice (some ⟨g, 0, none⟩) n c) (List.replicate n none) := own_ptrs (by
  have e := made_flat [Value.pointer none] (by decide) n
  have e2 : (List.replicate n [Value.pointer none]).flatten = (List.replicate n (none : Option Nat)).map ptrV := by rw [← ptr_flat, List.map_replicate]; rfl
  rw [← e2, ← e]
  rw [show (Value.pointer none).cells = [Value.pointer none].toArray from by kernel_rfl] at h
  exact h)
end Go.Proofs.YteinppjklhomnaaDoor
