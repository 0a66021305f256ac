/- An append that is guarded (the guard holds). -/
import Derived.Test.YtomfclkldmmmgaaDoorElemA
namespace Go.Proofs.YtomfclkldmmmgaaDoor
open Go.RowKit Go.ChangeShapes Go.WideShapes
theorem wpList_of_execG {P : Program} {ops : Array Oper} {rest : List Oper} {o : Oper} {a : Act} {Q : Exit → Act → World → Prop} {w w' : World} {v : Value} (hgd : Region.wanted o (yielded ops a.tmps) = true) (he : (execOp a.eval o).run P w = .ok (.value v) w') (h : wpList P ops Q rest (a.put o.dst v) w') : wpList P ops Q (o :: rest) a w := by
  refine wpList_step fun K hK => ?_
  rw [if_pos hgd]
  unfold Oper.wp
  rw [he]
  exact hK _ _ h
theorem wpList_append_g {P : Program} {α : Type} {E : Elem α} {Z : Zone} {w : World} {B : Nat} {ty : TypeId} {v u : Value} {L M : List α} {ops : Array Oper} {rest : List Oper} {o : Oper} {a : Act} {Q : Exit → Act → World → Prop} (hgd : Region.wanted o (yielded ops a.tmps) = true) (s x : Operand) (t : TypeId)
    (ho : o.op = .call { callee := .builtin .append, args := #[s, x], argTypes := #[t, t] })
    (z : Value) (bytes : Nat) (ht : P.underlying t = some (.slice ty)) (hinfo : (P.info? ty).map (fun i => (i.zero, i.size, i.bytes)) = some (some z, E.size, bytes)) (hzs : z.cells.size = E.size) (h0 : 0 < E.size)
    (hs : a.eval s = v) (hx : a.eval x = u) (hv : OwnE E Z w B ty v L) (hu : HeldE E (fun b => Z b ∧ v.ownBlock ≠ some b) w u M) (hn : (L.length + M.length) * bytes ≤ 140737488355328) (hn0 : L.length + M.length ≤ 140737488355328) (hB : B ≤ w.heap.size)
    (h : ∀ v' w', OwnE E Z w' B ty v' (L ++ M) → Below B w w' → KeepZ (fun b => v.ownBlock ≠ some b) w w' → (∀ b, b < w.heap.size → v.ownBlock ≠ some b → v'.ownBlock ≠ some b) → wpList P ops Q rest (a.put o.dst v') w') :
    wpList P ops Q (o :: rest) a w := by
  obtain ⟨v', w', hr, h1, h2, h3, h4⟩ := run_append_e (P := P) t o.type z bytes ht hinfo hzs h0 hv hu hn hn0 hB
  refine wpList_of_execG hgd ?_ (h v' w' h1 h2 h3 h4)
  exact exec_app ho hs hx hr
end Go.Proofs.YtomfclkldmmmgaaDoor
