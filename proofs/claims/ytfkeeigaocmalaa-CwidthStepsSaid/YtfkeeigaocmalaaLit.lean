/- Long composite literals: a region of many 'build's by one reckoning, no matter how many. Of no program. -/
import Derived.Handy
import Derived.Laws.Tables
import Derived.Laws.Rows
import Derived.Deep.WholeRow
import Derived.Below
namespace Go.Proofs.Ytfkeeigaocmalaa
open Go Go.RowKit
/-- What the operations, all of them 'build's without a guard, leave. -/
def builds (P : Program) : List Oper → Act → Option Act
  | [], a => some a
  | o :: l, a => match o.guard, o.op with
    | none, .build t parts => match P.built t (parts.map fun (i, x) => (i, a.eval x)).toList with
      | some cells => builds P l (a.put o.dst (.agg cells))
      | none => none
    | _, _ => none
section
variable {P : Program} {ops : Array Oper} {Q : Exit → Act → World → Prop} {w : World}
theorem wpList_builds_append : ∀ (l rest : List Oper) (a a' : Act), builds P l a = some a' → wpList P ops Q rest a' w → wpList P ops Q (l ++ rest) a w
  | [], rest, a, a', hb, h => by
    simp only [builds, Option.some.injEq] at hb
    subst hb
    exact h
  | o :: l, rest, a, a', hb, h => by
    unfold builds at hb
    split at hb
    · rename_i t parts hg ho
      split at hb
      · rename_i cells hc
        refine wpList_build hg t parts ho (by rw [hc]; rfl) ?_
        rw [hc]
        exact wpList_builds_append l rest _ a' hb h
      · cases hb
    · cases hb
theorem wpList_builds {L : List Oper} {a : Act} (n : Nat) (hb : (builds P (L.take n) a).isSome = true) (h : wpList P ops Q (L.drop n) ((builds P (L.take n) a).getD a) w) : wpList P ops Q L a w := by
  obtain ⟨a', ha⟩ := Option.isSome_iff_exists.1 hb
  rw [ha] at h
  have := wpList_builds_append (ops := ops) (Q := Q) (L.take n) (L.drop n) a a' ha h
  rwa [List.take_append_drop] at this
theorem wpList_alloc_zero {o : Oper} {rest : List Oper} {a : Act} (hg : o.guard = none) (t : TypeId) (ho : o.op = .alloc t) (z : Value) (n : Nat) (hi : (P.info? t).map (fun i => (i.zero, i.size)) = some (some z, n))
    (h : wpList P ops Q rest (a.put o.dst (.pointer (some ⟨w.heap.size, 0, none⟩))) (w.alloc (.cells z.cells t))) : wpList P ops Q (o :: rest) a w := by
  refine wpList_plain hg fun K hK => ?_
  have hz := (zero_of_info (P := P) hi).1 w
  unfold Oper.wp execOp
  simp only [ho, Instr.alloc, newVar, newRow, newObj, Sem.run_bind, hz, Result.andThen_ok]
  exact hK _ _ h
/-- What a slice literal lays. -/
def Program.builtSlice (P : Program) (t : TypeId) (len : Nat) (parts : List (Nat × Value)) : Option (TypeId × Array Value) :=
  match P.underlying t with
  | some (.slice elem) => match (P.info? elem).map (fun i => (i.zero, i.size)) with
    | some (some z, size) => if len * size = 0 ∨ len * size > 2 ^ 24 then none else (Instr.fill (fun i => some (i * size, size)) ((Array.range (len * size)).map (z.cells[· % z.cells.size]!)) parts).map fun c => (elem, c)
    | _ => none
  | _ => none
theorem wpList_buildSlice {o : Oper} {rest : List Oper} {a : Act} (hg : o.guard = none) (t : TypeId) (len : Nat) (parts : Array (Nat × Operand)) (ho : o.op = .buildSlice t len parts) (e : TypeId) (cells : Array Value)
    (hb : Program.builtSlice P t len (parts.map fun (i, x) => (i, a.eval x)).toList = some (e, cells))
    (h : wpList P ops Q rest (a.put o.dst (.slice (some ⟨w.heap.size, 0, none⟩) len len)) (w.alloc (.cells cells e))) : wpList P ops Q (o :: rest) a w := by
  refine wpList_plain hg fun K hK => ?_
  unfold Program.builtSlice at hb
  split at hb
  · rename_i elem hu
    split at hb
    · rename_i z size hi
      obtain ⟨hz, hs⟩ := zero_of_info (P := P) hi
      split at hb
      · cases hb
      · rename_i hc
        simp only [Option.map_eq_some_iff, Prod.mk.injEq] at hb
        obtain ⟨c, hf, rfl, rfl⟩ := hb
        have h1 : ¬ len * size = 0 := fun e => hc (.inl e)
        have h2 : ¬ len * size > 2 ^ 24 := fun e => hc (.inr e)
        have hsz : ∀ w, (sizeOf elem).run P w = .ok size w := fun w => by
          cases hq : P.info? elem with
          | none => simp [hq] at hs
          | some i => simp [hq] at hs; simp [sizeOf, typeInfo, hq, hs]
        unfold Oper.wp execOp
        simp only [ho, Instr.buildSlice, Sem.run_bind, run_underlying hu, hsz, Result.andThen_ok, if_neg h1, if_neg h2, hz, Sem.run_pure]
        rw [show (Array.map (fun x => (x.fst, a.eval x.snd)) parts).toList = (parts.map fun (i, x) => (i, a.eval x)).toList from rfl, hf]
        simp only [newRow, newObj, Sem.run_bind, Result.andThen_ok, Sem.run_pure]
        exact hK _ _ h
    · cases hb
  · cases hb
end
end Go.Proofs.Ytfkeeigaocmalaa
