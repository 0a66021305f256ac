/- Clusters held against each other. -/
import Derived.Test.YtmfoldohmbaikaaClusC
namespace Go.Proofs.Ytmfoldohmbaikaa
open Go.RowKit Go.ChangeShapes Go.WideShapes
theorem cl_stood : Try.prog.stoodInHeld 77 = false := by kernel_rfl
theorem all_range_int : ∀ (xs ys : List Int), xs.length = ys.length → ((List.range xs.length).all fun i => xs.getD i 0 == ys.getD i 0) = (xs == ys)
  | [], [], _ => rfl
  | x :: xs, y :: ys, h => by
    have ih := all_range_int xs ys (by simpa using h)
    rw [List.length_cons, List.range_succ_eq_map, List.all_cons, List.all_map]
    simp only [List.getD_cons_zero, Function.comp_def, List.getD_cons_succ, ih]
    simp [List.cons_beq_cons]
  | [], _ :: _, h => by simp at h
  | _ :: _, [], h => by simp at h
theorem run_items_ints (w : World) (d : Nat) (e : TypeId) (k : IntKind) (he : Try.prog.underlying e = some (.int k)) (xs ys : List Int) : ∀ (l : List Nat), (∀ i ∈ l, i < xs.length ∧ i < ys.length) →
    (Op.eqItems (d + 1) e 1 (xs.map (Value.int k)).toArray (ys.map (Value.int k)).toArray l).run Try.prog w = .ok (l.all fun i => xs.getD i 0 == ys.getD i 0) w
  | [], _ => by simp [Op.eqItems]
  | i :: l, h => by
    obtain ⟨h1, h2⟩ := h i (by simp)
    have px : (part e (xs.map (Value.int k)).toArray (i * 1)).run Try.prog w = .ok (.int k (xs.getD i 0)) w := by
      simp [part, isAgg, run_underlying he, List.getD, List.getElem?_eq_getElem h1]
    have py : (part e (ys.map (Value.int k)).toArray (i * 1)).run Try.prog w = .ok (.int k (ys.getD i 0)) w := by
      simp [part, isAgg, run_underlying he, List.getD, List.getElem?_eq_getElem h2]
    have pe := run_equalIn_int (P := Try.prog) w d e k k (xs.getD i 0) (ys.getD i 0) he
    simp only [Op.eqItems, Sem.run_bind, px, py, pe, Result.andThen_ok, List.all_cons]
    cases hb : (xs.getD i 0 == ys.getD i 0)
    · simp
    · simp only [Bool.not_true, Bool.false_eq_true, if_false, Bool.true_and]
      exact run_items_ints w d e k he xs ys l fun j hj => h j (by simp [hj])
theorem padI_inj {a b : List Int} (h : padI a = padI b) (hl : a.length = b.length) : a = b := by
  unfold padI at h
  exact (List.append_inj h hl).1
theorem cl_part0 (l : List Int) (w : World) : (part 3 (clCells l).toArray 0).run Try.prog w = .ok (.int .i64 l.length) w := by
  simp [part, isAgg, run_underlying Try.underlying3, clCells]
theorem info_arr : (Try.prog.info? 75).map (·.size) = some 16 := by kernel_rfl
theorem cl_part1 (l : List Int) (hl : l.length ≤ 16) (w : World) : (part 75 (clCells l).toArray 1).run Try.prog w = .ok (.agg ((padI l).map (Value.int .i32)).toArray) w := by
  have h2 : List.take 16 (clCells l).tail = (padI l).map (Value.int .i32) := by
    have hp := padI_len l hl
    unfold clCells
    rw [List.tail_cons, List.take_of_length_le (by simp; omega)]
  cases hq : Try.prog.info? 75 with
  | none => have := info_arr; rw [hq] at this; cases this
  | some i =>
    have hs : i.size = 16 := by have := info_arr; rw [hq] at this; simpa using this
    simp only [part, isAgg, Sem.run_bind, run_underlying Try.underlying75, Result.andThen_ok]
    simp [sizeOf, typeInfo, hq, hs, h2]
theorem cl_arr (d : Nat) (a b : List Int) (ha : a.length ≤ 16) (hb : b.length ≤ 16) (w : World) : (Op.equalIn (d + 1 + 1) 75 (.agg ((padI a).map (Value.int .i32)).toArray) (.agg ((padI b).map (Value.int .i32)).toArray)).run Try.prog w = .ok (padI a == padI b) w := by
  have hc : Try.prog.cellsOf 21 = 1 := by kernel_rfl
  obtain ⟨i, hi⟩ : ∃ i, Try.prog.info? 21 = some i := Option.isSome_iff_exists.1 (by kernel_rfl)
  have h0 := run_equalIn_array (P := Try.prog) w (d + 1) ((padI a).map (Value.int .i32)).toArray ((padI b).map (Value.int .i32)).toArray Try.underlying75 hi
  rw [hc] at h0
  refine h0.trans ?_
  rw [run_items_ints w d 21 .i32 Try.underlying21 (padI a) (padI b) (List.range 16) (fun i hi => by rw [padI_len a ha, padI_len b hb]; simpa using hi)]
  have := all_range_int (padI a) (padI b) (by rw [padI_len a ha, padI_len b hb])
  rw [padI_len a ha] at this
  rw [this]
def clEq (a b : List Int) : Bool := decide (a = b)
theorem cl_fields : (Try.prog.fieldsOf 77).toList = [⟨"n", 3, 0, false, "", "linotype/cluster", 0⟩, ⟨"text", 75, 1, false, "", "linotype/cluster", 8⟩] := by
  simp only [Program.fieldsOf, Try.underlying77]
theorem eqFields_cons (w : World) (d : Nat) (xs ys : Array Value) (f : Field) (fs : List Field) (h : f.name ≠ "_") (a b : Value) (r : Bool) (ha : (part f.type xs f.offset).run Try.prog w = .ok a w) (hb : (part f.type ys f.offset).run Try.prog w = .ok b w) (hr : (Op.equalIn d f.type a b).run Try.prog w = .ok r w) :
    (Op.eqFields d xs ys (f :: fs)).run Try.prog w = if r = true then (Op.eqFields d xs ys fs).run Try.prog w else .ok false w := by
  rw [Op.eqFields, if_pos h]
  simp only [Sem.run_bind, ha, hb, hr, Result.andThen_ok]
  cases r <;> simp
theorem cl_equal (d : Nat) (a b : List Int) (ha : a.length ≤ 16) (hb : b.length ≤ 16) (w : World) : (Op.equalIn (d + 1 + 1 + 1) 77 (.agg (clCells a).toArray) (.agg (clCells b).toArray)).run Try.prog w = .ok (clEq a b) w := by
  rw [run_equalIn_agg w (d + 1 + 1) _ _ _ (by kernel_rfl) cl_stood, cl_fields]
  have n1 : ("n" : String) ≠ "_" := by decide
  have n2 : ("text" : String) ≠ "_" := by decide
  rw [eqFields_cons w (d + 1 + 1) _ _ ⟨"n", 3, 0, false, "", "linotype/cluster", 0⟩ _ n1 _ _ _ (cl_part0 a w) (cl_part0 b w) (run_equalIn_int (P := Try.prog) w (d + 1) 3 .i64 .i64 a.length b.length Try.underlying3)]
  rw [eqFields_cons w (d + 1 + 1) _ _ ⟨"text", 75, 1, false, "", "linotype/cluster", 8⟩ _ n2 _ _ _ (cl_part1 a ha w) (cl_part1 b hb w) (cl_arr d a b ha hb w)]
  unfold clEq
  by_cases h : a = b
  · subst h
    simp [Op.eqFields]
  · by_cases h1 : a.length = b.length
    · have h2 : (padI a == padI b) = false := by
        cases hh : (padI a == padI b) with
        | false => rfl
        | true => exact absurd (padI_inj (by simpa using hh) h1) h
      simp [h2, h]
    · have h3 : ((a.length : Int) == (b.length : Int)) = false := by simp; omega
      simp only [h3]
      simp [h]
end Go.Proofs.Ytmfoldohmbaikaa
