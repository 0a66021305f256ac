/- Contracts of seg.State's joins and Step. -/
import Derived.Test.YtkpmmkokfllafaaSegC
namespace Go.Proofs.Ytkpmmkokfllafaa
open Go.RowKit Go.ChangeShapes Go.WideShapes
/-- Block g is a state. -/
def SegAt (w : World) (g : Nat) (tl : Bool) (la cj pi : Int) (od : Bool) : Prop := Has w g [.bool tl, .int .i64 la, .int .u8 cj, .int .u8 pi, .bool od] 58
def joinsB (tl : Bool) (la cj pi : Int) (od : Bool) (br : Int) (pc : Bool) (cv : Int) : Bool :=
  if tl = false then false else if joinI la br = 1 then true else if cv = 1 ∧ cj = 2 then true else if pc = true ∧ pi = 2 then true else (br == 6 && od)
theorem joins_cases (tl : Bool) (la cj pi : Int) (od : Bool) (br : Int) (pc : Bool) (cv : Int) :
    (tl = false ∧ joinsB tl la cj pi od br pc cv = false) ∨ (tl = true ∧ (joinI la br == 1) = true ∧ joinsB tl la cj pi od br pc cv = true)
    ∨ (tl = true ∧ (joinI la br == 1) = false ∧ (cv == 1) = true ∧ (cj == 2) = true ∧ joinsB tl la cj pi od br pc cv = true)
    ∨ (tl = true ∧ (joinI la br == 1) = false ∧ ((cv == 1) = false ∨ (cv == 1) = true ∧ (cj == 2) = false) ∧ pc = true ∧ (pi == 2) = true ∧ joinsB tl la cj pi od br pc cv = true)
    ∨ (tl = true ∧ (joinI la br == 1) = false ∧ ((cv == 1) = false ∨ (cv == 1) = true ∧ (cj == 2) = false) ∧ (pc = false ∨ pc = true ∧ (pi == 2) = false) ∧ ((br == 6) = false ∧ joinsB tl la cj pi od br pc cv = false ∨ (br == 6) = true ∧ joinsB tl la cj pi od br pc cv = od)) := by
  unfold joinsB
  cases tl with
  | false => simp
  | true =>
    by_cases h1 : joinI la br = 1
    · simp [h1]
    by_cases h2 : cv = 1 ∧ cj = 2
    · simp [h1, h2]
    have h2' : ((cv == 1) = false ∨ (cv == 1) = true ∧ (cj == 2) = false) := by
      by_cases h : cv = 1
      · exact .inr ⟨by simpa using h, by simp; intro e; exact h2 ⟨h, e⟩⟩
      · exact .inl (by simpa using h)
    by_cases h3 : pc = true ∧ pi = 2
    · refine .inr (.inr (.inr (.inl ⟨rfl, by simpa using h1, h2', h3.1, by simpa using h3.2, ?_⟩)))
      rw [if_neg (by simp), if_neg h1, if_neg h2, if_pos h3]
    have h3' : (pc = false ∨ pc = true ∧ (pi == 2) = false) := by
      cases pc with
      | false => exact .inl rfl
      | true => exact .inr ⟨rfl, by simp; intro e; exact h3 ⟨rfl, e⟩⟩
    refine .inr (.inr (.inr (.inr ⟨rfl, by simpa using h1, h2', h3', ?_⟩)))
    rw [if_neg (by simp), if_neg h1, if_neg h2, if_neg h3]
    by_cases h4 : br = 6 <;> simp [h4]
set_option maxRecDepth 100000 in
set_option maxHeartbeats 4000000 in
theorem joins_any (g : Nat) (tl : Bool) (la cj pi : Int) (od : Bool) (br : Int) (pc : Bool) (cv ea : Int) (w : World) (hs : SegAt w g tl la cj pi od) :
    Calls Try.prog 42 #[.pointer (some ⟨g, 0, none⟩), .agg #[.int .i64 br, .bool pc, .int .i64 cv, .int .i64 ea]] w (Gives w (.bool (joinsB tl la cj pi od br pc cv))) := by
  rcases joins_cases tl la cj pi od br pc cv with ⟨rfl, hv⟩ | ⟨rfl, h1, hv⟩ | ⟨rfl, h1, h2, h3, hv⟩ | ⟨rfl, h1, h2 | ⟨h2, h2'⟩, rfl, h3, hv⟩ | ⟨rfl, h1, h2 | ⟨h2, h2'⟩, rfl | ⟨rfl, h3⟩, ⟨h4, hv⟩ | ⟨h4, hv⟩⟩
  · rw [hv]
    have c0 := hs.cell 0 _ rfl
    have hl := hs.lt
    clear hs hv
    go_enter Try.func42, Try.ntmps42
    go_wp2
    go_ret
    exact ⟨(ret_eq (by first | rfl | (simp <;> omega))), (Below.refl _ _).alloc (Nat.le_refl _) _⟩
  all_goals
    have HV := Lib.hid hv
    have cw := hs.cell 0 _ rfl
    have hlw := hs.lt
    clear hv
    go_enter Try.func42, Try.ntmps42
    go_wp2_with fail
    obtain ⟨W, hW, hb, hl⟩ := pbox w br _ cv ea
    rw [← hW]
    have hs1 : SegAt W g true la cj pi od := by rw [hW]; exact hs.alloc _
    have c0 := hs1.cell 0 _ rfl
    have e0 := ext_cell (hb.cell 0 _ rfl)
    have e1 := ext_cell (hs1.cell 1 _ rfl)
    have HB := Lib.hid hb
    have HS := Lib.hid hs1
    have HL := Lib.hid hl
    clear hb hs1 hl hW hs cw hlw
    refine wp_region_ext (by kernel_rfl) (by kernel_rfl) ?_
    repeat (go_big_quiet_step ((go_at_call 53; exact callx_same (join_any la br _))))
    refine wpQuiet_nil ?_
    intro _ hw'
    obtain ⟨u, hw''⟩ := hw'
    subst hw''
    obtain ⟨W2, hW2⟩ : ∃ W2, W2 = ext W u := ⟨_, rfl⟩
    rw [← hW2]
    have hb2 := HB.out.below u.ok HB.out.lt
    rw [show u.tz9 = W2 from hW2.symm] at hb2
    have hs2 : SegAt W2 g true la cj pi od := by rw [hW2]; exact HS.out.below u.ok HS.out.lt
    have hl2 : Below w.heap.size w W2 := by rw [hW2]; exact ext_below HL.out u
    clear hW2 HB HS HL e0 e1 c0
    have b0 := hb2.cell 0 _ rfl
    have b1 := hb2.cell 1 _ rfl
    have b2 := hb2.cell 2 _ rfl
    have c2 := hs2.cell 2 _ rfl
    have c3 := hs2.cell 3 _ rfl
    have c4 := hs2.cell 4 _ rfl
    clear hb2 hs2
    go_wp2
    go_ret
    exact ⟨ret_eq (by rw [HV.out]; rfl), hl2⟩
end Go.Proofs.Ytkpmmkokfllafaa
