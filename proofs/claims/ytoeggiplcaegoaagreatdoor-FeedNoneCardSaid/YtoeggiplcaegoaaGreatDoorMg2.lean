/- Texts put together: TabC. -/
import Derived.Test.YtoeggiplcaegoaaGreatDoorMg1
/- A slice of stretches; contracts of pinned.Has and of the reference's In. -/
namespace Go.Proofs.YtoeggiplcaegoaaGreatDoor
open Go.RowKit Go.ChangeShapes Go.WideShapes
/-- In the world w the slice value v holds the stretches T (numbers of kind k). -/
def HeldT (k : IntKind) (w : World) (v : Value) (T : List (Int × Int)) : Prop :=
  ∃ ao cap, v = .slice ao T.length cap ∧ ∀ i, i < T.length → ∃ b off, ao = some ⟨b, off, none⟩ ∧ b < w.heap.size ∧ w.cell? ⟨b, off + i * 2, none⟩ = some (.int k (T.getD i (0, 0)).1) ∧ w.cell? ⟨b, off + i * 2 + 1, none⟩ = some (.int k (T.getD i (0, 0)).2)
theorem HeldT.below {k : IntKind} {w w' : World} {v : Value} {T : List (Int × Int)} (h : HeldT k w v T) (hb : Below w.heap.size w w') : HeldT k w' v T := by
  obtain ⟨ao, cap, rfl, hc⟩ := h
  refine ⟨ao, cap, rfl, fun i hi => ?_⟩
  obtain ⟨b, off, rfl, hlt, h1, h2⟩ := hc i hi
  exact ⟨b, off, rfl, by have := hb.size; omega, (hb.cell (p := ⟨b, _, none⟩) hlt).trans h1, (hb.cell (p := ⟨b, _, none⟩) hlt).trans h2⟩
theorem HeldT.view {k : IntKind} {w : World} {v : Value} {T : List (Int × Int)} (h : HeldT k w v T) : ∃ ao cap, v = .slice ao T.length cap ∧ ∀ i, i < T.length → ∃ b off, ao = some ⟨b, off, none⟩ ∧ b < w.heap.size ∧ w.cell? ⟨b, off + i * 2, none⟩ = some (.int k (T.getD i (0, 0)).1) ∧ w.cell? ⟨b, off + i * 2 + 1, none⟩ = some (.int k (T.getD i (0, 0)).2) := h
/-- The cells of a list of stretches. -/
def tabCells (k : IntKind) (T : List (Int × Int)) : List Value := T.flatMap fun p => [.int k p.1, .int k p.2]
theorem tabCells_len (k : IntKind) (T : List (Int × Int)) : (tabCells k T).length = 2 * T.length := by
  induction T with
  | nil => rfl
  | cons p T ih => simp only [tabCells, List.flatMap_cons, List.length_append, List.length_cons, List.length_nil] at *; omega
theorem tabCells_at (k : IntKind) : ∀ (T : List (Int × Int)) (i : Nat), i < T.length → (tabCells k T)[i * 2]? = some (.int k (T.getD i (0, 0)).1) ∧ (tabCells k T)[i * 2 + 1]? = some (.int k (T.getD i (0, 0)).2)
  | [], i, h => absurd h (Nat.not_lt_zero _)
  | p :: T, 0, _ => ⟨rfl, rfl⟩
  | p :: T, i + 1, h => by
    have := tabCells_at k T i (by simpa using h)
    rw [show (i + 1) * 2 = i * 2 + 1 + 1 by omega]
    simpa [tabCells] using this
theorem heldT_has {k : IntKind} {w : World} {g : Nat} {T : List (Int × Int)} {t : TypeId} {cap : Nat} (h : Has w g (tabCells k T) t) : HeldT k w (.slice (some ⟨g, 0, none⟩) T.length cap) T := by
  refine ⟨_, _, rfl, fun i hi => ⟨g, 0, rfl, h.lt, ?_, ?_⟩⟩
  · rw [Nat.zero_add]; exact h.cell _ _ (tabCells_at k T i hi).1
  · rw [Nat.zero_add]; exact h.cell _ _ (tabCells_at k T i hi).2
def endsB (T : List (Int × Int)) (r : Int) (i : Nat) : Bool := decide (r ≤ (T.getD i (0, 0)).2)
theorem getD_tab {T : List (Int × Int)} {i : Nat} (h : i < T.length) : T.getD i (0, 0) = T[i] := by simp [List.getD, List.getElem?_eq_getElem h]
theorem ends_mono {T : List (Int × Int)} {r : Int} (hu : upTab T = true) : ∀ a b, a ≤ b → b < T.length → endsB T r a = true → endsB T r b = true := by
  intro a b hab hb h
  unfold endsB at *
  rw [getD_tab hb]
  rw [getD_tab (by omega)] at h
  rcases Nat.lt_or_ge a b with hlt | hge
  · have h1 := up_lt hu a b hlt hb
    have h2 := up_le hu b hb
    simp at h ⊢
    omega
  · obtain rfl : a = b := by omega
    exact h
set_option maxRecDepth 100000 in
theorem clo_any (w : World) (b1 b2 : Nat) (ao : Option Addr) (n cap : Nat) (T : List (Int × Int)) (r : Int) (hb1 : w.cell? ⟨b1, 0, none⟩ = some (.slice ao n cap)) (hb2 : w.cell? ⟨b2, 0, none⟩ = some (.int .i32 r)) (hh : HeldT .i32 w (.slice ao n cap) T) (i : Nat) (hi : i < T.length) (hl : T.length ≤ 1000000) :
    Calls Tryz.prog 282 (#[.int .i64 i] ++ #[.pointer (some ⟨b1, 0, none⟩), .pointer (some ⟨b2, 0, none⟩)]) w (Gives w (.bool (endsB T r i))) := by
  obtain ⟨ao', cap', e, hc⟩ := hh
  cases e
  obtain ⟨b, off, rfl, hb, h1, h2⟩ := hc i hi
  unfold endsB
  generalize (T.getD i (0, 0)).2 = y at *
  clear hc h1
  go_enter Tryz.func282, Tryz.ntmps282
  go_wp2
  go_quiet (fail)
  go_wp2
  go_ret
  exact ⟨(ret_eq (by first | rfl | (simp <;> omega))), (Below.refl _ _).drewN _⟩
set_option maxRecDepth 100000 in
theorem has_any (v : Value) (T : List (Int × Int)) (r : Int) (w : World) (hh : HeldT .i32 w v T) (hu : upTab T = true) (hl : T.length ≤ 1000000) :
    Calls Tryz.prog 242 #[v, .int .i32 r] w (Gives w (.bool (inTab T r))) := by
  obtain ⟨ao, cap, rfl, hc⟩ := hh.view
  obtain ⟨W, hW⟩ : ∃ W, W = (w.alloc (.cells #[.slice ao T.length cap] 296)).alloc (.cells #[.int .i32 r] 21) := ⟨_, rfl⟩
  have hb1 : Has W w.heap.size [.slice ao T.length cap] 296 := by rw [hW]; exact (Has.new w _ _).alloc _
  have hb2 : Has W (w.heap.size + 1) [.int .i32 r] 21 := by rw [hW]; have := Has.new (w.alloc (.cells #[.slice ao T.length cap] 296)) [.int .i32 r] 21; simpa using this
  have hl0 : Below w.heap.size w W := by rw [hW]; exact ((Below.refl _ _).alloc (Nat.le_refl _) _).alloc (by simp) _
  have hs := search_any 282 #[.pointer (some ⟨w.heap.size, 0, none⟩), .pointer (some ⟨w.heap.size + 1, 0, none⟩)] T.length (endsB T r) W (enters_of Tryz.func282 (by kernel_rfl) rfl) (by omega)
    (fun w' hb i hi => clo_any w' w.heap.size (w.heap.size + 1) ao T.length cap T r ((hb1.below hb hb1.lt).cell 0 _ rfl) ((hb2.below hb hb2.lt).cell 0 _ rfl) ((hh.below hl0).below hb) i hi hl) (ends_mono hu)
  have HS := Lib.hid hs
  have HC := Lib.hid hc
  have HU := Lib.hid hu
  have HL := Lib.hid hl0
  have HB1 := Lib.hid hb1
  have HB2 := Lib.hid hb2
  clear hs hc hu hl0 hb1 hb2 hh
  go_enter Tryz.func242, Tryz.ntmps242
  go_wp2_with fail
  rw [← hW]
  refine HS.out.mono ?_
  rintro e w' ⟨k, hk, rfl, hlo, hhi, hbw⟩
  have hb1 := (HB1.out.below hbw HB1.out.lt).cell 0 _ rfl
  have hb2 := (HB2.out.below hbw HB2.out.lt).cell 0 _ rfl
  have hbl : Below w.heap.size w w' := HL.out.trans (hbw.mono HL.out.size)
  by_cases hkl : k < T.length
  · obtain ⟨b, off, rfl, hb, h1, h2⟩ := HC.out k hkl
    have h1 := (hbl.cell (p := ⟨b, off + k * 2, none⟩) hb).trans h1
    have he : inTab T r = decide ((T.getD k (0, 0)).1 ≤ r) := by
      rw [getD_tab hkl]
      refine inTab_search HU.out k hkl (fun j hj => ?_) ?_
      · have := hlo j hj
        unfold endsB at this
        rw [getD_tab (by omega)] at this
        simpa using this
      · have := hhi k (Nat.le_refl _) hkl
        unfold endsB at this
        rw [getD_tab hkl] at this
        simpa using this
    have HE := Lib.hid he
    clear he hlo hhi h2 hbw hW
    generalize (T.getD k (0, 0)).1 = y at *
    go_wp2
    go_quiet (fail)
    go_wp2
    go_ret
    exact ⟨ret_eq (by rw [HE.out]; rfl), hbl.drewN _⟩
  · have he : inTab T r = false := inTab_past fun j hj => by
      have := hlo j (by omega)
      unfold endsB at this
      rw [getD_tab hj] at this
      simpa using this
    have HE := Lib.hid he
    obtain rfl : k = T.length := by omega
    clear he hlo hhi hbw hW
    go_wp2
    go_quiet (fail)
    go_wp2
    go_ret
    exact ⟨ret_eq (by rw [HE.out]; rfl), hbl.drewN _⟩
end Go.Proofs.YtoeggiplcaegoaaGreatDoor
