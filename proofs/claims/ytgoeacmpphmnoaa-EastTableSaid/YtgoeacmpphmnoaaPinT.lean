/- The tables' spans. -/
import Derived.Test.YtgoeacmpphmnoaaPinA
import Derived.Test.YtgoeacmpphmnoaaPinS
import Derived.Test.YtgoeacmpphmnoaaMany
import Derived.Test.YtgoeacmpphmnoaaTabE
import Derived.Test.YtgoeacmpphmnoaaTabF
import Derived.Test.YtgoeacmpphmnoaaRow
namespace Go.Proofs.Ytgoeacmpphmnoaa
open Go.RowKit Go.ChangeShapes Go.WideShapes
theorem tab_bds {T : List (Int × Int)} (h : tabOk T = true) : ∀ k, k < T.length → 0 ≤ (T.getD k (0, 0)).1 ∧ (T.getD k (0, 0)).1 ≤ 2147483647 ∧ 0 ≤ (T.getD k (0, 0)).2 ∧ (T.getD k (0, 0)).2 ≤ 2147483647 := by
  intro k hk
  have := (tabOk_at h).2 k hk
  omega
theorem tab_ones (k : IntKind) (T : List (Int × Int)) : ∀ v ∈ tabCells k T, v.oneCell' = true := by
  intro v hv
  unfold tabCells at hv
  rw [List.mem_flatMap] at hv
  obtain ⟨p, _, hp⟩ := hv
  simp at hp
  rcases hp with rfl | rfl <;> rfl
theorem tab_two (k : IntKind) (T : List (Int × Int)) (n : Nat) (h : T.length = n) : (tabCells k T).length = 2 * n := by rw [tabCells_len, h]
set_option maxRecDepth 100000 in
theorem pspans_any (w : World) : Calls Try.prog 31 #[] w (PinOk w w.heap.size s10) := by
  have hst := storesT Try.prog 92 tPict Try.zeroCells92 78 (by kernel_rfl) (by kernel_rfl) tPict_len
  have hp : s10.Perm (tabSp 1 tPict) := (sortS_perm _).trans (by simp [tabSpans])
  have HP := Lib.hid hp
  clear hp
  go_enter Try.func31, Try.ntmps31
  go_wp2_with fail
  refine (pictures_any _).mono ?_
  rintro e w1 ⟨rfl, b1⟩
  have hbW := b1.alloc b1.size (.cells (tabCells .i32 tPict).toArray 92)
  have HB := Lib.hid hbW
  clear hbW
  go_wp2_with fail
  refine (add_any (.slice none 0 0) [] 1 w1.heap.size 78 78 tPict 92 _ w.heap.size 0 rfl (World.ownsRow_nil _ _ _ _) HB.out.size tPict_len (heap_alloc_last w1 _) (by decide) (tab_bds (by decide +kernel)) (by decide)).mono ?_
  rintro e w2 ⟨v2, n2, rfl, hn2, ho2, b2, _⟩
  rw [List.nil_append] at hn2 ho2
  have hb2 := HB.out.trans b2
  have hnl : n2 ≤ 999999 := by rw [hn2]; decide +kernel
  have HF := Lib.hid (pinfew_any v2 (tabSp 1 tPict) s10 HP.out s10_right w2 w.heap.size n2 hn2 ho2 hb2.size hnl)
  clear hst hn2 ho2 hnl b2
  go_wp2_with fail
  refine HF.out.mono ?_
  rintro e w3 ⟨v3, rfl, h3, b3⟩
  have hb3 := hb2.trans b3
  go_wp2
  go_ret
  exact ⟨_, rfl, h3, hb3⟩
end Go.Proofs.Ytgoeacmpphmnoaa
