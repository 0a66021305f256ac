/- Contracts of pinned: Add. -/
import Derived.Test.YtgoeacmpphmnoaaSpanH
import Derived.Test.YtgoeacmpphmnoaaTabC
import Derived.Test.YtgoeacmpphmnoaaPinM
namespace Go.Proofs.Ytgoeacmpphmnoaa
open Go.RowKit Go.ChangeShapes Go.WideShapes
/-- Blocks of other types than spans stay. -/
def KeepT (w w' : World) : Prop := ∀ g C ty, ty ≠ 98 → Has w g C ty → Has w' g C ty
theorem KeepT.refl (w : World) : KeepT w w := fun _ _ _ _ h => h
theorem KeepT.trans {a b c : World} (h : KeepT a b) (k : KeepT b c) : KeepT a c := fun g C ty hn hh => k g C ty hn (h g C ty hn hh)
theorem KeepT.alloc (w : World) (o : Obj) : KeepT w (w.alloc o) := fun _ _ _ _ h => h.alloc o
theorem KeepT.ofBelow {w w' : World} (h : Below w.heap.size w w') : KeepT w w' := fun _ _ _ _ hh => hh.below h hh.lt
theorem keepT_of {w w' : World} {B n : Nat} {v : Value} {xs : List Value} (hown : w.ownsRow B 98 3 v n xs) (hk : ∀ g, g < w.heap.size → v.ownBlock ≠ some g → w'.heap[g]? = w.heap[g]?) : KeepT w w' := by
  intro g C ty hne h
  refine (hk g h.lt fun e => ?_).trans h
  rcases hown.2 with ⟨rfl, _⟩ | ⟨g', cap, cur, rfl, _, hh, _⟩
  · cases e
  · have e2 : some g' = some g := e
    cases e2
    unfold Has at h
    rw [hh] at h
    cases h
    exact hne rfl
def AddOk (w : World) (B : Nat) (T : List Sp) (e : Ending) (w' : World) : Prop := ∃ v' n, e = .returned v' ∧ n = T.length ∧ w'.ownsRow B 98 3 v' n (spCells T) ∧ Below B w w' ∧ KeepT w w'
theorem tabSp_take (val : Int) (tab : List (Int × Int)) (k : Nat) (h : k < tab.length) : tabSp val (tab.take (k + 1)) = tabSp val (tab.take k) ++ [((tab.getD k (0, 0)).1, (tab.getD k (0, 0)).2, val)] := by
  unfold tabSp
  rw [List.take_succ_eq_append_getElem h, List.map_append]
  simp [List.getD, List.getElem?_eq_getElem h]
set_option maxRecDepth 100000 in
set_option maxHeartbeats 1000000 in
theorem add_any (v : Value) (T : List Sp) (val : Int) (t m cap : Nat) (tab : List (Int × Int)) (ty : TypeId) (w : World) (B n : Nat) (hn : n = T.length) (hown : w.ownsRow B 98 3 v n (spCells T)) (hB : B ≤ w.heap.size)
    (hm : tab.length = m) (ht : Has w t (tabCells .i32 tab) ty) (hty : ty ≠ 98) (hr : ∀ k, k < tab.length → 0 ≤ (tab.getD k (0, 0)).1 ∧ (tab.getD k (0, 0)).1 ≤ 2147483647 ∧ 0 ≤ (tab.getD k (0, 0)).2 ∧ (tab.getD k (0, 0)).2 ≤ 2147483647) (hl : n + m ≤ 1000000) :
    Calls Try.prog 80 #[v, .int .i64 val, .slice (some ⟨t, 0, none⟩) m cap] w (AddOk w B (T ++ tabSp val tab)) := by
  have HT := Lib.hid ht
  have HR := Lib.hid hr
  have HO := Lib.hid hown
  have HN := Lib.hid hn
  have HM := Lib.hid hm
  clear ht hr hown hn hm
  go_enter Try.func80, Try.ntmps80
  go_wp2
  go_loopw [0, 11] (fun lv iv wr => ∃ k n' : Nat, k ≤ m ∧ iv = .int .i64 k ∧ n' = n + k ∧ wr.ownsRow B 98 3 lv n' (spCells (T ++ tabSp val (tab.take k))) ∧ Below B w wr ∧ KeepT w wr) (fun _ iv _ => m - (intOf iv).toNat)
  case atStart => exact ⟨0, n, Nat.zero_le _, rfl, rfl, by simpa [tabSp] using HO.out, Below.refl _ _, KeepT.refl _⟩
  case round =>
    obtain ⟨k, n', hk, rfl, hn', hown, hbw, hkp⟩ := hrel
    by_cases hlt : k < m
    · have htw := hkp t _ ty hty HT.out
      have hkl : k < tab.length := by rw [HM.out]; exact hlt
      obtain ⟨e0, e1⟩ := tabCells_at .i32 tab k hkl
      have c0 := htw.cell (k * 2) _ e0
      have c1 := htw.cell (k * 2 + 1) _ e1
      obtain ⟨r1, r2, r3, r4⟩ := HR.out k hkl
      have hts := tabSp_take val tab k hkl
      obtain ⟨q, hq⟩ : ∃ q, q = tab.getD k (0, 0) := ⟨_, rfl⟩
      rw [← hq] at c0 c1 r1 r2 r3 r4 hts
      obtain ⟨a, b⟩ := q
      simp only at c0 c1 r1 r2 r3 r4 hts
      have htl := htw.lt
      have hW := Has.new wr [Value.int .i32 a, .int .i32 b] 91
      have hbW := hbw.alloc (Nat.le_trans hB hbw.size) (.cells [Value.int .i32 a, .int .i32 b].toArray 91)
      have hkW := hkp.trans (KeepT.alloc wr (.cells [Value.int .i32 a, .int .i32 b].toArray 91))
      have hoW := hown.alloc (.cells [Value.int .i32 a, .int .i32 b].toArray 91)
      have hszW : (wr.alloc (.cells [Value.int .i32 a, .int .i32 b].toArray 91)).heap.size = wr.heap.size + 1 := by simp
      have k0 := hW.cell 0 _ rfl
      have k1 := hW.cell 1 _ rfl
      have HTS := Lib.hid hts
      have HOW := Lib.hid hoW
      have HKW := Lib.hid hkW
      have HBW := Lib.hid hbW
      have HSZ := Lib.hid hszW
      have HN' := Lib.hid hn'
      have hn2 : n' ≤ 1000000 := by omega
      clear hts hoW hkW hbW hszW hq htw e0 e1 hW hown hkp hn'
      go_wp2_with (at_builtin; go_loud (refine wpList_append_newK (wr.alloc (.cells [Value.int .i32 a, .int .i32 b].toArray 91)) rfl (.tmp 15) (.tmp 24) 51 rfl B 98 (.agg #[.int .i64 0, .int .i64 0, .int .i64 0]) 3 24 Try.underlying51 info_span rfl (by decide) u0 n' (spCells (T ++ tabSp val (tab.take k))) rfl HOW.out [.int .i64 a, .int .i64 b, .int .i64 val] 1 1 (wr.heap.size + 1) HSZ.out rfl rfl (by intro u hu; simp at hu; rcases hu with rfl | rfl | rfl <;> rfl) (by omega) (by omega) (Nat.le_trans hB HBW.out.size) ?_))
      intro v' w' hown' hb' hk'
      have hown3 : w'.ownsRow B 98 3 v' (n' + 1) (spCells (T ++ tabSp val (tab.take (k + 1)))) := by
        rw [HTS.out, ← List.append_assoc, spCells_app]; exact hown'
      have hb3 := HBW.out.trans hb'
      have hk3 := HKW.out.trans (keepT_of HOW.out fun g hg hne => hk' g (by simpa using hg) hne)
      have hn3 : n' + 1 = n + (k + 1) := by have := HN'.out; omega
      have HN3 := Lib.hid hn3
      clear hown' hb' hk' HTS HOW HKW HBW HSZ HN' hn3 c0 c1 k0 k1
      go_wp2
      go_roundw
      case rel => exact ⟨k + 1, n' + 1, by omega, by go_num, HN3.out, hown3, hb3, hk3⟩
      case measure => simp [intOf] <;> omega
    · obtain rfl : k = m := by omega
      rw [← HM.out, List.take_length] at hown
      have hln : n' = (T ++ tabSp val tab).length := by rw [hn', HN.out, ← HM.out]; unfold tabSp; simp
      have HLN := Lib.hid hln
      clear hln hn'
      go_wp2
      go_ret
      exact ⟨_, n', rfl, HLN.out, hown, hbw, hkp⟩
end Go.Proofs.Ytgoeacmpphmnoaa
