/- Contracts of spans: put. -/
import Derived.Test.YtgoeacmpphmnoaaSpanF
import Derived.Test.YtgoeacmpphmnoaaUallG
namespace Go.Proofs.Ytgoeacmpphmnoaa
open Go.RowKit Go.ChangeShapes Go.WideShapes
def joinB (l s : Sp) : Bool := (l.2.1 + 1 == s.1) && (l.2.2 == s.2.2)
def putS (T : List Sp) (s : Sp) : List Sp := match T.getLast? with
  | none => [s]
  | some l => if joinB l s = true then T.dropLast ++ [(l.1, s.2.1, l.2.2)] else T ++ [s]
theorem putS_nil (s : Sp) : putS [] s = [s] := rfl
theorem putS_no (U : List Sp) (l s : Sp) (h : joinB l s = false) : putS (U ++ [l]) s = U ++ [l] ++ [s] := by
  unfold putS
  rw [List.getLast?_concat]
  show (if joinB l s = true then _ else _) = _
  rw [h]; rfl
theorem putS_yes (U : List Sp) (l s : Sp) (h : joinB l s = true) : putS (U ++ [l]) s = U ++ [(l.1, s.2.1, l.2.2)] := by
  unfold putS
  rw [List.getLast?_concat]
  show (if joinB l s = true then _ else _) = _
  rw [h, if_pos rfl, List.dropLast_concat]
theorem sp_end (T : List Sp) : T = [] ∨ ∃ U l, T = U ++ [l] := by
  rcases List.eq_nil_or_concat T with h | ⟨U, l, h⟩
  · exact .inl h
  · exact .inr ⟨U, l, by rw [h]; try simp⟩
theorem info_span : (Try.prog.info? 98).map (fun i => (i.zero, i.size, i.bytes)) = some (some (.agg #[.int .i64 0, .int .i64 0, .int .i64 0]), 3, 24) := by kernel_rfl
theorem spCells_set (U : List Sp) (l : Sp) (h : Int) : (spCells (U ++ [l])).set (U.length * 3 + 1) (.int .i64 h) = spCells (U ++ [(l.1, h, l.2.2)]) := by
  rw [spCells_app, spCells_app, ← spCells_len U, List.set_append_right _ _ (by omega), show (spCells U).length + 1 - (spCells U).length = 1 by omega]
  rfl
theorem getD_end (U : List Sp) (l : Sp) : (U ++ [l]).getD U.length z3 = l := by simp [List.getD]
def PutOk (w : World) (B : Nat) (T : List Sp) (e : Ending) (w' : World) : Prop := ∃ v' n, e = .returned v' ∧ n = T.length ∧ w'.ownsRow B 98 3 v' n (spCells T) ∧ Below B w w'
/-- .. and each block that is not the row's own is as it was. -/
def PutOkK (w : World) (B : Nat) (v : Value) (T : List Sp) (e : Ending) (w' : World) : Prop := PutOk w B T e w' ∧ ∀ g, g < w.heap.size → v.ownBlock ≠ some g → w'.heap[g]? = w.heap[g]?
set_option maxRecDepth 100000 in
set_option maxHeartbeats 1000000 in
theorem put_nil (v : Value) (lo hi val : Int) (w : World) (B : Nat) (hown : w.ownsRow B 98 3 v 0 (spCells [])) (hB : B ≤ w.heap.size) :
    Calls Try.prog 161 #[v, .agg #[.int .i64 lo, .int .i64 hi, .int .i64 val]] w (PutOkK w B v [(lo, hi, val)]) := by
  obtain ⟨ao, cap, rfl⟩ := (heldS_of_owns hown).len
  have hg0 := (Has.new w [Value.int .i64 lo, .int .i64 hi, .int .i64 val] 98)
  have hown2 := hown.alloc (.cells [Value.int .i64 lo, .int .i64 hi, .int .i64 val].toArray 98)
  have hb2 := (Below.refl B w).alloc hB (.cells [Value.int .i64 lo, .int .i64 hi, .int .i64 val].toArray 98)
  have hsz : (w.alloc (.cells [Value.int .i64 lo, .int .i64 hi, .int .i64 val].toArray 98)).heap.size = w.heap.size + 1 := by simp
  have HG := Lib.hid hg0
  have HO := Lib.hid hown2
  have HB := Lib.hid hb2
  have HZ := Lib.hid hsz
  clear hg0 hown2 hb2 hsz hown
  go_enter Try.func161, Try.ntmps161
  go_wp2
  go_quiet (fail)
  obtain ⟨W1, hW1⟩ : ∃ W1, W1 = (w.alloc (.cells [Value.int .i64 lo, .int .i64 hi, .int .i64 val].toArray 98)).drewN nq := ⟨_, rfl⟩
  rw [← hW1]
  have hg1 : Has W1 w.heap.size [Value.int .i64 lo, .int .i64 hi, .int .i64 val] 98 := by rw [hW1]; exact HG.out
  have c0 := hg1.cell 0 _ rfl
  have c1 := hg1.cell 1 _ rfl
  have c2 := hg1.cell 2 _ rfl
  have hown1 : W1.ownsRow B 98 3 (.slice ao 0 cap) 0 (spCells []) := by rw [hW1]; exact HO.out
  have hs1 : W1.heap.size = w.heap.size + 1 := by rw [hW1]; exact HZ.out
  have hb1 : Below B w W1 := by rw [hW1]; exact HB.out.drewN _
  have hk1 : ∀ g, g < w.heap.size → W1.heap[g]? = w.heap[g]? := fun g hg => by rw [hW1]; exact ((Below.refl w.heap.size w).alloc (Nat.le_refl _) (.cells [Value.int .i64 lo, .int .i64 hi, .int .i64 val].toArray 98)).block g hg
  have HK1 := Lib.hid hk1
  clear hk1
  clear hW1 hg1
  go_wp2_with (at_builtin; refine wpList_append_newK W1 rfl (.tmp 41) (.tmp 43) 51 rfl B 98 (.agg #[.int .i64 0, .int .i64 0, .int .i64 0]) 3 24 Try.underlying51 info_span rfl (by decide) (.slice ao 0 cap) 0 (spCells []) rfl hown1 [.int .i64 lo, .int .i64 hi, .int .i64 val] 1 1 (w.heap.size + 1) hs1 rfl rfl (by intro u hu; simp at hu; rcases hu with rfl | rfl | rfl <;> rfl) (by omega) (by omega) (by omega) ?_)
  intro v' w' hown' hb' hkp
  have hb3 := hb1.trans hb'
  have HKP := Lib.hid hkp
  clear hkp
  go_wp2
  go_ret
  exact ⟨⟨v', 1, rfl, rfl, hown', hb3⟩, fun g hg hne => (HKP.out g (by omega) hne).trans (HK1.out g hg)⟩
set_option maxRecDepth 100000 in
set_option maxHeartbeats 1000000 in
theorem put_no (v : Value) (U : List Sp) (l : Sp) (lo hi val : Int) (w : World) (B n m : Nat) (hm : m = U.length) (hn : n = m + 1) (hown : w.ownsRow B 98 3 v n (spCells (U ++ [l]))) (hB : B ≤ w.heap.size) (hl : n ≤ 1000000)
    (hq : -1 ≤ l.2.1 ∧ l.2.1 ≤ 1114111) (hj : joinB l (lo, hi, val) = false) :
    Calls Try.prog 161 #[v, .agg #[.int .i64 lo, .int .i64 hi, .int .i64 val]] w (PutOkK w B v (U ++ [l] ++ [(lo, hi, val)])) := by
  have hh := heldS_of_owns hown
  have hlen : (U ++ [l]).length = n := by simp; omega
  obtain ⟨ao, cap, rfl⟩ := hh.len
  have hown0 := hown
  rw [hlen] at hown0
  obtain ⟨b, off, rfl, hb, c0, c1, c2⟩ := hh.spots m (by omega)
  rw [hlen]
  rw [hm, getD_end, ← hm] at c0 c1 c2
  obtain ⟨p, q, vq⟩ := l
  simp only at c0 c1 c2 hq
  have hsn : spCells (U ++ [(p, q, vq)] ++ [(lo, hi, val)]) = spCells (U ++ [(p, q, vq)]) ++ [Value.int .i64 lo, .int .i64 hi, .int .i64 val] := by rw [spCells_app]; rfl
  have hln : n + 1 = (U ++ [(p, q, vq)] ++ [(lo, hi, val)]).length := by simp; omega
  have r1 : IntKind.i64.wrap (q + 1) = q + 1 := by rw [IntKind.wrap_i64]; omega
  have w1 : IntKind.i64.wrap ((n : Int) - 1) = (m : Int) := by rw [IntKind.wrap_i64]; omega
  have w2 : (n : Int) - 1 = (m : Int) := by omega
  have m0 : (0 : Int) ≤ (m : Int) := by omega
  have m1 : (m : Int) < (n : Int) := by omega
  have g0 : decide ((0 : Int) < (n : Int)) = true := decide_eq_true (by omega)
  have g1 : decide (0 < n) = true := decide_eq_true (by omega)
  have hd : (q + 1 == lo) = false ∨ ((q + 1 == lo) = true ∧ (vq == val) = false) := by
    unfold joinB at hj
    simp only at hj
    cases h : (q + 1 == lo) with
    | false => exact .inl rfl
    | true => rw [h, Bool.true_and] at hj; exact .inr ⟨rfl, hj⟩
  have hg0 := (Has.new w [Value.int .i64 lo, .int .i64 hi, .int .i64 val] 98)
  have hown2 := hown0.alloc (.cells [Value.int .i64 lo, .int .i64 hi, .int .i64 val].toArray 98)
  have hb2 := (Below.refl B w).alloc hB (.cells [Value.int .i64 lo, .int .i64 hi, .int .i64 val].toArray 98)
  have hsz : (w.alloc (.cells [Value.int .i64 lo, .int .i64 hi, .int .i64 val].toArray 98)).heap.size = w.heap.size + 1 := by simp
  have HG := Lib.hid hg0
  have HO := Lib.hid hown2
  have HB := Lib.hid hb2
  have HZ := Lib.hid hsz
  have HS := Lib.hid hsn
  have HN := Lib.hid hln
  clear hg0 hown2 hb2 hsz hown hown0 hh hlen hn hm hsn hln hj hq
  rcases hd with d1 | ⟨d1, d2⟩
  all_goals
    go_enter Try.func161, Try.ntmps161
    go_wp2
    go_quiet (fail)
    obtain ⟨W1, hW1⟩ : ∃ W1, W1 = (w.alloc (.cells [Value.int .i64 lo, .int .i64 hi, .int .i64 val].toArray 98)).drewN nq := ⟨_, rfl⟩
    rw [← hW1]
    have hg1 : Has W1 w.heap.size [Value.int .i64 lo, .int .i64 hi, .int .i64 val] 98 := by rw [hW1]; exact HG.out
    have e0 := hg1.cell 0 _ rfl
    have e1 := hg1.cell 1 _ rfl
    have e2 := hg1.cell 2 _ rfl
    have hown1 : W1.ownsRow B 98 3 (.slice (some ⟨b, off, none⟩) n cap) n (spCells (U ++ [(p, q, vq)])) := by rw [hW1]; exact HO.out
    have hs1 : W1.heap.size = w.heap.size + 1 := by rw [hW1]; exact HZ.out
    have hb1 : Below B w W1 := by rw [hW1]; exact HB.out.drewN _
    have hk1 : ∀ g, g < w.heap.size → W1.heap[g]? = w.heap[g]? := fun g hg => by rw [hW1]; exact ((Below.refl w.heap.size w).alloc (Nat.le_refl _) (.cells [Value.int .i64 lo, .int .i64 hi, .int .i64 val].toArray 98)).block g hg
    have HK1 := Lib.hid hk1
    clear hk1
    clear hW1 hg1
    go_wp2_with (at_builtin; refine wpList_append_newK W1 rfl (.tmp 41) (.tmp 43) 51 rfl B 98 (.agg #[.int .i64 0, .int .i64 0, .int .i64 0]) 3 24 Try.underlying51 info_span rfl (by decide) (.slice (some ⟨b, off, none⟩) n cap) n (spCells (U ++ [(p, q, vq)])) rfl hown1 [.int .i64 lo, .int .i64 hi, .int .i64 val] 1 1 (w.heap.size + 1) hs1 rfl rfl (by intro u hu; simp at hu; rcases hu with rfl | rfl | rfl <;> rfl) (by omega) (by omega) (by omega) ?_)
    intro v' w' hown' hb' hkp
    have hb3 := hb1.trans hb'
    have HKP := Lib.hid hkp
    clear hkp
    go_wp2
    go_ret
    exact ⟨⟨v', n + 1, rfl, HN.out, by rw [HS.out]; exact hown', hb3⟩, fun g hg hne => (HKP.out g (by omega) hne).trans (HK1.out g hg)⟩
set_option maxRecDepth 100000 in
set_option maxHeartbeats 1000000 in
theorem put_yes (v : Value) (U : List Sp) (l : Sp) (lo hi val : Int) (w : World) (B n m : Nat) (hm : m = U.length) (hn : n = m + 1) (hown : w.ownsRow B 98 3 v n (spCells (U ++ [l]))) (hB : B ≤ w.heap.size) (hl : n ≤ 1000000)
    (hq : -1 ≤ l.2.1 ∧ l.2.1 ≤ 1114111) (hj : joinB l (lo, hi, val) = true) :
    Calls Try.prog 161 #[v, .agg #[.int .i64 lo, .int .i64 hi, .int .i64 val]] w (PutOkK w B v (U ++ [(l.1, hi, l.2.2)])) := by
  have hh := heldS_of_owns hown
  have hlen : (U ++ [l]).length = n := by simp; omega
  obtain ⟨g, cap, rfl, hBg⟩ : ∃ g cap, v = .slice (some ⟨g, 0, none⟩) n cap ∧ B ≤ g := by
    rcases hown.2 with ⟨_, h0⟩ | ⟨g, cap, cur, rfl, hBg, _⟩
    · omega
    · exact ⟨g, cap, rfl, hBg⟩
  have hown0 := hown
  obtain ⟨p, q, vq⟩ := l
  have c1 := hown.cellAt (m * 3 + 1) (by omega)
  have c2 := hown.cellAt (m * 3 + 2) (by omega)
  have k := spCells_at (U ++ [(p, q, vq)]) m (by omega)
  rw [k.2.1, hm, getD_end, ← hm] at c1
  rw [k.2.2, hm, getD_end, ← hm] at c2
  have hgs : g < w.heap.size := (hown.lt g rfl).2
  have hfr := hown.frozenAt (m * 3 + 1)
  simp only at c1 c2 hq
  have hset : (spCells (U ++ [(p, q, vq)])).set (m * 3 + 1) (.int .i64 hi) = spCells (U ++ [(p, hi, vq)]) := by rw [hm]; exact spCells_set U (p, q, vq) hi
  have hln : n = (U ++ [(p, hi, vq)]).length := by simp; omega
  have r1 : IntKind.i64.wrap (q + 1) = q + 1 := by rw [IntKind.wrap_i64]; omega
  have w1 : IntKind.i64.wrap ((n : Int) - 1) = (m : Int) := by rw [IntKind.wrap_i64]; omega
  have w2 : (n : Int) - 1 = (m : Int) := by omega
  have m0 : (0 : Int) ≤ (m : Int) := by omega
  have m1 : (m : Int) < (n : Int) := by omega
  have g0 : decide ((0 : Int) < (n : Int)) = true := decide_eq_true (by omega)
  have g1 : decide (0 < n) = true := decide_eq_true (by omega)
  have hd : (q + 1 == lo) = true ∧ (vq == val) = true := by
    unfold joinB at hj
    simpa only [Bool.and_eq_true] using hj
  obtain ⟨d1, d2⟩ := hd
  have hg0 := (Has.new w [Value.int .i64 lo, .int .i64 hi, .int .i64 val] 98)
  have hown2 := hown0.alloc (.cells [Value.int .i64 lo, .int .i64 hi, .int .i64 val].toArray 98)
  have hb2 := (Below.refl B w).alloc hB (.cells [Value.int .i64 lo, .int .i64 hi, .int .i64 val].toArray 98)
  have HG := Lib.hid hg0
  have HO := Lib.hid hown2
  have HB := Lib.hid hb2
  have HS := Lib.hid hset
  have HN := Lib.hid hln
  clear hg0 hown2 hb2 hown hown0 hh hlen hn hm hset hln hj hq k
  go_enter Try.func161, Try.ntmps161
  go_wp2
  go_quiet (fail)
  obtain ⟨W1, hW1⟩ : ∃ W1, W1 = (w.alloc (.cells [Value.int .i64 lo, .int .i64 hi, .int .i64 val].toArray 98)).drewN nq := ⟨_, rfl⟩
  rw [← hW1]
  have hg1 : Has W1 w.heap.size [Value.int .i64 lo, .int .i64 hi, .int .i64 val] 98 := by rw [hW1]; exact HG.out
  have e1 := hg1.cell 1 _ rfl
  have hown1 : W1.ownsRow B 98 3 (.slice (some ⟨g, 0, none⟩) n cap) n (spCells (U ++ [(p, q, vq)])) := by rw [hW1]; exact HO.out
  have hb1 : Below B w W1 := by rw [hW1]; exact HB.out.drewN _
  have hk1 : ∀ g, g < w.heap.size → W1.heap[g]? = w.heap[g]? := fun g hg => by rw [hW1]; exact ((Below.refl w.heap.size w).alloc (Nat.le_refl _) (.cells [Value.int .i64 lo, .int .i64 hi, .int .i64 val].toArray 98)).block g hg
  have HK1 := Lib.hid hk1
  clear hk1
  have f1 := hown1.frozenAt (m * 3 + 1)
  have cc1 : W1.cell? ⟨g, m * 3 + 1, none⟩ = some (.int .i64 q) := by rw [hown1.cellAt (m * 3 + 1) (by omega)]; have := spCells_at (U ++ [(p, q, vq)]) m (by have := HN.out; simp at this ⊢; omega); rw [this.2.1, show (U ++ [(p, q, vq)]).getD m z3 = (p, q, vq) from by have := HN.out; simp at this; rw [show m = U.length by omega]; exact getD_end _ _]
  have hst := hown1.stored (m * 3 + 1) (.int .i64 hi)
  have HST := Lib.hid hst
  have HB1 := Lib.hid hb1
  clear hW1 hg1 hst hown1 hb1
  go_wp2
  go_ret
  exact ⟨⟨_, n, rfl, HN.out, by rw [← HS.out]; exact HST.out.1, HB1.out.trans (((But.refl g B W1).set (m * 3 + 1) (.int .i64 hi)).below (Nat.le_refl _) hBg)⟩, fun k hk hne => (heap_setCell_other W1 ⟨g, m * 3 + 1, none⟩ k (.int .i64 hi) (fun e => hne (by simp [Value.ownBlock, e]))).trans (HK1.out k hk)⟩
theorem put_any (v : Value) (T : List Sp) (s : Sp) (w : World) (B n : Nat) (hn : n = T.length) (hown : w.ownsRow B 98 3 v n (spCells T)) (hB : B ≤ w.heap.size) (hl : n ≤ 1000000)
    (hq : ∀ x ∈ T, -1 ≤ x.2.1 ∧ x.2.1 ≤ 1114111) :
    Calls Try.prog 161 #[v, .agg #[.int .i64 s.1, .int .i64 s.2.1, .int .i64 s.2.2]] w (PutOkK w B v (putS T s)) := by
  rcases sp_end T with rfl | ⟨U, l, rfl⟩
  · subst hn
    exact put_nil v s.1 s.2.1 s.2.2 w B hown hB
  · cases hj : joinB l s with
    | false =>
      rw [putS_no U l s hj]
      exact put_no v U l s.1 s.2.1 s.2.2 w B n U.length rfl (by rw [hn]; simp) hown hB hl (hq l (by simp)) hj
    | true =>
      rw [putS_yes U l s hj]
      exact put_yes v U l s.1 s.2.1 s.2.2 w B n U.length rfl (by rw [hn]; simp) hown hB hl (hq l (by simp)) hj
end Go.Proofs.Ytgoeacmpphmnoaa
