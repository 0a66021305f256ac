/- Contracts of spans: walk. -/
import Derived.Test.YtmfoldohmbaikaaSpanM
import Derived.Test.YtmfoldohmbaikaaSpanH
namespace Go.Proofs.Ytmfoldohmbaikaa
open Go.RowKit Go.ChangeShapes Go.WideShapes
def HeldN (w : World) (v : Value) (L : List Tn) : Prop :=
  ∃ ao cap, v = .slice ao L.length cap ∧ ∀ i, i < L.length → ∃ b off, ao = some ⟨b, off, none⟩ ∧ b < w.heap.size ∧ w.cell? ⟨b, off + i * 2, none⟩ = some (.int .i64 (L.getD i (0, 0)).1) ∧ w.cell? ⟨b, off + i * 2 + 1, none⟩ = some (.int .i64 (L.getD i (0, 0)).2)
theorem HeldN.below {w w' : World} {v : Value} {L : List Tn} (h : HeldN w v L) (hb : Below w.heap.size w w') : HeldN w' v L := by
  obtain ⟨ao, cap, rfl, hc⟩ := h
  refine ⟨ao, cap, rfl, fun i hi => ?_⟩
  obtain ⟨b, off, rfl, hlt, h1, h2⟩ := hc i hi
  exact ⟨b, off, rfl, by have := hb.size; omega, (hb.cell (p := ⟨b, _, none⟩) hlt).trans h1, (hb.cell (p := ⟨b, _, none⟩) hlt).trans h2⟩
theorem HeldN.spots {w : World} {ao : Option Addr} {n cap : Nat} {L : List Tn} (h : HeldN w (.slice ao n cap) L) : ∀ i, i < L.length → ∃ b off, ao = some ⟨b, off, none⟩ ∧ b < w.heap.size ∧ w.cell? ⟨b, off + i * 2, none⟩ = some (.int .i64 (L.getD i (0, 0)).1) ∧ w.cell? ⟨b, off + i * 2 + 1, none⟩ = some (.int .i64 (L.getD i (0, 0)).2) := by
  obtain ⟨ao', cap', he, hc⟩ := h
  cases he
  exact hc
theorem HeldN.len {w : World} {v : Value} {L : List Tn} (h : HeldN w v L) : ∃ ao cap, v = .slice ao L.length cap := by
  obtain ⟨ao, cap, rfl, _⟩ := h
  exact ⟨ao, cap, rfl⟩
theorem heldN_of_owns {w : World} {B e : Nat} {v : Value} {n : Nat} {L : List Tn} (h : w.ownsRow B e 2 v n (tnCells L)) : HeldN w v L := by
  have hl : L.length = n := by have := h.1; rw [tnCells_len] at this; omega
  subst hl
  rcases h.2 with ⟨rfl, hn⟩ | ⟨g, cap, cur, rfl, hb, hg, h1, h2, h3, h4⟩
  · exact ⟨none, 0, by rw [hn], fun i hi => by omega⟩
  · refine ⟨some ⟨g, 0, none⟩, cap, rfl, fun i hi => ⟨g, 0, rfl, (Array.getElem?_eq_some_iff.1 hg).1, ?_⟩⟩
    obtain ⟨k0, k1⟩ := tnCells_at L i hi
    have c0 := h.cells (g := g) rfl _ _ k0
    have c1 := h.cells (g := g) rfl _ _ k1
    rw [Addr.add_lit] at c0 c1
    simp only [Nat.zero_add] at *
    exact ⟨c0, c1⟩
def walkS (few : List Sp) (val frm : Int) : List Tn → List Sp
  | [] => few
  | t :: L => if (decide (frm < t.1) && decide (65535 < val)) = true then [] else walkS (if (decide (frm < t.1) && decide (0 < val)) = true then putS few (frm, t.1 - 1, val) else few) (val + t.2) t.1 L
theorem drop_cons {L : List Tn} {k : Nat} (h : k < L.length) : L.drop k = L.getD k (0, 0) :: L.drop (k + 1) := by
  rw [List.drop_eq_getElem_cons h]; simp [List.getD, List.getElem?_eq_getElem h]
def tnIn (t : Tn) : Prop := 0 ≤ t.1 ∧ t.1 ≤ 1114112 ∧ -65535 ≤ t.2 ∧ t.2 ≤ 65535
theorem tn_at {L : List Tn} (h : ∀ t ∈ L, tnIn t) {k : Nat} (hk : k < L.length) : tnIn (L.getD k (0, 0)) := by
  have e : L.getD k (0, 0) = L[k] := by simp [List.getD, List.getElem?_eq_getElem hk]
  rw [e]; exact h _ (List.getElem_mem hk)
set_option maxRecDepth 100000 in
set_option maxHeartbeats 2000000 in
theorem walk_any (v : Value) (L : List Tn) (w : World) (hh : HeldN w v L) (hl : L.length ≤ 999999) (hin : ∀ t ∈ L, tnIn t) : Calls Try.prog 71 #[v] w (PutOk w w.heap.size (walkS [] 0 0 L)) := by
  obtain ⟨ao, cap, rfl⟩ := hh.len
  have HH := Lib.hid hh
  have HI := Lib.hid hin
  clear hh hin
  go_enter Try.func71, Try.ntmps71
  go_wp2
  go_loopw [3, 4, 5, 10] (fun few vv ff i wr => ∃ (k n : Nat) (F : List Sp) (val frm : Int), k ≤ L.length ∧ i = .int .i64 k ∧ vv = .int .i64 val ∧ ff = .int .i64 frm ∧ Go.RowKit.Hid (n = F.length) ∧ n ≤ k ∧ wr.ownsRow w.heap.size 61 3 few n (spCells F) ∧
    Go.RowKit.Hid (walkS [] 0 0 L = walkS F val frm (L.drop k)) ∧ -65535 * (k : Int) ≤ val ∧ val ≤ 65535 * (k : Int) ∧ 0 ≤ frm ∧ frm ≤ 1114112 ∧ Go.RowKit.Hid (∀ x ∈ F, -1 ≤ x.2.1 ∧ x.2.1 ≤ 1114111) ∧ Below w.heap.size w wr) (fun _ _ _ i _ => L.length - (intOf i).toNat)
  case atStart => exact ⟨0, 0, [], 0, 0, Nat.zero_le _, rfl, rfl, rfl, Lib.hid rfl, Nat.le_refl _, World.ownsRow_nil _ _ _ _, Lib.hid rfl, by omega, by omega, by omega, by omega, Lib.hid (by simp), Below.refl _ _⟩
  case round =>
    obtain ⟨k, n, F, val, frm, hk, rfl, rfl, rfl, HN, hnk, hown, HW, hv1, hv2, hf1, hf2, HFH, hbw⟩ := hrel
    by_cases hlt : k < L.length
    · obtain ⟨b, off, rfl, hb, c0, c1⟩ := (HH.out.below hbw).spots k hlt
      have hti := tn_at HI.out hlt
      have hdr := drop_cons hlt
      obtain ⟨t, ht⟩ : ∃ t, t = L.getD k (0, 0) := ⟨_, rfl⟩
      rw [← ht] at c0 c1 hti hdr
      obtain ⟨at', by'⟩ := t
      obtain ⟨t1, t2, t3, t4⟩ := hti
      simp only at c0 c1 t1 t2 t3 t4
      have hw := HW.out
      rw [hdr] at hw
      simp only [walkS] at hw
      have hb2 := hbw.alloc hbw.size (.cells #[.int .i64 at', .int .i64 by'] 98)
      have hown2 := hown.alloc (.cells #[.int .i64 at', .int .i64 by'] 98)
      have r1 : IntKind.i64.wrap (val + by') = val + by' := by rw [IntKind.wrap_i64]; omega
      have r2 : IntKind.i64.wrap (at' - 1) = at' - 1 := by rw [IntKind.wrap_i64]; omega
      have v1 : -65535 * ((k + 1 : Nat) : Int) ≤ val + by' := by omega
      have v2 : val + by' ≤ 65535 * ((k + 1 : Nat) : Int) := by omega
      have V1 := Lib.hid v1
      have V2 := Lib.hid v2
      have T1 := Lib.hid t1
      have T2 := Lib.hid t2
      have HB2 := Lib.hid hb2
      have HOW := Lib.hid hown2
      have HSZ := Lib.hid hb2.size
      have HNB : Go.RowKit.Hid (u3.ownBlock ≠ some wr.heap.size) := Lib.hid fun e => by have := (hown.lt _ e).2; omega
      clear v1 v2 HW hdr ht hown2 hb2 hown hbw
      cases d1 : decide (frm < at') with
      | false =>
        rw [d1] at hw
        simp only [Bool.false_and, Bool.false_eq_true, if_false] at hw
        have HW := Lib.hid hw
        clear hw hv1 hv2 hf1 hf2 t1 t2 t3 t4
        go_wp2
        go_roundw
        case rel => exact ⟨k + 1, n, F, val + by', at', by omega, by go_num, by first | rfl | rw [r1], rfl, HN, by omega, HOW.out, HW, V1.out, V2.out, T1.out, T2.out, HFH, HB2.out⟩
        case measure => simp [intOf] <;> omega
      | true =>
        cases d2 : decide (65535 < val) with
        | true =>
          rw [d1, d2] at hw
          simp only [Bool.true_and, if_true] at hw
          have HW := Lib.hid hw
          clear hw hv1 hv2 hf1 hf2 t1 t2 t3 t4
          go_wp2
          go_ret
          rw [HW.out]
          exact ⟨_, 0, rfl, rfl, World.ownsRow_nil _ _ _ _, HB2.out⟩
        | false =>
          cases d3 : decide (0 < val) with
          | false =>
            rw [d1, d2, d3] at hw
            simp only [Bool.true_and, Bool.false_eq_true, if_false] at hw
            have HW := Lib.hid hw
            clear hw hv1 hv2 hf1 hf2 t1 t2 t3 t4
            go_wp2
            go_roundw
            case rel => exact ⟨k + 1, n, F, val + by', at', by omega, by go_num, by first | rfl | rw [r1], rfl, HN, by omega, HOW.out, HW, V1.out, V2.out, T1.out, T2.out, HFH, HB2.out⟩
            case measure => simp [intOf] <;> omega
          | true =>
            rw [d1, d2, d3] at hw
            simp only [Bool.true_and, Bool.false_eq_true, if_false, if_true] at hw
            have hfh : ∀ x ∈ putS F (frm, at' - 1, val), -1 ≤ x.2.1 ∧ x.2.1 ≤ 1114111 := fun x hx => by
              rcases putS_mem hx with h1 | h1
              · exact HFH.out x h1
              · rw [h1]; simp only; omega
            have hpl := putS_len F (frm, at' - 1, val)
            have HFH2 := Lib.hid hfh
            have HPL := Lib.hid hpl
            have HW := Lib.hid hw
            have HP := Lib.hid (put_any _ F (frm, at' - 1, val) _ w.heap.size n HN.out HOW.out HSZ.out (by omega) HFH.out)
            clear hw hv1 hv2 hf1 hf2 t1 t2 t3 t4 hfh hpl
            go_wp2_with (go_at_call 67; refine HP.out.mono ?_; rintro e w2 ⟨⟨v', n', rfl, hn', hown', hb'⟩, hkp⟩; have q1 : Has w2 wr.heap.size [Value.int .i64 at', .int .i64 by'] 98 := (hkp _ (by simp) HNB.out).trans (Has.new wr [Value.int .i64 at', .int .i64 by'] 98); have e0 := q1.cell 0 _ rfl; have e1 := q1.cell 1 _ rfl; clear hkp q1)
            have HN' := Lib.hid hn'
            have hn2 : n' ≤ k + 1 := by have := HPL.out; have := HN.out; rw [HN'.out]; omega
            have HOW' := Lib.hid hown'
            clear hn' hown'
            go_wp2
            go_roundw
            case rel => exact ⟨k + 1, n', _, val + by', at', by omega, by go_num, by first | rfl | rw [r1], rfl, HN', hn2, HOW'.out, HW, V1.out, V2.out, T1.out, T2.out, HFH2, HB2.out.trans hb'⟩
            case measure => simp [intOf] <;> omega
    · obtain rfl : k = L.length := by omega
      have hw := HW.out
      rw [List.drop_length] at hw
      simp only [walkS] at hw
      have HW := Lib.hid hw
      clear hw
      go_wp2
      go_ret
      rw [HW.out]
      exact ⟨_, n, rfl, HN.out, hown, hbw⟩
end Go.Proofs.Ytmfoldohmbaikaa
