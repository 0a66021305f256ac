/- Contracts of utfall: Runes, Valid. -/
import Derived.Test.YtgoeacmpphmnoaaUallG
namespace Go.Proofs.Ytgoeacmpphmnoaa
open Go.RowKit Go.ChangeShapes Go.WideShapes
def valsN (xs : List Int) (k : Nat) : List Int := (partsN xs k).map (·.1)
theorem vals_snoc (xs : List Int) (k : Nat) : valsN xs (k + 1) = valsN xs k ++ [(partG xs (posN xs k)).1] := by
  unfold valsN
  rw [show partsN xs (k + 1) = partsN xs k ++ [partG xs (posN xs k)] from rfl, List.map_append]
  rfl
theorem Try.info21u : (Try.prog.info? 21).map (fun i => (i.zero, i.size, i.bytes)) = some (some (.int .i32 0), 1, 4) := by kernel_rfl
def RunesOk (w : World) (xs : List Int) (e : Ending) (w' : World) : Prop := ∃ k v', e = .returned v' ∧ posN xs k = xs.length ∧ w'.ownsRow w.heap.size 21 1 v' k ((valsN xs k).map (Value.int .i32)) ∧ Below w.heap.size w w'
set_option maxRecDepth 100000 in
set_option maxHeartbeats 1000000 in
theorem urunes_any (v : Value) (xs : List Int) (w : World) (hv : Held .u8 w v xs) (hcp : CapOk v) (hm : xs.length ≤ 1000000) (hr : ∀ i, i < xs.length → 0 ≤ xs.getD i 0 ∧ xs.getD i 0 ≤ 255) :
    Calls Try.prog 18 #[v] w (RunesOk w xs) := by
  obtain ⟨ao, cap, rfl, _⟩ := id hv.view
  have HV := Lib.hid hv
  have HC := Lib.hid hcp
  have HR := Lib.hid hr
  clear hv hcp hr
  go_enter Try.func18, Try.ntmps18
  go_wp2
  go_loopw [3, 4] (fun l p wr => ∃ k q : Nat, posN xs k = q ∧ k ≤ q ∧ q ≤ xs.length ∧ p = .int .i64 q ∧ wr.ownsRow w.heap.size 21 1 l k ((valsN xs k).map (Value.int .i32)) ∧ Below w.heap.size w wr) (fun _ p _ => xs.length - (intOf p).toNat)
  case atStart => exact ⟨0, 0, rfl, Nat.zero_le _, Nat.zero_le _, rfl, World.ownsRow_nil _ _ _ _, Below.refl _ _⟩
  case round =>
    obtain ⟨k, q, hq, hkq, hql, rfl, hown, hbw⟩ := hrel
    by_cases hlt : q < xs.length
    · have hsn := vals_snoc xs k
      have hps : posN xs (k + 1) = q + lenG xs q := by show posN xs k + _ = _; rw [hq]
      have hgl := partG_len xs q
      have hle := lenG_le xs q hlt
      have hpo := lenG_pos xs q
      rw [hq] at hsn
      have HSN := Lib.hid hsn
      have HPS := Lib.hid hps
      have HOW := Lib.hid hown
      clear hsn hps hown hq
      go_wp2_with fail
      refine (part_any _ xs q _ (HV.out.below hbw) HC.out hlt (by omega) HR.out).mono ?_
      rintro e w1 ⟨rfl, b1⟩
      obtain ⟨G, hG⟩ : ∃ G, G = partG xs q := ⟨_, rfl⟩
      rw [← hG] at HSN hgl ⊢
      obtain ⟨n, hn⟩ : ∃ n, n = lenG xs q := ⟨_, rfl⟩
      rw [← hn] at HPS hgl hle hpo
      clear hG hn
      obtain ⟨r, a, l, kn, bd⟩ := G
      have hgl : l = n := hgl
      subst hgl
      rw [show gotV (r, a, (n : Int), kn, bd) = .agg #[.int .i32 r, .int .i64 a, .int .i64 n, .int .i64 kn, .bool bd] from rfl]
      have hown1 := ownsRow_below HOW.out b1
      have hb1 := hbw.trans (b1.mono hbw.size)
      clear b1
      have hg0 := (Has.new w1 [Value.int .i32 r, .int .i64 a, .int .i64 n, .int .i64 kn, .bool bd] 32)
      have hown2 := hown1.alloc (.cells [Value.int .i32 r, .int .i64 a, .int .i64 n, .int .i64 kn, .bool bd].toArray 32)
      have hnb : u3.ownBlock ≠ some w1.heap.size := fun e => by have := (hown1.lt _ e).2; omega
      have hb2 := hb1.alloc hb1.size (.cells [Value.int .i32 r, .int .i64 a, .int .i64 n, .int .i64 kn, .bool bd].toArray 32)
      have hsz : (w1.alloc (.cells [Value.int .i32 r, .int .i64 a, .int .i64 n, .int .i64 kn, .bool bd].toArray 32)).heap.size = w1.heap.size + 1 := by simp
      clear hown1
      go_wp2_with (at_builtin; refine wpList_append_newK (w1.alloc (.cells [Value.int .i32 r, .int .i64 a, .int .i64 n, .int .i64 kn, .bool bd].toArray 32)) rfl (.tmp 13) (.tmp 16) 29 rfl w.heap.size 21 (.int .i32 0) 1 4 Try.underlying29 Try.info21u rfl (by decide) u3 k ((valsN xs k).map (Value.int .i32)) rfl hown2 [.int .i32 r] 1 1 (w1.heap.size + 1) hsz rfl rfl (by intro u hu; simp at hu; rcases hu with rfl <;> rfl) (by omega) (by omega) hb2.size ?_)
      intro v' w' hown' hb' hkp
      have hg2 : Has w' w1.heap.size [Value.int .i32 r, .int .i64 a, .int .i64 n, .int .i64 kn, .bool bd] 32 := (hkp _ (by simp) hnb).trans hg0
      have c2 := hg2.cell 2 _ rfl
      have hown3 : w'.ownsRow w.heap.size 21 1 v' (k + 1) ((valsN xs (k + 1)).map (Value.int .i32)) := by rw [HSN.out, List.map_append]; exact hown'
      have hb3 := hb2.trans hb'
      clear hown' hown2 hb' hb2 hb1 hkp hg0 hg2 hsz hnb HSN
      go_wp2
      go_roundw
      case rel => exact ⟨k + 1, q + n, HPS.out, by omega, by omega, by go_num, hown3, hb3⟩
      case measure => simp [intOf] <;> omega
    · have hqe : q = xs.length := by omega
      subst hqe
      go_wp2
      go_ret
      exact ⟨k, _, rfl, hq, hown, hbw⟩
def anyBad (xs : List Int) (k : Nat) : Bool := (partsN xs k).any (·.2.2.2.2)
theorem anyBad_snoc (xs : List Int) (k : Nat) : anyBad xs (k + 1) = (anyBad xs k || (partG xs (posN xs k)).2.2.2.2) := by
  unfold anyBad
  rw [show partsN xs (k + 1) = partsN xs k ++ [partG xs (posN xs k)] from rfl, List.any_append]
  simp
theorem anyBad_of (xs : List Int) {j k : Nat} (h : j < k) (hb : (partG xs (posN xs j)).2.2.2.2 = true) : anyBad xs k = true := by
  unfold anyBad
  rw [List.any_eq_true]
  exact ⟨_, List.mem_of_getElem? (partsN_at xs k j h), hb⟩
set_option maxRecDepth 100000 in
set_option maxHeartbeats 1000000 in
theorem uvalid_any (v : Value) (xs : List Int) (K : Nat) (hK : posN xs K = xs.length) (w : World) (hv : Held .u8 w v xs) (hcp : CapOk v) (hm : xs.length ≤ 1000000) (hr : ∀ i, i < xs.length → 0 ≤ xs.getD i 0 ∧ xs.getD i 0 ≤ 255) :
    Calls Try.prog 21 #[v] w (Gives w (.bool (!anyBad xs K))) := by
  obtain ⟨ao, cap, rfl, _⟩ := id hv.view
  have HV := Lib.hid hv
  have HC := Lib.hid hcp
  have HR := Lib.hid hr
  have HK := Lib.hid hK
  clear hv hcp hr hK
  go_enter Try.func21, Try.ntmps21
  go_wp2
  go_loopw [3] (fun p wr => ∃ k q : Nat, posN xs k = q ∧ q ≤ xs.length ∧ p = .int .i64 q ∧ Go.RowKit.Hid (anyBad xs k = false) ∧ Below w.heap.size w wr) (fun p _ => xs.length - (intOf p).toNat)
  case atStart => exact ⟨0, 0, rfl, Nat.zero_le _, rfl, Lib.hid rfl, Below.refl _ _⟩
  case round =>
    obtain ⟨k, q, hq, hql, rfl, HNB, hbw⟩ := hrel
    by_cases hlt : q < xs.length
    · have hsn := anyBad_snoc xs k
      have hps : posN xs (k + 1) = q + lenG xs q := by show posN xs k + _ = _; rw [hq]
      have hkK : k < K := by
        rcases Nat.lt_or_ge k K with h | h
        · exact h
        · exfalso
          rcases Nat.lt_or_ge K k with h2 | h2
          · have := posN_lt xs h2; have := HK.out; omega
          · have : k = K := by omega
            subst this; have := HK.out; omega
      have hof := fun h => anyBad_of xs hkK h
      have hgl := partG_len xs q
      have hle := lenG_le xs q hlt
      have hpo := lenG_pos xs q
      rw [hq] at hsn hof
      rw [HNB.out] at hsn
      have HSN := Lib.hid hsn
      have HOF := Lib.hid hof
      have HPS := Lib.hid hps
      clear hsn hps hq hof HNB
      go_wp2_with fail
      refine (part_any _ xs q _ (HV.out.below hbw) HC.out hlt (by omega) HR.out).mono ?_
      rintro e w1 ⟨rfl, b1⟩
      obtain ⟨G, hG⟩ : ∃ G, G = partG xs q := ⟨_, rfl⟩
      rw [← hG] at HSN HOF hgl ⊢
      obtain ⟨n, hn⟩ : ∃ n, n = lenG xs q := ⟨_, rfl⟩
      rw [← hn] at HPS hgl hle hpo
      clear hG hn
      obtain ⟨r, a, l, kn, bd⟩ := G
      have hgl : l = n := hgl
      subst hgl
      rw [show gotV (r, a, (n : Int), kn, bd) = .agg #[.int .i32 r, .int .i64 a, .int .i64 n, .int .i64 kn, .bool bd] from rfl]
      have hb1 := hbw.trans (b1.mono hbw.size)
      have hb2 := hb1.alloc hb1.size (.cells [Value.int .i32 r, .int .i64 a, .int .i64 n, .int .i64 kn, .bool bd].toArray 32)
      clear b1 hb1
      cases bd with
      | true =>
        have hF : (!anyBad xs K) = false := by rw [HOF.out rfl]; rfl
        have HF := Lib.hid hF
        clear hF HSN HOF
        go_wp2
        go_ret
        exact ⟨ret_eq (by rw [HF.out]; try rfl), hb2⟩
      | false =>
        have hN : anyBad xs (k + 1) = false := HSN.out
        have HN := Lib.hid hN
        clear hN HSN HOF
        go_wp2
        go_roundw
        case rel => exact ⟨k + 1, q + n, HPS.out, by omega, by go_num, HN, hb2⟩
        case measure => simp [intOf] <;> omega
    · have hqe : q = xs.length := by omega
      subst hqe
      have hkK : k = K := posN_one xs (hq.trans HK.out.symm)
      subst hkK
      have hF : (!anyBad xs k) = true := by rw [HNB.out]; rfl
      have HF := Lib.hid hF
      clear hF hq
      go_wp2
      go_ret
      exact ⟨ret_eq (by rw [HF.out]; try rfl), hbw⟩
end Go.Proofs.Ytgoeacmpphmnoaa
