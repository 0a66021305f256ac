/- Texts put together: SegB, GraC. -/
import Derived.Test.YtkpmmkokfllafaaGreatSegJ
import Derived.Test.YtkpmmkokfllafaaGreatSegE
import Derived.Test.YtkpmmkokfllafaaGreatMg4
import Derived.Test.YtkpmmkokfllafaaGreatMg1
/- A state behind the first so many of a row of properties. -/
namespace Go.Proofs.YtkpmmkokfllafaaGreat
open Go.RowKit Go.ChangeShapes Go.WideShapes
/-- The state in block g is that behind the first k. -/
def At (w : World) (g : Nat) (xs : List Pr) (k : Nat) : Prop := SegAt w g (decide (0 < k)) (lSt xs k) (cSt xs k) (pSt xs k) (oSt xs k)
theorem st_bd (xs : List Pr) (k : Nat) : 0 ≤ cSt xs k ∧ cSt xs k ≤ 255 ∧ 0 ≤ pSt xs k ∧ pSt xs k ≤ 255 := by
  have h1 := cSt_bd xs k
  have h2 := pSt_bd xs k
  omega
def AtNext (w : World) (g : Nat) (xs : List Pr) (k : Nat) (e : Ending) (w' : World) : Prop := e = .returned (.bool (jR xs k)) ∧ At w' g xs (k + 1) ∧ But g w.heap.size w w'
theorem step_at (w : World) (g : Nat) (xs : List Pr) (k : Nat) (h : At w g xs k) : Calls Tryz.prog 29 #[.pointer (some ⟨g, 0, none⟩), .agg #[.int .i64 (xs.getD k Pr.none).br, .bool (xs.getD k Pr.none).pc, .int .i64 (xs.getD k Pr.none).cv, .int .i64 (xs.getD k Pr.none).ea]] w (AtNext w g xs k) := by
  obtain ⟨c0, c1, p0, p1⟩ := st_bd xs k
  refine (step_any g _ _ _ _ _ _ _ _ _ w h c0 c1 p0 p1).mono ?_
  rintro e w' ⟨rfl, hs, hb⟩
  refine ⟨by rw [jR_st], ?_, hb⟩
  unfold At
  rw [decide_eq_true (show 0 < k + 1 by omega)]
  exact hs
end Go.Proofs.YtkpmmkokfllafaaGreat
/- Where clusters begin: grapheme.Starts; the reference's Props and Starts. -/
namespace Go.Proofs.YtkpmmkokfllafaaGreat
open Go.RowKit Go.ChangeShapes Go.WideShapes
def toI (l : List Nat) : List Int := l.map fun (k : Nat) => (k : Int)
theorem toI_len (l : List Nat) : (toI l).length = l.length := by simp [toI]
theorem toI_at {l : List Nat} {i : Nat} (h : i < l.length) : (toI l).getD i 0 = (l[i] : Nat) := by
  simp [List.getD, toI, List.getElem?_eq_getElem h]
def bounds32 (xs : List Int) : Prop := ∀ i, i < xs.length → -2147483648 ≤ xs.getD i 0 ∧ xs.getD i 0 ≤ 2147483647
def GivesOwn (w : World) (e : TypeId) (l : List Int) (en : Ending) (w' : World) : Prop := ∃ v n, en = .returned v ∧ w'.ownsRow w.heap.size e 1 v n (l.map (Value.int .i64)) ∧ Below w.heap.size w w'
theorem info_int : (Tryz.prog.info? 3).map (fun i => (i.zero, i.size, i.bytes)) = some (some (.int .i64 0), 1, 8) := by kernel_rfl
theorem toI_snoc (l : List Nat) (k : Nat) : (toI (l ++ [k])).map (Value.int .i64) = (toI l).map (Value.int .i64) ++ [.int .i64 (k : Int)] := by simp [toI]
theorem owns_mono {w : World} {B B' e size : Nat} {v : Value} {n : Nat} {xs : List Value} (h : w.ownsRow B e size v n xs) (hb : B' ≤ B) : w.ownsRow B' e size v n xs := by
  refine ⟨h.1, ?_⟩
  rcases h.2 with hn | ⟨g, cap, cur, rfl, hB, rest⟩
  · exact .inl hn
  · exact .inr ⟨g, cap, cur, rfl, Nat.le_trans hb hB, rest⟩
theorem known_agg (r : Int) : knownV r = .agg #[.int .i64 (knownPr r).br, .bool (knownPr r).pc, .int .i64 (knownPr r).cv, .int .i64 (knownPr r).ea] := rfl
set_option maxRecDepth 100000 in
set_option maxHeartbeats 1000000 in
theorem rprops_any (v : Value) (xs : List Int) (w : World) (hx : Held .i32 w v xs) (hn : xs.length ≤ 1000000) (hr : bounds32 xs) :
    Calls Tryz.prog 70 #[v] w fun e w' => ∃ v', e = .returned v' ∧ HeldP w' v' (knownL xs) ∧ Below w.heap.size w w' := by
  obtain ⟨ao, ca, rfl, hc⟩ := hx.view
  have HC := Lib.hid hc
  have HR := Lib.hid hr
  clear hc hx hr
  go_enter Tryz.func70, Tryz.ntmps70
  go_wp2
  go_loopw [3, 4] (fun p i wr => ∃ k : Nat, k ≤ xs.length ∧ i = .int .i64 k ∧ wr.ownsRow w.heap.size 62 4 p k (prsCells ((knownL xs).take k)) ∧ Below w.heap.size w wr) (fun _ i _ => xs.length - (intOf i).toNat)
  case atStart => exact ⟨0, Nat.zero_le _, rfl, World.ownsRow_nil _ _ _ _, Below.refl _ _⟩
  case round =>
    obtain ⟨k, hk, rfl, hown, hbw⟩ := hrel
    by_cases hlt : k < xs.length
    · obtain ⟨b, off, rfl, hb, hcx⟩ := HC.out k hlt
      have hcx := (hbw.cell (p := ⟨b, off + k, none⟩) hb).trans hcx
      obtain ⟨r0, r1⟩ := HR.out k hlt
      have hsn := prs_snoc (knownL xs) k (by rw [knownL_len]; exact hlt)
      rw [knownL_at hlt] at hsn
      obtain ⟨r, hr⟩ : ∃ r, r = xs.getD k 0 := ⟨_, rfl⟩
      rw [← hr] at hcx r0 r1 hsn
      have HSN := Lib.hid hsn
      have HOW := Lib.hid hown
      clear hr hsn hown
      go_wp2_with fail
      refine (rucdof_any r _ r0 r1).mono ?_
      rintro e w1 ⟨rfl, b1⟩
      have hown1 := ownsRow_below HOW.out b1
      have hb1 := hbw.trans (b1.mono hbw.size)
      rw [show knownV r = .agg #[.int .i64 (gcbI r), .bool (inTab tPict r), .int .i64 (conjO r), .int .i64 (eastI r)] from rfl]
      clear hcx
      go_wp2_with (at_builtin; refine wpList_append_newS w1 rfl (.tmp 11) (.tmp 17) 110 rfl w.heap.size 62 (.agg #[.int .i64 0, .bool false, .int .i64 0, .int .i64 0]) 4 32 Tryz.underlying110 info_prop rfl (by decide) u3 k (prsCells ((knownL xs).take k)) rfl hown1 [.int .i64 (gcbI r), .bool (inTab tPict r), .int .i64 (conjO r), .int .i64 (eastI r)] 1 1 rfl rfl (by intro u hu; simp at hu; rcases hu with rfl | rfl | rfl | rfl <;> rfl) (by omega) (by omega) hb1.size ?_)
      intro v' w' hown' hb'
      have hown2 : w'.ownsRow w.heap.size 62 4 v' (k + 1) (prsCells ((knownL xs).take (k + 1))) := by rw [HSN.out]; exact hown'
      have hbw2 := hb1.trans hb'
      clear hown1 hown'
      go_wp2
      go_roundw
      case rel => exact ⟨k + 1, by omega, by go_num, hown2, hbw2⟩
      case measure => simp [intOf] <;> omega
    · obtain rfl : k = xs.length := by omega
      rw [List.take_of_length_le (by rw [knownL_len]; exact Nat.le_refl _)] at hown
      have HP := Lib.hid (heldP_of_owns hown)
      clear hown
      go_wp2
      go_ret
      exact ⟨_, rfl, HP.out, hbw⟩
set_option maxRecDepth 100000 in
set_option maxHeartbeats 1000000 in
theorem rstarts_any (v : Value) (xs : List Int) (w : World) (hx : Held .i32 w v xs) (hn : xs.length ≤ 1000000) (hr : bounds32 xs) :
    Calls Tryz.prog 52 #[v] w (GivesOwn w 3 (toI (startB (jR (knownL xs)) xs.length))) := by
  obtain ⟨ao, ca, rfl, _⟩ := hx.view
  have HX := Lib.hid hx
  have HR := Lib.hid hr
  clear hx hr
  go_enter Tryz.func52, Tryz.ntmps52
  go_wp2_with fail
  refine (rprops_any _ xs _ HX.out hn HR.out).mono ?_
  rintro e w1 ⟨v1, rfl, hp1, b1⟩
  obtain ⟨po, pcap, rfl, _⟩ := id hp1
  have HP1 := Lib.hid hp1
  clear hp1
  rw [knownL_len]
  go_wp2
  go_loopw [3, 5] (fun p i wr => ∃ k : Nat, k ≤ xs.length ∧ i = .int .i64 k ∧ wr.ownsRow w1.heap.size 3 1 p (startB (jR (knownL xs)) k).length ((toI (startB (jR (knownL xs)) k)).map (Value.int .i64)) ∧ Below w1.heap.size w1 wr) (fun _ i _ => xs.length - (intOf i).toNat)
  case atStart => exact ⟨0, Nat.zero_le _, rfl, World.ownsRow_nil _ _ _ _, Below.refl _ _⟩
  case round =>
    obtain ⟨k, hk, rfl, hown, hbw⟩ := hrel
    by_cases hlt : k < xs.length
    · have hj := rjoins_any _ (knownL xs) k wr (HP1.out.below hbw) (by rw [knownL_len]; exact hlt) (by rw [knownL_len]; exact hn)
      rw [knownL_len] at hj
      have HJ := Lib.hid hj
      have HOW := Lib.hid hown
      have hsl := startB_len (jR (knownL xs)) k
      have hsu := startB_succ (jR (knownL xs)) k
      clear hj hown
      go_wp2_with fail
      refine HJ.out.mono ?_
      rintro e w2 ⟨rfl, b2⟩
      have hown2 := ownsRow_below HOW.out b2
      have hb2 := hbw.trans (b2.mono hbw.size)
      cases hj : jR (knownL xs) k with
      | true =>
        rw [hj] at hsu
        simp only [if_true, List.append_nil] at hsu
        rw [← hsu] at hown2
        have HOW2 := Lib.hid hown2
        clear hown2 hj hsu
        go_wp2
        go_roundw
        case rel => exact ⟨k + 1, by omega, by go_num, HOW2.out, hb2⟩
        case measure => simp [intOf] <;> omega
      | false =>
        rw [hj] at hsu
        simp only [Bool.false_eq_true, if_false] at hsu
        have HSU := Lib.hid hsu
        have hlen : (startB (jR (knownL xs)) (k + 1)).length = (startB (jR (knownL xs)) k).length + 1 := by rw [hsu]; simp
        have HL := Lib.hid hlen
        clear hj hsu hlen
        go_wp2_with (at_builtin; refine wpList_append_new w2 rfl (.tmp 18) (.tmp 20) 26 rfl w1.heap.size 3 (.int .i64 0) 8 Tryz.underlying26 info_int rfl u3 (startB (jR (knownL xs)) k).length ((toI (startB (jR (knownL xs)) k)).map (Value.int .i64)) rfl hown2 [.int .i64 (k : Int)] 1 1 rfl rfl (by intro u hu; simp at hu; rcases hu with rfl <;> rfl) (by omega) (by omega) hb2.size ?_)
        intro v' w' hown' hb'
        have hown3 : w'.ownsRow w1.heap.size 3 1 v' (startB (jR (knownL xs)) (k + 1)).length ((toI (startB (jR (knownL xs)) (k + 1))).map (Value.int .i64)) := by rw [HL.out, HSU.out, toI_snoc]; exact hown'
        have hb3 := hb2.trans hb'
        clear hown2 hown'
        go_wp2
        go_roundw
        case rel => exact ⟨k + 1, by omega, by go_num, hown3, hb3⟩
        case measure => simp [intOf] <;> omega
    · obtain rfl : k = xs.length := by omega
      have HO := Lib.hid (owns_mono hown b1.size)
      have hfin := b1.trans (hbw.mono b1.size)
      clear hown
      go_wp2
      go_ret
      exact ⟨_, _, rfl, HO.out, hfin⟩
end Go.Proofs.YtkpmmkokfllafaaGreat
