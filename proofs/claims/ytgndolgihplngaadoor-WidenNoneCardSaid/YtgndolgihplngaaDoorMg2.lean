/- Texts put together: CellR, CellS, CursorD, ErfA, ErfB, ErfL, ErfS, RowR, TabF, TabG, TabH, TabM, UcdK. -/
import Derived.Test.YtgndolgihplngaaDoorCellB
import Derived.Test.YtgndolgihplngaaDoorMg1
import Derived.Test.YtgndolgihplngaaDoorCursorC
import Derived.Test.YtgndolgihplngaaDoorErfC
import Derived.Test.YtgndolgihplngaaDoorRows
import Derived.LaidMore
import Derived.Test.YtgndolgihplngaaDoorErrS
import Derived.Deep.Cut
import Derived.Deep.CutRange
import Derived.Test.YtgndolgihplngaaDoorTabE
import Derived.Test.YtgndolgihplngaaDoorHgR
import Derived.Laws.StructEq
/- The reference's Right, Kind. -/
namespace Go.Proofs.YtgndolgihplngaaDoor
open Go.RowKit Go.ChangeShapes Go.WideShapes
end Go.Proofs.YtgndolgihplngaaDoor
/- The reference's Sound. -/
namespace Go.Proofs.YtgndolgihplngaaDoor
open Go.RowKit Go.ChangeShapes Go.WideShapes
end Go.Proofs.YtgndolgihplngaaDoor
/- Contracts of cursor.Right, Move, After and of the reference's. -/
namespace Go.Proofs.YtgndolgihplngaaDoor
open Go.RowKit Go.ChangeShapes Go.WideShapes
end Go.Proofs.YtgndolgihplngaaDoor
/- errors.As at a target of type **api.Fault, and api.At, api.Within: by Go's own text of errors.As, walked (after the worked toy 'toyas'). -/
namespace Go.Proofs.YtgndolgihplngaaDoor.F
open Go.RowKit Go.Extern.Stop Go.Stop Go.Extern

end Go.Proofs.YtgndolgihplngaaDoor.F
/- api.At and api.Within: the places of an error's faults. -/
namespace Go.Proofs.YtgndolgihplngaaDoor.F
open Go.RowKit

end Go.Proofs.YtgndolgihplngaaDoor.F
/- From what a row lists to where it lies. -/
namespace Go.Proofs.YtgndolgihplngaaDoor.F
open Go.RowKit Go.ChangeShapes

end Go.Proofs.YtgndolgihplngaaDoor.F
/- The eight errors' places, as the texts of faults (F) and those without them say it. -/
namespace Go.Proofs.YtgndolgihplngaaDoor
open Go.RowKit Go.ChangeShapes Go.WideShapes
end Go.Proofs.YtgndolgihplngaaDoor
/- The reference's Paint, Wrong. -/
namespace Go.Proofs.YtgndolgihplngaaDoor
open Go.RowKit Go.ChangeShapes Go.WideShapes
end Go.Proofs.YtgndolgihplngaaDoor
/- Contracts of the tables' readers: pict.Is, the class of a number, what it is in a conjunct and in the east; the reference's In. -/
namespace Go.Proofs.YtgndolgihplngaaDoor
open Go.RowKit Go.ChangeShapes Go.WideShapes
set_option maxRecDepth 100000 in
theorem in_any (v : Value) (T : List (Int × Int)) (r : Int) (w : World) (hh : HeldT .i64 w v T) (hl : T.length ≤ 1000000) (r0 : -2147483648 ≤ r) (r1 : r ≤ 2147483647) :
    Calls Tryd.prog 135 #[v, .int .i32 r] w (Gives w (.bool (inTab T r))) := by
  obtain ⟨ao, cap, rfl, hc⟩ := hh.view
  have HC := Lib.hid hc
  clear hc hh
  go_enter Tryd.func135, Tryd.ntmps135
  go_wp2
  go_loopw [5] (fun i wr => ∃ k : Nat, k ≤ T.length ∧ i = .int .i64 k ∧ Go.RowKit.Hid (∀ j (hj : j < T.length), j < k → ¬ (T[j].1 ≤ r ∧ r ≤ T[j].2)) ∧ Below w.heap.size w wr) (fun i _ => T.length - (intOf i).toNat)
  case atStart => exact ⟨0, Nat.zero_le _, rfl, Lib.hid (fun j _ hj => by omega), Below.refl _ _⟩
  case round =>
    obtain ⟨k, hk, rfl, HN, hbw⟩ := hrel
    by_cases hlt : k < T.length
    · obtain ⟨b, off, rfl, hb, h1, h2⟩ := HC.out k hlt
      have h1 := (hbw.cell (p := ⟨b, off + k * 2, none⟩) hb).trans h1
      have h2 := (hbw.cell (p := ⟨b, off + k * 2 + 1, none⟩) hb).trans h2
      rw [getD_tab hlt] at h1 h2
      by_cases h3 : T[k].1 ≤ r
      · have d1 : decide (T[k].1 ≤ r) = true := decide_eq_true h3
        by_cases h4 : r ≤ T[k].2
        · have d2 : decide (r ≤ T[k].2) = true := decide_eq_true h4
          have HE := Lib.hid (inTab_of k hlt h3 h4)
          generalize T[k].1 = x at *
          generalize T[k].2 = y at *
          clear HN
          go_wp2
          go_ret
          exact ⟨ret_eq (by rw [HE.out]; rfl), hbw⟩
        · have d2 : decide (r ≤ T[k].2) = false := decide_eq_false h4
          have HN2 := Lib.hid (show ∀ j (hj : j < T.length), j < k + 1 → ¬ (T[j].1 ≤ r ∧ r ≤ T[j].2) from fun j hj hjk => by
            by_cases h : j = k
            · subst h; omega
            · exact HN.out j hj (by omega))
          generalize T[k].1 = x at h1 h3 d1
          generalize T[k].2 = y at h2 h4 d2
          go_wp2
          go_roundw
          case rel => exact ⟨k + 1, by omega, by go_num, HN2, hbw⟩
          case measure => simp [intOf]; omega
      · have d1 : decide (T[k].1 ≤ r) = false := decide_eq_false h3
        have HN2 := Lib.hid (show ∀ j (hj : j < T.length), j < k + 1 → ¬ (T[j].1 ≤ r ∧ r ≤ T[j].2) from fun j hj hjk => by
          by_cases h : j = k
          · subst h; omega
          · exact HN.out j hj (by omega))
        generalize T[k].1 = x at h1 h3 d1
        generalize T[k].2 = y at h2
        go_wp2
        go_roundw
        case rel => exact ⟨k + 1, by omega, by go_num, HN2, hbw⟩
        case measure => simp [intOf]; omega
    · have he : inTab T r = false := inTab_none fun j hj => HN.out j hj (by omega)
      have HE := Lib.hid he
      clear he
      go_wp2
      go_ret
      exact ⟨ret_eq (by rw [HE.out]; rfl), hbw⟩
end Go.Proofs.YtgndolgihplngaaDoor
/- What the program's tables tell of any number: its class, its use in a conjunct, its width in the east. -/
namespace Go.Proofs.YtgndolgihplngaaDoor
open Go.RowKit Go.ChangeShapes Go.WideShapes
def listedI (r : Int) : Int := if inTab tControl r = true then 3 else if inTab tExtend r = true then 4 else if inTab tSpacing r = true then 8 else if inTab tPrepend r = true then 7 else 0
def gcbI (r : Int) : Int := if r = 13 then 1 else if r = 10 then 2 else if r = 8205 then 5 else if 127462 ≤ r ∧ r ≤ 127487 then 6 else if listedI r = 0 then classI r else listedI r
def conjO (r : Int) : Int := if inTab tCons r = true then 1 else if inTab tLink r = true then 2 else if inTab tJoin r = true then 3 else 0
def eastI (r : Int) : Int := if inTab tWide r = true then 1 else if inTab tFull r = true then 2 else if inTab tHalf r = true then 3 else 0
end Go.Proofs.YtgndolgihplngaaDoor
/- What the reference's lists tell of any number. -/
namespace Go.Proofs.YtgndolgihplngaaDoor
open Go.RowKit Go.ChangeShapes Go.WideShapes
def ofI : List (List (Int × Int)) → Int → Int → Int → Int
  | [], _, _, d => d
  | T :: Ts, n, r, d => if inTab T r = true then n else ofI Ts (n + 1) r d
theorem ofI_hit (r d : Int) : ∀ (Ts : List (List (Int × Int))) (n : Int) (k : Nat), k < Ts.length → (∀ j, j < k → inTab (Ts.getD j []) r = false) → inTab (Ts.getD k []) r = true → ofI Ts n r d = n + k
  | [], _, k, hk, _, _ => absurd hk (Nat.not_lt_zero _)
  | T :: Ts, n, 0, _, _, h => by
    have h' : inTab T r = true := h
    unfold ofI
    rw [if_pos h']
    simp
  | T :: Ts, n, k + 1, hk, hj, h => by
    have h' : inTab T r = false := hj 0 (by omega)
    unfold ofI
    rw [h', if_neg (by decide), ofI_hit r d Ts (n + 1) k (by simpa using hk) (fun j h => hj (j + 1) (by omega)) h]
    push_cast
    omega
theorem ofI_miss (r d : Int) : ∀ (Ts : List (List (Int × Int))) (n : Int), (∀ j, j < Ts.length → inTab (Ts.getD j []) r = false) → ofI Ts n r d = d
  | [], _, _ => rfl
  | T :: Ts, n, hj => by
    have h' : inTab T r = false := hj 0 (by simp)
    unfold ofI
    rw [h', if_neg (by decide), ofI_miss r d Ts (n + 1) (fun j h => hj (j + 1) (by simpa using h))]
def tabs09 : List (List (Int × Int)) := [tCR, tLF, tControl, tExtend, tZWJ, tRI, tPrepend, tSpacing]
def tabs11 : List (List (Int × Int)) := [tCons, tLink, tJoin]
def tabs12 : List (List (Int × Int)) := [tWide, tFull, tHalf]
theorem tb_get {W : World} {g : Nat} {vs : List Value} {t : TypeId} (h : Has W g vs t) (k : Nat) (hk : k < vs.length) : W.cell? ⟨g, k, none⟩ = some (vs.getD k undef) :=
  h.cell k _ (by simp [List.getD, List.getElem?_eq_getElem hk])
set_option maxRecDepth 100000 in
set_option maxHeartbeats 2000000 in
theorem rof11_any (r : Int) (w : World) (r0 : -2147483648 ≤ r) (r1 : r ≤ 2147483647) : Calls Tryd.prog 104 #[.int .i32 r] w (Gives w (.int .i64 (ofI tabs11 1 r 0))) := by
  go_enter Tryd.func104, Tryd.ntmps104
  go_wp2_with fail
  refine (r11list1_any _).mono ?_
  rintro e w1 ⟨v1, rfl, h1, b1⟩
  obtain ⟨ao1, c1, rfl, _⟩ := id h1.view
  have H1 := Lib.hid h1
  clear h1
  go_wp2_with fail
  refine (r11list2_any _).mono ?_
  rintro e w2 ⟨v2, rfl, h2, b2⟩
  obtain ⟨ao2, c2, rfl, _⟩ := id h2.view
  have H2 := Lib.hid h2
  clear h2
  go_wp2_with fail
  refine (r11list3_any _).mono ?_
  rintro e w3 ⟨v3, rfl, h3, b3⟩
  obtain ⟨ao3, c3, rfl, _⟩ := id h3.view
  have H3 := Lib.hid h3
  clear h3
  go_wp2
  obtain ⟨vs, hvs⟩ : ∃ vs : List Value, vs = [.slice ao1 tCons.length c1, .slice ao2 tLink.length c2, .slice ao3 tJoin.length c3] := ⟨_, rfl⟩
  obtain ⟨W, hW⟩ : ∃ W, W = w3.alloc (.cells vs.toArray 27) := ⟨_, rfl⟩
  have hE : w3.alloc (.cells #[.slice ao1 tCons.length c1, .slice ao2 tLink.length c2, .slice ao3 tJoin.length c3] 27) = W := by rw [hW, hvs]
  rw [hE]
  have hlen : vs.length = 3 := by rw [hvs]; rfl
  have hs : Has W w3.heap.size vs 27 := by rw [hW]; exact Has.new w3 _ _
  have hbl3 : Below w3.heap.size w3 W := by rw [hW]; exact (Below.refl _ _).alloc (Nat.le_refl _) _
  have hbl2 : Below w2.heap.size w2 W := b3.trans (hbl3.mono b3.size)
  have hbl1 : Below w1.heap.size w1 W := b2.trans (hbl2.mono b2.size)
  have hall : ∀ k, k < 3 → HeldT .i64 W (vs.getD k undef) (tabs11.getD k []) := by
    intro k hk
    rw [hvs]
    match k, hk with
    | 0, _ => exact H1.out.below hbl1
    | 1, _ => exact H2.out.below hbl2
    | 2, _ => exact H3.out.below hbl3
  have hl : Below w.heap.size w W := b1.trans (hbl1.mono b1.size)
  have hsm : ∀ k, k < 3 → (tabs11.getD k []).length ≤ 1000000 := by
    intro k hk
    match k, hk with
    | 0, _ => show tCons.length ≤ 1000000; decide +kernel
    | 1, _ => show tLink.length ≤ 1000000; decide +kernel
    | 2, _ => show tJoin.length ≤ 1000000; decide +kernel
  have HA := Lib.hid hall
  have HS := Lib.hid hs
  have HM := Lib.hid hsm
  clear hall hsm hE hvs hW H1 H2 H3 b1 b2 b3 hbl1 hbl2 hbl3
  go_loopw [4] (fun i wr => ∃ k : Nat, k ≤ 3 ∧ i = .int .i64 k ∧ Go.RowKit.Hid (∀ j, j < k → inTab (tabs11.getD j []) r = false) ∧ Below W.heap.size W wr) (fun i _ => 3 - (intOf i).toNat)
  case atStart => exact ⟨0, Nat.zero_le _, rfl, Lib.hid (fun j hj => by omega), Below.refl _ _⟩
  case round =>
    obtain ⟨k, hk, rfl, HN, hbw⟩ := hrel
    by_cases hlt : k < 3
    · have hh := (HA.out k hlt).below hbw
      have hcx := (hbw.cell (p := ⟨w3.heap.size, k, none⟩) HS.out.lt).trans (tb_get HS.out k (by rw [hlen]; exact hlt))
      have hm := HM.out k hlt
      obtain ⟨T, hT⟩ : ∃ T, T = tabs11.getD k [] := ⟨_, rfl⟩
      rw [← hT] at hh hm
      have HT := Lib.hid hT
      obtain ⟨ao, cap, hv, _⟩ := id hh.view
      rw [hv] at hh hcx
      have HH := Lib.hid hh
      clear hh hv hT
      cases hin : inTab T r with
      | true =>
        have he := ofI_hit r 0 tabs11 1 k hlt HN.out (by rw [← HT.out]; exact hin)
        have HE := Lib.hid he
        clear he
        go_wp2_with fail
        refine (in_any _ T r _ HH.out hm r0 r1).mono ?_
        rintro e wx ⟨rfl, bx⟩
        have hfin := hl.trans ((hbw.trans (bx.mono hbw.size)).mono hl.size)
        go_wp2
        go_ret
        exact ⟨ret_eq (by rw [HE.out]; simp; try omega), hfin⟩
      | false =>
        have HN2 := Lib.hid (show ∀ j, j < k + 1 → inTab (tabs11.getD j []) r = false from fun j hj => by
          by_cases h : j = k
          · subst h; rw [← HT.out]; exact hin
          · exact HN.out j (by omega))
        go_wp2_with fail
        refine (in_any _ T r _ HH.out hm r0 r1).mono ?_
        rintro e wx ⟨rfl, bx⟩
        have hbx := hbw.trans (bx.mono hbw.size)
        go_wp2
        go_roundw
        case rel => exact ⟨k + 1, by omega, by go_num, HN2, hbx⟩
        case measure => simp [intOf]; omega
    · have he := ofI_miss r 0 tabs11 1 (fun j hj => HN.out j (Nat.lt_of_lt_of_le hj (show 3 ≤ k by omega)))
      have HE := Lib.hid he
      clear he
      have hfin := hl.trans (hbw.mono hl.size)
      go_wp2
      go_ret
      exact ⟨ret_eq (by rw [HE.out]; try rfl), hfin⟩
set_option maxRecDepth 100000 in
set_option maxHeartbeats 2000000 in
theorem rof12_any (r : Int) (w : World) (r0 : -2147483648 ≤ r) (r1 : r ≤ 2147483647) : Calls Tryd.prog 105 #[.int .i32 r] w (Gives w (.int .i64 (ofI tabs12 1 r 0))) := by
  go_enter Tryd.func105, Tryd.ntmps105
  go_wp2_with fail
  refine (r12list1_any _).mono ?_
  rintro e w1 ⟨v1, rfl, h1, b1⟩
  obtain ⟨ao1, c1, rfl, _⟩ := id h1.view
  have H1 := Lib.hid h1
  clear h1
  go_wp2_with fail
  refine (r12list2_any _).mono ?_
  rintro e w2 ⟨v2, rfl, h2, b2⟩
  obtain ⟨ao2, c2, rfl, _⟩ := id h2.view
  have H2 := Lib.hid h2
  clear h2
  go_wp2_with fail
  refine (r12list3_any _).mono ?_
  rintro e w3 ⟨v3, rfl, h3, b3⟩
  obtain ⟨ao3, c3, rfl, _⟩ := id h3.view
  have H3 := Lib.hid h3
  clear h3
  go_wp2
  obtain ⟨vs, hvs⟩ : ∃ vs : List Value, vs = [.slice ao1 tWide.length c1, .slice ao2 tFull.length c2, .slice ao3 tHalf.length c3] := ⟨_, rfl⟩
  obtain ⟨W, hW⟩ : ∃ W, W = w3.alloc (.cells vs.toArray 27) := ⟨_, rfl⟩
  have hE : w3.alloc (.cells #[.slice ao1 tWide.length c1, .slice ao2 tFull.length c2, .slice ao3 tHalf.length c3] 27) = W := by rw [hW, hvs]
  rw [hE]
  have hlen : vs.length = 3 := by rw [hvs]; rfl
  have hs : Has W w3.heap.size vs 27 := by rw [hW]; exact Has.new w3 _ _
  have hbl3 : Below w3.heap.size w3 W := by rw [hW]; exact (Below.refl _ _).alloc (Nat.le_refl _) _
  have hbl2 : Below w2.heap.size w2 W := b3.trans (hbl3.mono b3.size)
  have hbl1 : Below w1.heap.size w1 W := b2.trans (hbl2.mono b2.size)
  have hall : ∀ k, k < 3 → HeldT .i64 W (vs.getD k undef) (tabs12.getD k []) := by
    intro k hk
    rw [hvs]
    match k, hk with
    | 0, _ => exact H1.out.below hbl1
    | 1, _ => exact H2.out.below hbl2
    | 2, _ => exact H3.out.below hbl3
  have hl : Below w.heap.size w W := b1.trans (hbl1.mono b1.size)
  have hsm : ∀ k, k < 3 → (tabs12.getD k []).length ≤ 1000000 := by
    intro k hk
    match k, hk with
    | 0, _ => show tWide.length ≤ 1000000; decide +kernel
    | 1, _ => show tFull.length ≤ 1000000; decide +kernel
    | 2, _ => show tHalf.length ≤ 1000000; decide +kernel
  have HA := Lib.hid hall
  have HS := Lib.hid hs
  have HM := Lib.hid hsm
  clear hall hsm hE hvs hW H1 H2 H3 b1 b2 b3 hbl1 hbl2 hbl3
  go_loopw [4] (fun i wr => ∃ k : Nat, k ≤ 3 ∧ i = .int .i64 k ∧ Go.RowKit.Hid (∀ j, j < k → inTab (tabs12.getD j []) r = false) ∧ Below W.heap.size W wr) (fun i _ => 3 - (intOf i).toNat)
  case atStart => exact ⟨0, Nat.zero_le _, rfl, Lib.hid (fun j hj => by omega), Below.refl _ _⟩
  case round =>
    obtain ⟨k, hk, rfl, HN, hbw⟩ := hrel
    by_cases hlt : k < 3
    · have hh := (HA.out k hlt).below hbw
      have hcx := (hbw.cell (p := ⟨w3.heap.size, k, none⟩) HS.out.lt).trans (tb_get HS.out k (by rw [hlen]; exact hlt))
      have hm := HM.out k hlt
      obtain ⟨T, hT⟩ : ∃ T, T = tabs12.getD k [] := ⟨_, rfl⟩
      rw [← hT] at hh hm
      have HT := Lib.hid hT
      obtain ⟨ao, cap, hv, _⟩ := id hh.view
      rw [hv] at hh hcx
      have HH := Lib.hid hh
      clear hh hv hT
      cases hin : inTab T r with
      | true =>
        have he := ofI_hit r 0 tabs12 1 k hlt HN.out (by rw [← HT.out]; exact hin)
        have HE := Lib.hid he
        clear he
        go_wp2_with fail
        refine (in_any _ T r _ HH.out hm r0 r1).mono ?_
        rintro e wx ⟨rfl, bx⟩
        have hfin := hl.trans ((hbw.trans (bx.mono hbw.size)).mono hl.size)
        go_wp2
        go_ret
        exact ⟨ret_eq (by rw [HE.out]; simp; try omega), hfin⟩
      | false =>
        have HN2 := Lib.hid (show ∀ j, j < k + 1 → inTab (tabs12.getD j []) r = false from fun j hj => by
          by_cases h : j = k
          · subst h; rw [← HT.out]; exact hin
          · exact HN.out j (by omega))
        go_wp2_with fail
        refine (in_any _ T r _ HH.out hm r0 r1).mono ?_
        rintro e wx ⟨rfl, bx⟩
        have hbx := hbw.trans (bx.mono hbw.size)
        go_wp2
        go_roundw
        case rel => exact ⟨k + 1, by omega, by go_num, HN2, hbx⟩
        case measure => simp [intOf]; omega
    · have he := ofI_miss r 0 tabs12 1 (fun j hj => HN.out j (Nat.lt_of_lt_of_le hj (show 3 ≤ k by omega)))
      have HE := Lib.hid he
      clear he
      have hfin := hl.trans (hbw.mono hl.size)
      go_wp2
      go_ret
      exact ⟨ret_eq (by rw [HE.out]; try rfl), hfin⟩
set_option maxRecDepth 100000 in
set_option maxHeartbeats 2000000 in
theorem rof09_any (r : Int) (w : World) (r0 : -2147483648 ≤ r) (r1 : r ≤ 2147483647) : Calls Tryd.prog 102 #[.int .i32 r] w (Gives w (.int .i64 (ofI tabs09 1 r (classI r)))) := by
  go_enter Tryd.func102, Tryd.ntmps102
  go_wp2_with fail
  refine (r09list1_any _).mono ?_
  rintro e w1 ⟨v1, rfl, h1, b1⟩
  obtain ⟨ao1, c1, rfl, _⟩ := id h1.view
  have H1 := Lib.hid h1
  clear h1
  go_wp2_with fail
  refine (r09list2_any _).mono ?_
  rintro e w2 ⟨v2, rfl, h2, b2⟩
  obtain ⟨ao2, c2, rfl, _⟩ := id h2.view
  have H2 := Lib.hid h2
  clear h2
  go_wp2_with fail
  refine (r09list3_any _).mono ?_
  rintro e w3 ⟨v3, rfl, h3, b3⟩
  obtain ⟨ao3, c3, rfl, _⟩ := id h3.view
  have H3 := Lib.hid h3
  clear h3
  go_wp2_with fail
  refine (r09list4_any _).mono ?_
  rintro e w4 ⟨v4, rfl, h4, b4⟩
  obtain ⟨ao4, c4, rfl, _⟩ := id h4.view
  have H4 := Lib.hid h4
  clear h4
  go_wp2_with fail
  refine (r09list5_any _).mono ?_
  rintro e w5 ⟨v5, rfl, h5, b5⟩
  obtain ⟨ao5, c5, rfl, _⟩ := id h5.view
  have H5 := Lib.hid h5
  clear h5
  go_wp2_with fail
  refine (r09list6_any _).mono ?_
  rintro e w6 ⟨v6, rfl, h6, b6⟩
  obtain ⟨ao6, c6, rfl, _⟩ := id h6.view
  have H6 := Lib.hid h6
  clear h6
  go_wp2_with fail
  refine (r09list7_any _).mono ?_
  rintro e w7 ⟨v7, rfl, h7, b7⟩
  obtain ⟨ao7, c7, rfl, _⟩ := id h7.view
  have H7 := Lib.hid h7
  clear h7
  go_wp2_with fail
  refine (r09list8_any _).mono ?_
  rintro e w8 ⟨v8, rfl, h8, b8⟩
  obtain ⟨ao8, c8, rfl, _⟩ := id h8.view
  have H8 := Lib.hid h8
  clear h8
  go_wp2
  obtain ⟨vs, hvs⟩ : ∃ vs : List Value, vs = [.slice ao1 tCR.length c1, .slice ao2 tLF.length c2, .slice ao3 tControl.length c3, .slice ao4 tExtend.length c4, .slice ao5 tZWJ.length c5, .slice ao6 tRI.length c6, .slice ao7 tPrepend.length c7, .slice ao8 tSpacing.length c8] := ⟨_, rfl⟩
  obtain ⟨W, hW⟩ : ∃ W, W = w8.alloc (.cells vs.toArray 27) := ⟨_, rfl⟩
  have hE : w8.alloc (.cells #[.slice ao1 tCR.length c1, .slice ao2 tLF.length c2, .slice ao3 tControl.length c3, .slice ao4 tExtend.length c4, .slice ao5 tZWJ.length c5, .slice ao6 tRI.length c6, .slice ao7 tPrepend.length c7, .slice ao8 tSpacing.length c8] 27) = W := by rw [hW, hvs]
  rw [hE]
  have hlen : vs.length = 8 := by rw [hvs]; rfl
  have hs : Has W w8.heap.size vs 27 := by rw [hW]; exact Has.new w8 _ _
  have hbl8 : Below w8.heap.size w8 W := by rw [hW]; exact (Below.refl _ _).alloc (Nat.le_refl _) _
  have hbl7 : Below w7.heap.size w7 W := b8.trans (hbl8.mono b8.size)
  have hbl6 : Below w6.heap.size w6 W := b7.trans (hbl7.mono b7.size)
  have hbl5 : Below w5.heap.size w5 W := b6.trans (hbl6.mono b6.size)
  have hbl4 : Below w4.heap.size w4 W := b5.trans (hbl5.mono b5.size)
  have hbl3 : Below w3.heap.size w3 W := b4.trans (hbl4.mono b4.size)
  have hbl2 : Below w2.heap.size w2 W := b3.trans (hbl3.mono b3.size)
  have hbl1 : Below w1.heap.size w1 W := b2.trans (hbl2.mono b2.size)
  have hall : ∀ k, k < 8 → HeldT .i64 W (vs.getD k undef) (tabs09.getD k []) := by
    intro k hk
    rw [hvs]
    match k, hk with
    | 0, _ => exact H1.out.below hbl1
    | 1, _ => exact H2.out.below hbl2
    | 2, _ => exact H3.out.below hbl3
    | 3, _ => exact H4.out.below hbl4
    | 4, _ => exact H5.out.below hbl5
    | 5, _ => exact H6.out.below hbl6
    | 6, _ => exact H7.out.below hbl7
    | 7, _ => exact H8.out.below hbl8
  have hl : Below w.heap.size w W := b1.trans (hbl1.mono b1.size)
  have hsm : ∀ k, k < 8 → (tabs09.getD k []).length ≤ 1000000 := by
    intro k hk
    match k, hk with
    | 0, _ => show tCR.length ≤ 1000000; decide +kernel
    | 1, _ => show tLF.length ≤ 1000000; decide +kernel
    | 2, _ => show tControl.length ≤ 1000000; decide +kernel
    | 3, _ => show tExtend.length ≤ 1000000; decide +kernel
    | 4, _ => show tZWJ.length ≤ 1000000; decide +kernel
    | 5, _ => show tRI.length ≤ 1000000; decide +kernel
    | 6, _ => show tPrepend.length ≤ 1000000; decide +kernel
    | 7, _ => show tSpacing.length ≤ 1000000; decide +kernel
  have HA := Lib.hid hall
  have HS := Lib.hid hs
  have HM := Lib.hid hsm
  clear hall hsm hE hvs hW H1 H2 H3 H4 H5 H6 H7 H8 b1 b2 b3 b4 b5 b6 b7 b8 hbl1 hbl2 hbl3 hbl4 hbl5 hbl6 hbl7 hbl8
  go_loopw [4] (fun i wr => ∃ k : Nat, k ≤ 8 ∧ i = .int .i64 k ∧ Go.RowKit.Hid (∀ j, j < k → inTab (tabs09.getD j []) r = false) ∧ Below W.heap.size W wr) (fun i _ => 8 - (intOf i).toNat)
  case atStart => exact ⟨0, Nat.zero_le _, rfl, Lib.hid (fun j hj => by omega), Below.refl _ _⟩
  case round =>
    obtain ⟨k, hk, rfl, HN, hbw⟩ := hrel
    by_cases hlt : k < 8
    · have hh := (HA.out k hlt).below hbw
      have hcx := (hbw.cell (p := ⟨w8.heap.size, k, none⟩) HS.out.lt).trans (tb_get HS.out k (by rw [hlen]; exact hlt))
      have hm := HM.out k hlt
      obtain ⟨T, hT⟩ : ∃ T, T = tabs09.getD k [] := ⟨_, rfl⟩
      rw [← hT] at hh hm
      have HT := Lib.hid hT
      obtain ⟨ao, cap, hv, _⟩ := id hh.view
      rw [hv] at hh hcx
      have HH := Lib.hid hh
      clear hh hv hT
      cases hin : inTab T r with
      | true =>
        have he := ofI_hit r (classI r) tabs09 1 k hlt HN.out (by rw [← HT.out]; exact hin)
        have HE := Lib.hid he
        clear he
        go_wp2_with fail
        refine (in_any _ T r _ HH.out hm r0 r1).mono ?_
        rintro e wx ⟨rfl, bx⟩
        have hfin := hl.trans ((hbw.trans (bx.mono hbw.size)).mono hl.size)
        go_wp2
        go_ret
        exact ⟨ret_eq (by rw [HE.out]; simp; try omega), hfin⟩
      | false =>
        have HN2 := Lib.hid (show ∀ j, j < k + 1 → inTab (tabs09.getD j []) r = false from fun j hj => by
          by_cases h : j = k
          · subst h; rw [← HT.out]; exact hin
          · exact HN.out j (by omega))
        go_wp2_with fail
        refine (in_any _ T r _ HH.out hm r0 r1).mono ?_
        rintro e wx ⟨rfl, bx⟩
        have hbx := hbw.trans (bx.mono hbw.size)
        go_wp2
        go_roundw
        case rel => exact ⟨k + 1, by omega, by go_num, HN2, hbx⟩
        case measure => simp [intOf]; omega
    · have he := ofI_miss r (classI r) tabs09 1 (fun j hj => HN.out j (Nat.lt_of_lt_of_le hj (show 8 ≤ k by omega)))
      have HE := Lib.hid he
      clear he
      have hfin := hl.trans (hbw.mono hl.size)
      go_wp2_with fail
      refine (refclass_any r _ r0 r1).mono ?_
      rintro e w' ⟨rfl, rfl⟩
      go_wp2
      go_ret
      exact ⟨ret_eq (by rw [HE.out]; try rfl), hfin⟩
end Go.Proofs.YtgndolgihplngaaDoor
/- What the program's tables tell and what the reference's lists tell agree; what pictures and conjuncts are in classes. -/
namespace Go.Proofs.YtgndolgihplngaaDoor
open Go.RowKit Go.ChangeShapes Go.WideShapes
theorem one_dec (a r : Int) : inTab [(a, a)] r = decide (r = a) := by
  rw [inTab_one]
  by_cases h : r = a
  · subst h; simp
  · rw [decide_eq_false h]
    by_cases h1 : a ≤ r
    · rw [decide_eq_false (show ¬ r ≤ a by omega)]; simp
    · rw [decide_eq_false h1]; rfl
def tSingle : List (Int × Int) := [(13, 13), (10, 10), (8205, 8205), (127462, 127487)]
theorem not_single {r : Int} (h : inTab tSingle r = false) : r ≠ 13 ∧ r ≠ 10 ∧ r ≠ 8205 ∧ ¬ (127462 ≤ r ∧ r ≤ 127487) := by
  simp [inTab, tSingle] at h
  omega
theorem ap_cs : apart tControl tSingle = true := by decide +kernel
theorem ap_es : apart tExtend tSingle = true := by decide +kernel
theorem ap_sp : apart tSpacing tPrepend = true := by decide +kernel
theorem gcb_ref (r : Int) : ofI tabs09 1 r (classI r) = gcbI r := by
  simp only [tabs09, ofI, tCR, tLF, tZWJ, one_dec, tRI, inTab_one]
  unfold gcbI listedI
  by_cases h13 : r = 13
  · simp [h13]
  by_cases h10 : r = 10
  · simp [h10]
  simp only [h13, h10, decide_false, Bool.false_eq_true, if_false]
  cases hc : inTab tControl r with
  | true =>
    obtain ⟨_, _, h1, h2⟩ := not_single (apart_not ap_cs hc)
    simp [h1, h2]
  | false =>
    cases he : inTab tExtend r with
    | true =>
      obtain ⟨_, _, h1, h2⟩ := not_single (apart_not ap_es he)
      simp [h1, h2]
    | false =>
      by_cases hz : r = 8205
      · simp [hz]
      by_cases hr : 127462 ≤ r ∧ r ≤ 127487
      · simp [hz, hr]
      · have hr' : ¬ ((decide (127462 ≤ r) && decide (r ≤ 127487)) = true) := by simpa using hr
        simp only [hz, hr, hr', decide_false, Bool.false_eq_true, if_false]
        cases hs : inTab tSpacing r with
        | true => rw [apart_not ap_sp hs]; simp
        | false =>
          cases hp : inTab tPrepend r <;> simp
theorem conj_ref (r : Int) : ofI tabs11 1 r 0 = conjO r := rfl
theorem east_ref (r : Int) : ofI tabs12 1 r 0 = eastI r := rfl
set_option maxRecDepth 100000 in
theorem rpict_any (r : Int) (w : World) (r0 : -2147483648 ≤ r) (r1 : r ≤ 2147483647) : Calls Tryd.prog 103 #[.int .i32 r] w (Gives w (.bool (inTab tPict r))) := by
  go_enter Tryd.func103, Tryd.ntmps103
  go_wp2_with fail
  refine (r10list_any _).mono ?_
  rintro e w1 ⟨v1, rfl, h1, b1⟩
  go_wp2_with fail
  refine (in_any _ tPict r _ h1 (by rw [tPict_len]; decide) r0 r1).mono ?_
  rintro e w2 ⟨rfl, b2⟩
  go_wp2
  go_ret
  exact ⟨(ret_eq (by first | rfl | (simp <;> omega))), b1.trans (b2.mono b1.size)⟩
end Go.Proofs.YtgndolgihplngaaDoor
/- Contracts of ucd: what is known of a number. -/
namespace Go.Proofs.YtgndolgihplngaaDoor
open Go.RowKit Go.ChangeShapes Go.WideShapes
/-- What is known of r. -/
def knownV (r : Int) : Value := .agg #[.int .i64 (gcbI r), .bool (inTab tPict r), .int .i64 (conjO r), .int .i64 (eastI r)]
theorem four_set (w : World) (g : Nat) (a b c d : Value) : But g w.heap.size w ((((w.setCell ⟨g, 0, none⟩ a).setCell ⟨g, 1, none⟩ b).setCell ⟨g, 2, none⟩ c).setCell ⟨g, 3, none⟩ d) :=
  ((((But.refl _ _ _).set 0 _).set 1 _).set 2 _).set 3 _
set_option maxRecDepth 100000 in
theorem rucdof_any (r : Int) (w : World) (r0 : -2147483648 ≤ r) (r1 : r ≤ 2147483647) : Calls Tryd.prog 68 #[.int .i32 r] w (Gives w (knownV r)) := by
  have hr0 := Has.new w [Value.int .i64 0, .bool false, .int .i64 0, .int .i64 0] 64
  have HR := Lib.hid hr0
  have hl0 : Below w.heap.size w (w.alloc (.cells [Value.int .i64 0, .bool false, .int .i64 0, .int .i64 0].toArray 64)) := (Below.refl _ _).alloc (Nat.le_refl _) _
  have HL := Lib.hid hl0
  clear hr0 hl0
  go_enter Tryd.func68, Tryd.ntmps68
  go_wp2_with fail
  refine (rof09_any r _ r0 r1).mono ?_
  rintro e w1 ⟨rfl, b1⟩
  rw [gcb_ref r]
  go_wp2_with fail
  refine (rpict_any r _ r0 r1).mono ?_
  rintro e w2 ⟨rfl, b2⟩
  go_wp2_with fail
  refine (rof11_any r _ r0 r1).mono ?_
  rintro e w3 ⟨rfl, b3⟩
  rw [conj_ref r]
  go_wp2_with fail
  refine (rof12_any r _ r0 r1).mono ?_
  rintro e w4 ⟨rfl, b4⟩
  rw [east_ref r]
  have hb := b1.trans ((b2.trans ((b3.trans (b4.mono b3.size)).mono b2.size)).mono b1.size)
  have hr4 := HR.out.below hb HR.out.lt
  have hl4 := HL.out.trans (hb.mono HL.out.size)
  have g0 := hr4.cell 0 _ rfl
  have g1 := hr4.cell 1 _ rfl
  have g2 := hr4.cell 2 _ rfl
  have g3 := hr4.cell 3 _ rfl
  have f0 := hr4.free 0
  have f1 := hr4.free 1
  have f2 := hr4.free 2
  have f3 := hr4.free 3
  have hlt := hr4.lt
  have hbl := fun x y z u => hl4.trans ((four_set w4 w.heap.size x y z u).below hl4.size (Nat.le_refl _))
  have HBL := Lib.hid hbl
  clear hb hr4 hl4 hbl b1 b2 b3 b4 HR HL
  go_wp2
  exact bodyPost_ret (v := knownV r) (by simp [results, Tryd.results68, go_sem, knownV, g0, g1, g2, g3]) rfl ⟨rfl, HBL.out _ _ _ _⟩
end Go.Proofs.YtgndolgihplngaaDoor
