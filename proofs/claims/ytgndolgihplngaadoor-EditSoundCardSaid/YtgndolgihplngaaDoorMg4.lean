/- Texts put together: RowO, RowR, ShfB. -/
import Derived.Test.YtgndolgihplngaaDoorRowC
import Derived.Test.YtgndolgihplngaaDoorErrS
import Derived.Test.YtgndolgihplngaaDoorMg1
import Derived.Test.YtgndolgihplngaaDoorCellS
import Derived.Deep.Cut
import Derived.Deep.CutRange
import Derived.Test.YtgndolgihplngaaDoorMg3
import Derived.Lib.MinMax
/- Row.Copy, row.Of. -/
namespace Go.Proofs.YtgndolgihplngaaDoor
open Go.RowKit Go.ChangeShapes Go.WideShapes
section
variable (sa : Nat → Addr) (Y : Zone) (L : List Cl) (v : Value) (w : World)
def RowOf (e : Ending) (w' : World) : Prop := ∃ g gc, e = .returned (.tuple #[.pointer (some ⟨g, 0, none⟩), .nilIface]) ∧ RowAt (fun b => w.heap.size ≤ b) w' w.heap.size g gc L false ∧ Below w.heap.size w w'
set_option maxRecDepth 100000 in
theorem rof_ok (hv : HeldE cellE Y w v L) (h0 : 0 < L.length) (h1 : L.length ≤ 1024) (hsd : soundB L = true) : Calls Tryd.prog 33 #[v] w (RowOf L w) := by
  have HSD := Lib.hid (sound_any _ _ _ _ hv)
  rw [hsd] at HSD
  have HV := Lib.hid hv
  have HSS := Lib.hid hsd
  obtain ⟨ao, pc, rfl⟩ := hv.len
  clear hv hsd
  have hz : ((L.length : Int) == 0) = false := by rw [beq_eq_false_iff_ne]; omega
  go_enter Tryd.func33, Tryd.ntmps33
  go_wp2_with fail
  refine HSD.out.mono ?_
  rintro e w2 ⟨rfl, b2⟩
  have B2 := Lib.hid b2
  clear b2
  go_wp2_with fail
  refine (clonecs_any _ _ L w2 (HV.out.below B2.out) (by omega) (sound_short HSS.out)).mono ?_
  rintro e w3 ⟨v3, rfl, ho3, b3⟩
  have B3 := Lib.hid (B2.out.trans (b3.mono B2.out.size))
  have ho3 := (ho3.base B2.out.size).zone (Y := fun b => w.heap.size ≤ b) (fun b _ k => Nat.le_trans B2.out.size k)
  obtain ⟨gc0, cap0, rfl, _, _⟩ := ho3.some h0
  obtain ⟨gc, hr⟩ := row_new (wrap := false) ho3 B3.out.size h0 h1 HSS.out
  have HR := Lib.hid hr
  clear ho3 b3 hr
  go_wp2
  go_ret2
  exact ⟨_, gc, rfl, HR.out, B3.out.alloc B3.out.size _⟩
end
end Go.Proofs.YtgndolgihplngaaDoor
/- The reference's Paint, Wrong. -/
namespace Go.Proofs.YtgndolgihplngaaDoor
open Go.RowKit Go.ChangeShapes Go.WideShapes
end Go.Proofs.YtgndolgihplngaaDoor
/- shift: held, tear. -/
namespace Go.Proofs.YtgndolgihplngaaDoor
open Go.RowKit Go.ChangeShapes Go.WideShapes
set_option maxRecDepth 100000 in
theorem sheld_bad (Z : Zone) (B g gc : Nat) (L : List Cl) (wrap : Bool) (c n : Int) (w : World) (h : RowAt Z w B g gc L wrap) (hb : c < 0 ∨ (L.length : Int) ≤ c ∨ n < 1) : Calls Tryd.prog 121 #[.pointer (some ⟨g, 0, none⟩), .int .i64 c, .int .i64 n] w fun e w' => e = .returned (.tuple #[.int .i64 0, .bool false]) ∧ w = w' := by
  have HW := Lib.hid (rwide_any Z B g gc L wrap w h)
  clear h
  by_cases h0 : c < 0
  · have hd : decide (c < 0) = true := by simp; omega
    clear hb
    go_enter Tryd.func121, Tryd.ntmps121
    go_wp2
    go_ret2
    exact ⟨rfl, rfl⟩
  have hd : decide (c < 0) = false := by simp; omega
  by_cases h1 : (L.length : Int) ≤ c
  · have hd1 : decide ((L.length : Int) ≤ c) = true := by simp; omega
    clear hb
    go_enter Tryd.func121, Tryd.ntmps121
    go_wp2_with fail
    refine HW.out.mono ?_
    rintro e w1 ⟨rfl, rfl⟩
    go_wp2
    go_ret2
    exact ⟨rfl, rfl⟩
  · have hd1 : decide ((L.length : Int) ≤ c) = false := by simp; omega
    have hd2 : decide (n < 1) = true := by simp; omega
    clear hb
    go_enter Tryd.func121, Tryd.ntmps121
    go_wp2_with fail
    refine HW.out.mono ?_
    rintro e w1 ⟨rfl, rfl⟩
    go_wp2
    go_ret2
    exact ⟨rfl, rfl⟩
set_option maxRecDepth 100000 in
theorem sheld_good (Z : Zone) (B g gc : Nat) (L : List Cl) (wrap : Bool) (c : Nat) (n : Int) (w : World) (h : RowAt Z w B g gc L wrap) (hc : c < L.length) (hn : 1 ≤ n) (m : Nat) (hm : min n ((L.length : Int) - c) = m) : Calls Tryd.prog 121 #[.pointer (some ⟨g, 0, none⟩), .int .i64 c, .int .i64 n] w fun e w' => e = .returned (.tuple #[.int .i64 m, .bool true]) ∧ w = w' := by
  have HW := Lib.hid (rwide_any Z B g gc L wrap w h)
  have hl := h.len.2.1
  have hd : decide ((c : Int) < 0) = false := by simp
  have hd1 : decide ((L.length : Int) ≤ c) = false := by simp; omega
  have hd1n : decide (L.length ≤ c) = false := by simp; omega
  have hd2 : decide (n < 1) = false := by simp; omega
  have hw : IntKind.i64.wrap ((L.length : Int) - c) = (L.length : Int) - c := by rw [IntKind.wrap_i64]; omega
  clear h
  go_enter Tryd.func121, Tryd.ntmps121
  go_wp2_with fail
  refine HW.out.mono ?_
  rintro e w1 ⟨rfl, rfl⟩
  go_wp2_with fail
  refine HW.out.mono ?_
  rintro e w1 ⟨rfl, rfl⟩
  go_wp2
  go_ret2
  exact ⟨rfl, rfl⟩
theorem tear_out {L : List Cl} {c : Nat} (h : (L.getD c zc).1 ≠ 3) : tearL L c = L := by unfold tearL; rw [if_neg h]
def TornOk (Z : Zone) (B g cap : Nat) (w : World) (L' : List Cl) (e : Ending) (w' : World) : Prop := e = .returned (.tuple #[]) ∧ OwnE cellE Z w' B 73 (.slice (some ⟨g, 0, none⟩) L'.length cap) L' ∧ Upd (fun b => b = g) w w'
theorem ownE_kind {Z : Zone} {B g cap n : Nat} {L : List Cl} {w : World} (h : OwnE cellE Z w B 73 (.slice (some ⟨g, 0, none⟩) n cap) L) {i : Nat} (hi : i < L.length) : w.cell? ⟨g, i * 2, none⟩ = some (.int .i64 (L.getD i zc).1) := by
  obtain ⟨C, hC, hr⟩ := h.each.at (i := i) hi
  obtain ⟨tv, rfl, _⟩ := cell_rep.1 hr
  exact (hC 0 (by decide)).1
set_option maxRecDepth 100000 in
set_option maxHeartbeats 1000000 in
theorem stear_any (Z : Zone) (B g cap : Nat) (L : List Cl) (c : Nat) (w : World) (h : OwnE cellE Z w B 73 (.slice (some ⟨g, 0, none⟩) L.length cap) L) (hs : soundB L = true) (hl : L.length ≤ 1024) : Calls Tryd.prog 122 #[.slice (some ⟨g, 0, none⟩) L.length cap, .int .i64 c] w (TornOk Z B g cap w (tearL L c)) := by
  have H := Lib.hid h
  by_cases hc : c < L.length
  · have ck := ownE_kind h hc
    have hd : decide ((c : Int) < (L.length : Int)) = true := by simp; omega
    have hp := (sound_prop L).1 hs c hc
    by_cases h3 : (L.getD c zc).1 = 3
    · obtain ⟨h0, _⟩ := hp.2.2 h3
      obtain ⟨b, hb⟩ : ∃ b, c = b + 1 := ⟨c - 1, by omega⟩
      have HT := Lib.hid (show tearL L c = (L.set b zc).set c zc by unfold tearL; rw [if_pos h3, show c - 1 = b by omega])
      rw [h3] at ck
      have hb0 : (c : Int) - 1 = b := by omega
      have hbw : IntKind.i64.wrap (b : Int) = (b : Int) := by rw [IntKind.wrap_i64]; omega
      have hbl : b < L.length := by omega
      have hcl : c < (L.set b zc).length := by rw [List.length_set]; exact hc
      have HCL := Lib.hid hcl
      clear h hs hp h0 h3 hb hcl
      go_enter Tryd.func122, Tryd.ntmps122
      go_wp2_with (refine wpList_put_e (E := cellE) (Y := Z) (i := b) rfl 73 (.tmp 23) (.tmp 21) rfl rfl rfl [.int .i64 0, .slice none 0 0] rfl (by kernel_rfl) H.out.each hbl zc (zero_rep _ _) ?_)
      intro w1 hw1 hu1
      have H1 := Lib.hid (show OwnE cellE Z _ B 73 _ _ from hw1)
      have U1 := Lib.hid hu1
      clear hw1 hu1 ck
      go_wp2_with (refine wpList_put_e (E := cellE) (Y := Z) (i := c) rfl 73 (.tmp 24) (.tmp 22) rfl rfl rfl [.int .i64 0, .slice none 0 0] rfl (by kernel_rfl) H1.out.each HCL.out zc (zero_rep _ _) ?_)
      intro w2 hw2 hu2
      have HE := Lib.hid (And.intro (show OwnE cellE Z _ B 73 _ _ from hw2) (U1.out.trans hu2))
      clear hw2 hu2
      go_wp2
      rw [HT.out]
      refine bodyPost_end (by kernel_rfl) rfl ⟨rfl, ?_, HE.out.2⟩
      rw [List.length_set, List.length_set]
      exact HE.out.1
    · have HT := Lib.hid (tear_out h3)
      obtain ⟨K, hK⟩ : ∃ K, K = (L.getD c zc).1 := ⟨_, rfl⟩
      rw [← hK] at ck h3
      have hk : (K == 3) = false := by rw [beq_eq_false_iff_ne]; exact h3
      clear h hs hp hK
      go_enter Tryd.func122, Tryd.ntmps122
      go_wp2
      rw [HT.out]
      exact bodyPost_end (by kernel_rfl) rfl ⟨rfl, H.out, Upd.refl _ _⟩
  · have hd : decide ((c : Int) < (L.length : Int)) = false := by simp; omega
    have HT := Lib.hid (show tearL L c = L from tear_out (by rw [getD_ge L zc c (by omega)]; decide))
    clear h hs
    go_enter Tryd.func122, Tryd.ntmps122
    go_wp2
    rw [HT.out]
    exact bodyPost_end (by kernel_rfl) rfl ⟨rfl, H.out, Upd.refl _ _⟩
end Go.Proofs.YtgndolgihplngaaDoor
