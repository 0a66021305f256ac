/- Row.Copy, row.Of. -/
import Derived.Test.YteinppjklhomnaaDoorRowC
import Derived.Test.YteinppjklhomnaaDoorErrS
import Derived.Test.YteinppjklhomnaaDoorMg1
namespace Go.Proofs.YteinppjklhomnaaDoor
open Go.RowKit Go.ChangeShapes Go.WideShapes
section
variable (sa : Nat → Addr) (Y : Zone) (L : List Cl) (v : Value) (w : World)
set_option maxRecDepth 100000 in
theorem rof_range (hs : Sents w sa) (hv : HeldE cellE Y w v L) (hbad : L.length = 0 ∨ 1024 < L.length) : Calls Tryd.prog 40 #[v] w (Gives w (.tuple #[.pointer none, .iface 194 (.pointer (some (sa 2)))])) := by
  have c2 := hs.cell 2 (by decide)
  simp only [glob] at c2
  have hm := hv.max
  obtain ⟨ao, pc, rfl⟩ := hv.len
  clear hs hv
  rcases hbad with h0 | h0
  · have hz : ((L.length : Int) == 0) = true := by rw [h0]; rfl
    clear h0
    go_enter Tryd.func40, Tryd.ntmps40
    go_wp2
    go_quiet (fail)
    go_wp2
    go_ret2
    exact ⟨rfl, (Below.refl _ _).drewN _⟩
  · have hz : ((L.length : Int) == 0) = false := by rw [beq_eq_false_iff_ne]; omega
    go_enter Tryd.func40, Tryd.ntmps40
    go_wp2
    go_quiet (fail)
    go_wp2
    go_ret2
    exact ⟨rfl, (Below.refl _ _).drewN _⟩
set_option maxRecDepth 100000 in
theorem rof_kind (hs : Sents w sa) (hv : HeldE cellE Y w v L) (h0 : 0 < L.length) (h1 : L.length ≤ 1024) (hbad : soundB L = false) : Calls Tryd.prog 40 #[v] w (Gives w (.tuple #[.pointer none, .iface 194 (.pointer (some (sa 4)))])) := by
  have HS := Lib.hid hs
  have HSD := Lib.hid (sound_any _ _ _ _ hv)
  rw [hbad] at HSD
  obtain ⟨ao, pc, rfl⟩ := hv.len
  clear hs hv hbad
  have hz : ((L.length : Int) == 0) = false := by rw [beq_eq_false_iff_ne]; omega
  go_enter Tryd.func40, Tryd.ntmps40
  go_wp2_with fail
  refine HSD.out.mono ?_
  rintro e w2 ⟨rfl, b2⟩
  have c4 := (HS.out.below b2).cell 4 (by decide)
  simp only [glob] at c4
  go_wp2
  go_quiet (fail)
  go_wp2
  go_ret2
  exact ⟨rfl, b2.drewN _⟩
def RowOf (e : Ending) (w' : World) : Prop := ∃ g gc, e = .returned (.tuple #[.pointer (some ⟨g, 0, none⟩), .nilIface]) ∧ RowAt (fun b => w.heap.size ≤ b) w' w.heap.size g gc L false ∧ Below w.heap.size w w'
set_option maxRecDepth 100000 in
theorem rof_ok (hv : HeldE cellE Y w v L) (h0 : 0 < L.length) (h1 : L.length ≤ 1024) (hsd : soundB L = true) : Calls Tryd.prog 40 #[v] w (RowOf L w) := by
  have HSD := Lib.hid (sound_any _ _ _ _ hv)
  rw [hsd] at HSD
  have HV := Lib.hid hv
  have HSS := Lib.hid hsd
  obtain ⟨ao, pc, rfl⟩ := hv.len
  clear hv hsd
  have hz : ((L.length : Int) == 0) = false := by rw [beq_eq_false_iff_ne]; omega
  go_enter Tryd.func40, Tryd.ntmps40
  go_wp2_with fail
  refine HSD.out.mono ?_
  rintro e w2 ⟨rfl, b2⟩
  have B2 := Lib.hid b2
  clear b2
  go_wp2_with fail
  refine (clonecs_any _ _ L w2 (HV.out.below B2.out) (by omega) (sound_short HSS.out)).mono ?_
  rintro e w3 ⟨v3, rfl, ho3, b3⟩
  have B3 := Lib.hid (B2.out.trans (b3.mono B2.out.size))
  have ho3 := (ho3.base B2.out.size).zone (Y := fun b => w.heap.size ≤ b) (fun b _ k => Nat.le_trans B2.out.size k)
  obtain ⟨gc0, cap0, rfl, _, _⟩ := ho3.some h0
  obtain ⟨gc, hr⟩ := row_new (wrap := false) ho3 B3.out.size h0 h1 HSS.out
  have HR := Lib.hid hr
  clear ho3 b3 hr
  go_wp2
  go_ret2
  exact ⟨_, gc, rfl, HR.out, B3.out.alloc B3.out.size _⟩
end
end Go.Proofs.YteinppjklhomnaaDoor
