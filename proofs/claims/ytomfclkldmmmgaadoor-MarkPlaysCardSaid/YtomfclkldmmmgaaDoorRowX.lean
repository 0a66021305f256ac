/- Row.Paint in one word; the reference's Wrong. -/
import Derived.Test.YtomfclkldmmmgaaDoorRowQ
import Derived.Test.YtomfclkldmmmgaaDoorRowR
namespace Go.Proofs.YtomfclkldmmmgaaDoor
open Go.RowKit Go.ChangeShapes Go.WideShapes
def wrongI (n at_ : Int) (p : List Cl) : Int := if at_ < 0 ∨ n < at_ ∨ n - at_ < p.length then 3 else if soundB p = true then 0 else 5
set_option maxRecDepth 100000 in
theorem rwrong_any (Z : Zone) (n at_ : Int) (v : Value) (p : List Cl) (w : World) (hv : HeldE cellE Z w v p) (h0 : 0 ≤ n) (h1 : n ≤ 1000000) : Calls Tryd.prog 25 #[.int .i64 n, .int .i64 at_, v] w (Gives w (.int .i64 (wrongI n at_ p))) := by
  have hm := hv.max
  have HS := Lib.hid (rsound_any _ _ _ _ hv)
  rw [← sound_iff] at HS
  obtain ⟨ao, pc, rfl⟩ := hv.len
  clear hv
  by_cases hA : at_ < 0
  · have HE := Lib.hid (show wrongI n at_ p = 3 by unfold wrongI; rw [if_pos (.inl hA)])
    go_enter Tryd.func25, Tryd.ntmps25
    go_wp2
    go_ret
    exact ⟨ret_eq (by rw [HE.out]; try rfl), Below.refl _ _⟩
  · by_cases hB : n < at_
    · have HE := Lib.hid (show wrongI n at_ p = 3 by unfold wrongI; rw [if_pos (.inr (.inl hB))])
      go_enter Tryd.func25, Tryd.ntmps25
      go_wp2
      go_ret
      exact ⟨ret_eq (by rw [HE.out]; try rfl), Below.refl _ _⟩
    · have hw : IntKind.i64.wrap (n - at_) = n - at_ := by rw [IntKind.wrap_i64]; omega
      by_cases hC : n - at_ < p.length
      · have HE := Lib.hid (show wrongI n at_ p = 3 by unfold wrongI; rw [if_pos (.inr (.inr hC))])
        go_enter Tryd.func25, Tryd.ntmps25
        go_wp2
        go_ret
        exact ⟨ret_eq (by rw [HE.out]; try rfl), Below.refl _ _⟩
      · have HE := Lib.hid (show wrongI n at_ p = if soundB p = true then 0 else 5 by unfold wrongI; rw [if_neg (by omega)])
        generalize soundB p = q at HS HE
        cases q with
        | true =>
          go_enter Tryd.func25, Tryd.ntmps25
          go_wp2_with fail
          refine HS.out.mono ?_
          rintro e w2 ⟨rfl, b2⟩
          go_wp2
          go_ret
          exact ⟨ret_eq (by rw [HE.out]; try rfl), b2⟩
        | false =>
          go_enter Tryd.func25, Tryd.ntmps25
          go_wp2_with fail
          refine HS.out.mono ?_
          rintro e w2 ⟨rfl, b2⟩
          go_wp2
          go_ret
          exact ⟨ret_eq (by rw [HE.out]; try rfl), b2⟩
theorem rpaint_good (Z Y : Zone) (B g gc : Nat) (L p : List Cl) (wrap : Bool) (v : Value) (w : World) (h : RowAt Z w B g gc L wrap) (hv : HeldE cellE Y w v p) (hY : ∀ b, Y b → b ≠ g ∧ b ≠ gc) (hZ : ∀ b, w.heap.size ≤ b → Z b) (a : Nat) (hle : a + p.length ≤ L.length) (hp : soundB p = true) :
    Calls Tryd.prog 71 #[.pointer (some ⟨g, 0, none⟩), .int .i64 a, v] w (PaintOk Z B g gc w (paintL L p a) (wrap && !lastHit L p a)) := by
  cases p with
  | nil =>
    rw [paint_none, lastHit_none, Bool.not_false, Bool.and_true]
    exact rpaint_none Z Y B g gc L wrap v w h hv a (by simpa using hle)
  | cons c p => exact rpaint_ok Z Y B g gc L (c :: p) wrap v w h hv hY hZ a hle hp (by simp)
/-- .. or why not. -/
theorem rpaint_bad (sa : Nat → Addr) (Z Y : Zone) (B g gc : Nat) (L p : List Cl) (wrap : Bool) (at_ : Int) (v : Value) (w : World) (hs : Sents w sa) (h : RowAt Z w B g gc L wrap) (hv : HeldE cellE Y w v p) (hbad : wrongI L.length at_ p ≠ 0) :
    ∃ m : Nat, m < 8 ∧ wrongI L.length at_ p = (m : Int) + 1 ∧ Calls Tryd.prog 71 #[.pointer (some ⟨g, 0, none⟩), .int .i64 at_, v] w (Gives w (.iface 171 (.pointer (some (sa m))))) := by
  unfold wrongI at hbad ⊢
  split
  · rename_i h1
    exact ⟨2, by decide, rfl, rpaint_range sa Z Y B g gc L p wrap at_ v w hs h hv h1⟩
  · rename_i h1
    rw [if_neg h1] at hbad
    cases hq : soundB p with
    | true => rw [hq] at hbad; exact absurd rfl hbad
    | false =>
      obtain ⟨a, rfl⟩ := Int.eq_ofNat_of_zero_le (show 0 ≤ at_ by omega)
      exact ⟨4, by decide, rfl, rpaint_kind sa Z Y B g gc L p wrap v w hs h hv a (by omega) hq⟩
theorem wrong_good {n : Nat} {at_ : Int} {p : List Cl} (h : wrongI n at_ p = 0) : ∃ a : Nat, at_ = a ∧ a + p.length ≤ n ∧ soundB p = true := by
  unfold wrongI at h
  split at h
  · cases h
  · rename_i h1
    split at h
    · rename_i h2
      obtain ⟨a, rfl⟩ := Int.eq_ofNat_of_zero_le (show 0 ≤ at_ by omega)
      exact ⟨a, rfl, by omega, h2⟩
    · cases h
end Go.Proofs.YtomfclkldmmmgaaDoor
