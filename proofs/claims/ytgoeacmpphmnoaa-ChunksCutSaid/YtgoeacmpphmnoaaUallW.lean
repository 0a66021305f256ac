/- works of layer 4. -/
import Derived.Test.YtgoeacmpphmnoaaUallT
import Derived.Test.YtgoeacmpphmnoaaFrame
import Derived.Laws.StructEq
namespace Go.Proofs.Ytgoeacmpphmnoaa
open Go.RowKit Go.ChangeShapes Go.WideShapes
theorem got_stood : Try.prog.stoodInHeld 32 = false := by kernel_rfl
def gotEq (r a l kn : Int) (bd : Bool) (r' a' l' kn' : Int) (bd' : Bool) : Bool := r == r' && (a == a' && (l == l' && (kn == kn' && bd == bd')))
theorem got_eql (r a l kn : Int) (bd : Bool) (r' a' l' kn' : Int) (bd' : Bool) (w : World) : (binOp .eql 32 (.agg #[.int .i32 r, .int .i64 a, .int .i64 l, .int .i64 kn, .bool bd]) (.agg #[.int .i32 r', .int .i64 a', .int .i64 l', .int .i64 kn', .bool bd'])).run Try.prog w = .ok (.bool (gotEq r a l kn bd r' a' l' kn' bd')) w := by
  rw [run_eql_struct, run_equalIn_agg _ _ _ _ _ (by kernel_rfl) got_stood]
  simp only [Program.fieldsOf, Try.underlying32]
  by_cases h1 : r = r' <;> by_cases h2 : a = a' <;> by_cases h3 : l = l' <;> by_cases h4 : kn = kn' <;> simp [Op.eqFields, go_sem, part, h1, h2, h3, h4, gotEq]
  all_goals cases bd <;> cases bd' <;> rfl
set_option maxRecDepth 100000 in
set_option maxHeartbeats 1000000 in
theorem works4_any (w : World) : Calls Try.prog 14 #[] w (Yes w) := by
  have p2 : posN [226, 130, 65] 2 = 3 := by decide
  have t2 : posN [65, 226] 2 = 2 := by decide
  have l2 : partsN [226, 130, 65] 2 = [(65533, 0, 2, 3, true), (65, 2, 1, 3, false)] := by decide
  have s2 : tailG [65, 226] 2 = 1 := by decide
  have hall := all_any _ [226, 130, 65] (w.alloc (.cells [Value.int .u8 226, .int .u8 130, .int .u8 65].toArray 5)) (held_new .u8 w [.int .u8 226, .int .u8 130, .int .u8 65] 5 3 3 [226, 130, 65] rfl rfl) (capOk_of (Nat.le_refl _)) (by decide) (by decide)
  have HALL := Lib.hid hall
  have HP2 := Lib.hid p2
  have HT2 := Lib.hid t2
  have HL2 := Lib.hid l2
  have HS2 := Lib.hid s2
  clear hall p2 t2 l2 s2
  go_enter Try.func14, Try.ntmps14
  go_wp2_with fail
  refine HALL.out.mono ?_
  rintro e w1 ⟨k, v1, rfl, hk, hown, hb⟩
  have hk2 : k = 2 := posN_one _ (hk.trans HP2.out.symm)
  subst hk2
  rw [HL2.out] at hown
  obtain ⟨ao, cap, rfl, hc⟩ := heldG_of_owns hown
  obtain ⟨b, off, rfl, hb1, c0, c1, c2, c3, c4⟩ := hc 0 (by decide)
  obtain ⟨b', off', e', hb', d0, d1, d2, d3, d4⟩ := hc 1 (by decide)
  cases e'
  simp only [Nat.zero_mul, Nat.one_mul, Nat.add_zero, List.getElem_cons_zero, List.getElem_cons_succ] at c0 c1 c2 c3 c4 d0 d1 d2 d3 d4
  have hbb : Below w.heap.size w w1 := ((Below.refl w.heap.size w).alloc (Nat.le_refl _) _).trans (hb.mono (by simp))
  have htl := utail_any _ [65, 226] (w1.alloc (.cells [Value.int .u8 65, .int .u8 226].toArray 5)) (held_new .u8 w1 [.int .u8 65, .int .u8 226] 5 2 2 [65, 226] rfl rfl) (capOk_of (Nat.le_refl _)) (by decide) (by decide)
  have HTL := Lib.hid htl
  have q1 := got_eql
  clear hown hc hk hb HALL htl
  go_wp2_with fail
  refine HTL.out.mono ?_
  rintro e w2 ⟨k, rfl, hk, hb2⟩
  have hk2 : k = 2 := posN_one _ (hk.trans HT2.out.symm)
  subst hk2
  rw [HS2.out]
  have hfin : Below w.heap.size w w2 := (hbb.alloc hbb.size _).trans (hb2.mono (by have := hbb.size; simp; omega))
  clear hk hb2 HTL
  go_wp2
  go_ret
  exact ⟨(ret_eq (by first | rfl | (simp <;> omega))), hfin⟩
end Go.Proofs.Ytgoeacmpphmnoaa
