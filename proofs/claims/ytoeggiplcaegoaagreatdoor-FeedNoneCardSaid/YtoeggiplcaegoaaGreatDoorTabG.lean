/- What the program's tables tell of any number: its class, its use in a conjunct, its width in the east. -/
import Derived.Test.YtoeggiplcaegoaaGreatDoorMg3
import Derived.Test.YtoeggiplcaegoaaGreatDoorHgC
namespace Go.Proofs.YtoeggiplcaegoaaGreatDoor
open Go.RowKit Go.ChangeShapes Go.WideShapes
theorem tabB {w0 w1 w2 w3 : World} {o : Obj} (h : Below w0.heap.size w0 w1) (b : Below w1.heap.size w1 w2) (c : Below (w2.alloc o).heap.size (w2.alloc o) w3) : Below w0.heap.size w0 w3 := by
  have h2 := h.trans (b.mono h.size)
  exact (h2.alloc h2.size o).trans (c.mono (by have := h2.size; simp; omega))
def listedI (r : Int) : Int := if inTab tControl r = true then 3 else if inTab tExtend r = true then 4 else if inTab tSpacing r = true then 8 else if inTab tPrepend r = true then 7 else 0
def gcbI (r : Int) : Int := if r = 13 then 1 else if r = 10 then 2 else if r = 8205 then 5 else if 127462 ≤ r ∧ r ≤ 127487 then 6 else if listedI r = 0 then classI r else listedI r
def conjO (r : Int) : Int := if inTab tCons r = true then 1 else if inTab tLink r = true then 2 else if inTab tJoin r = true then 3 else 0
def eastI (r : Int) : Int := if inTab tWide r = true then 1 else if inTab tFull r = true then 2 else if inTab tHalf r = true then 3 else 0
set_option maxRecDepth 100000 in
set_option maxHeartbeats 1000000 in
theorem listed_any (r : Int) (w : World) : Calls Tryz.prog 239 #[.int .i32 r] w (Gives w (.int .i64 (listedI r))) := by
  have hstControl := storesT Tryz.prog 329 tControl #[Value.int .i32 0, Value.int .i32 0, Value.int .i32 0, Value.int .i32 0, Value.int .i32 0, Value.int .i32 0, Value.int .i32 0, Value.int .i32 0, Value.int .i32 0, Value.int .i32 0, Value.int .i32 0, Value.int .i32 0, Value.int .i32 0, Value.int .i32 0, Value.int .i32 0, Value.int .i32 0, Value.int .i32 0, Value.int .i32 0, Value.int .i32 0, Value.int .i32 0, Value.int .i32 0, Value.int .i32 0, Value.int .i32 0, Value.int .i32 0, Value.int .i32 0, Value.int .i32 0, Value.int .i32 0, Value.int .i32 0, Value.int .i32 0, Value.int .i32 0, Value.int .i32 0, Value.int .i32 0] 16 (by kernel_rfl) (by kernel_rfl) tControl_len
  have hstExtend := storesT Tryz.prog 331 tExtend Tryz.zeroCells331 77 (by kernel_rfl) (by kernel_rfl) tExtend_len
  have hstSpacing := storesT Tryz.prog 297 tSpacing #[Value.int .i32 0, Value.int .i32 0, Value.int .i32 0, Value.int .i32 0, Value.int .i32 0, Value.int .i32 0, Value.int .i32 0, Value.int .i32 0, Value.int .i32 0, Value.int .i32 0, Value.int .i32 0, Value.int .i32 0, Value.int .i32 0, Value.int .i32 0, Value.int .i32 0, Value.int .i32 0, Value.int .i32 0, Value.int .i32 0, Value.int .i32 0, Value.int .i32 0, Value.int .i32 0, Value.int .i32 0, Value.int .i32 0, Value.int .i32 0, Value.int .i32 0, Value.int .i32 0, Value.int .i32 0, Value.int .i32 0, Value.int .i32 0, Value.int .i32 0, Value.int .i32 0, Value.int .i32 0, Value.int .i32 0, Value.int .i32 0, Value.int .i32 0, Value.int .i32 0, Value.int .i32 0, Value.int .i32 0, Value.int .i32 0, Value.int .i32 0, Value.int .i32 0, Value.int .i32 0, Value.int .i32 0, Value.int .i32 0, Value.int .i32 0, Value.int .i32 0, Value.int .i32 0, Value.int .i32 0, Value.int .i32 0, Value.int .i32 0, Value.int .i32 0, Value.int .i32 0] 26 (by kernel_rfl) (by kernel_rfl) tSpacing_len
  have hstPrepend := storesT Tryz.prog 333 tPrepend #[Value.int .i32 0, Value.int .i32 0, Value.int .i32 0, Value.int .i32 0, Value.int .i32 0, Value.int .i32 0, Value.int .i32 0, Value.int .i32 0, Value.int .i32 0, Value.int .i32 0, Value.int .i32 0, Value.int .i32 0, Value.int .i32 0, Value.int .i32 0, Value.int .i32 0, Value.int .i32 0] 8 (by kernel_rfl) (by kernel_rfl) tPrepend_len
  cases q0 : inTab tControl r with
  | true =>
    have hv : listedI r = 3 := by unfold listedI; simp [q0]
    have HV := Lib.hid hv
    clear hv
    go_enter Tryz.func239, Tryz.ntmps239
    go_wp2_with fail
    refine (controls_any _).mono ?_
    rintro e w01 ⟨rfl, b01⟩
    go_wp2_with fail
    refine (has_any _ tControl r _ (heldT_new tControl_len) tControl_up (by rw [tControl_len]; decide)).mono ?_
    rintro e w02 ⟨rfl, b02⟩
    have hb0 := tabB (Below.refl _ _) b01 b02
    clear b01 b02
    go_wp2
    go_ret
    exact ⟨ret_eq (by rw [HV.out]; rfl), hb0⟩
  | false =>
    cases q1 : inTab tExtend r with
    | true =>
      have hv : listedI r = 4 := by unfold listedI; simp [q0, q1]
      have HV := Lib.hid hv
      clear hv
      go_enter Tryz.func239, Tryz.ntmps239
      go_wp2_with fail
      refine (controls_any _).mono ?_
      rintro e w01 ⟨rfl, b01⟩
      go_wp2_with fail
      refine (has_any _ tControl r _ (heldT_new tControl_len) tControl_up (by rw [tControl_len]; decide)).mono ?_
      rintro e w02 ⟨rfl, b02⟩
      have hb0 := tabB (Below.refl _ _) b01 b02
      clear b01 b02
      go_wp2_with fail
      refine (extends_any _).mono ?_
      rintro e w11 ⟨rfl, b11⟩
      go_wp2_with fail
      refine (has_any _ tExtend r _ (heldT_new tExtend_len) tExtend_up (by rw [tExtend_len]; decide)).mono ?_
      rintro e w12 ⟨rfl, b12⟩
      have hb1 := tabB hb0 b11 b12
      clear b11 b12
      go_wp2
      go_ret
      exact ⟨ret_eq (by rw [HV.out]; rfl), hb1⟩
    | false =>
      cases q2 : inTab tSpacing r with
      | true =>
        have hv : listedI r = 8 := by unfold listedI; simp [q0, q1, q2]
        have HV := Lib.hid hv
        clear hv
        go_enter Tryz.func239, Tryz.ntmps239
        go_wp2_with fail
        refine (controls_any _).mono ?_
        rintro e w01 ⟨rfl, b01⟩
        go_wp2_with fail
        refine (has_any _ tControl r _ (heldT_new tControl_len) tControl_up (by rw [tControl_len]; decide)).mono ?_
        rintro e w02 ⟨rfl, b02⟩
        have hb0 := tabB (Below.refl _ _) b01 b02
        clear b01 b02
        go_wp2_with fail
        refine (extends_any _).mono ?_
        rintro e w11 ⟨rfl, b11⟩
        go_wp2_with fail
        refine (has_any _ tExtend r _ (heldT_new tExtend_len) tExtend_up (by rw [tExtend_len]; decide)).mono ?_
        rintro e w12 ⟨rfl, b12⟩
        have hb1 := tabB hb0 b11 b12
        clear b11 b12
        go_wp2_with fail
        refine (spacings_any _).mono ?_
        rintro e w21 ⟨rfl, b21⟩
        go_wp2_with fail
        refine (has_any _ tSpacing r _ (heldT_new tSpacing_len) tSpacing_up (by rw [tSpacing_len]; decide)).mono ?_
        rintro e w22 ⟨rfl, b22⟩
        have hb2 := tabB hb1 b21 b22
        clear b21 b22
        go_wp2
        go_ret
        exact ⟨ret_eq (by rw [HV.out]; rfl), hb2⟩
      | false =>
        cases q3 : inTab tPrepend r with
        | true =>
          have hv : listedI r = 7 := by unfold listedI; simp [q0, q1, q2, q3]
          have HV := Lib.hid hv
          clear hv
          go_enter Tryz.func239, Tryz.ntmps239
          go_wp2_with fail
          refine (controls_any _).mono ?_
          rintro e w01 ⟨rfl, b01⟩
          go_wp2_with fail
          refine (has_any _ tControl r _ (heldT_new tControl_len) tControl_up (by rw [tControl_len]; decide)).mono ?_
          rintro e w02 ⟨rfl, b02⟩
          have hb0 := tabB (Below.refl _ _) b01 b02
          clear b01 b02
          go_wp2_with fail
          refine (extends_any _).mono ?_
          rintro e w11 ⟨rfl, b11⟩
          go_wp2_with fail
          refine (has_any _ tExtend r _ (heldT_new tExtend_len) tExtend_up (by rw [tExtend_len]; decide)).mono ?_
          rintro e w12 ⟨rfl, b12⟩
          have hb1 := tabB hb0 b11 b12
          clear b11 b12
          go_wp2_with fail
          refine (spacings_any _).mono ?_
          rintro e w21 ⟨rfl, b21⟩
          go_wp2_with fail
          refine (has_any _ tSpacing r _ (heldT_new tSpacing_len) tSpacing_up (by rw [tSpacing_len]; decide)).mono ?_
          rintro e w22 ⟨rfl, b22⟩
          have hb2 := tabB hb1 b21 b22
          clear b21 b22
          go_wp2_with fail
          refine (prepends_any _).mono ?_
          rintro e w31 ⟨rfl, b31⟩
          go_wp2_with fail
          refine (has_any _ tPrepend r _ (heldT_new tPrepend_len) tPrepend_up (by rw [tPrepend_len]; decide)).mono ?_
          rintro e w32 ⟨rfl, b32⟩
          have hb3 := tabB hb2 b31 b32
          clear b31 b32
          go_wp2
          go_ret
          exact ⟨ret_eq (by rw [HV.out]; rfl), hb3⟩
        | false =>
          have hv : listedI r = 0 := by unfold listedI; simp [q0, q1, q2, q3]
          have HV := Lib.hid hv
          clear hv
          go_enter Tryz.func239, Tryz.ntmps239
          go_wp2_with fail
          refine (controls_any _).mono ?_
          rintro e w01 ⟨rfl, b01⟩
          go_wp2_with fail
          refine (has_any _ tControl r _ (heldT_new tControl_len) tControl_up (by rw [tControl_len]; decide)).mono ?_
          rintro e w02 ⟨rfl, b02⟩
          have hb0 := tabB (Below.refl _ _) b01 b02
          clear b01 b02
          go_wp2_with fail
          refine (extends_any _).mono ?_
          rintro e w11 ⟨rfl, b11⟩
          go_wp2_with fail
          refine (has_any _ tExtend r _ (heldT_new tExtend_len) tExtend_up (by rw [tExtend_len]; decide)).mono ?_
          rintro e w12 ⟨rfl, b12⟩
          have hb1 := tabB hb0 b11 b12
          clear b11 b12
          go_wp2_with fail
          refine (spacings_any _).mono ?_
          rintro e w21 ⟨rfl, b21⟩
          go_wp2_with fail
          refine (has_any _ tSpacing r _ (heldT_new tSpacing_len) tSpacing_up (by rw [tSpacing_len]; decide)).mono ?_
          rintro e w22 ⟨rfl, b22⟩
          have hb2 := tabB hb1 b21 b22
          clear b21 b22
          go_wp2_with fail
          refine (prepends_any _).mono ?_
          rintro e w31 ⟨rfl, b31⟩
          go_wp2_with fail
          refine (has_any _ tPrepend r _ (heldT_new tPrepend_len) tPrepend_up (by rw [tPrepend_len]; decide)).mono ?_
          rintro e w32 ⟨rfl, b32⟩
          have hb3 := tabB hb2 b31 b32
          clear b31 b32
          go_wp2
          go_ret
          exact ⟨ret_eq (by rw [HV.out]; rfl), hb3⟩
set_option maxRecDepth 100000 in
set_option maxHeartbeats 1000000 in
theorem cnj_any (r : Int) (w : World) : Calls Tryz.prog 199 #[.int .i32 r] w (Gives w (.int .i64 (conjO r))) := by
  have hstCons := storesT Tryz.prog 297 tCons #[Value.int .i32 0, Value.int .i32 0, Value.int .i32 0, Value.int .i32 0, Value.int .i32 0, Value.int .i32 0, Value.int .i32 0, Value.int .i32 0, Value.int .i32 0, Value.int .i32 0, Value.int .i32 0, Value.int .i32 0, Value.int .i32 0, Value.int .i32 0, Value.int .i32 0, Value.int .i32 0, Value.int .i32 0, Value.int .i32 0, Value.int .i32 0, Value.int .i32 0, Value.int .i32 0, Value.int .i32 0, Value.int .i32 0, Value.int .i32 0, Value.int .i32 0, Value.int .i32 0, Value.int .i32 0, Value.int .i32 0, Value.int .i32 0, Value.int .i32 0, Value.int .i32 0, Value.int .i32 0, Value.int .i32 0, Value.int .i32 0, Value.int .i32 0, Value.int .i32 0, Value.int .i32 0, Value.int .i32 0, Value.int .i32 0, Value.int .i32 0, Value.int .i32 0, Value.int .i32 0, Value.int .i32 0, Value.int .i32 0, Value.int .i32 0, Value.int .i32 0, Value.int .i32 0, Value.int .i32 0, Value.int .i32 0, Value.int .i32 0, Value.int .i32 0, Value.int .i32 0] 26 (by kernel_rfl) (by kernel_rfl) tCons_len
  have hstLink := storesT Tryz.prog 299 tLink #[Value.int .i32 0, Value.int .i32 0, Value.int .i32 0, Value.int .i32 0, Value.int .i32 0, Value.int .i32 0, Value.int .i32 0, Value.int .i32 0, Value.int .i32 0, Value.int .i32 0, Value.int .i32 0, Value.int .i32 0] 6 (by kernel_rfl) (by kernel_rfl) tLink_len
  have hstJoin := storesT Tryz.prog 301 tJoin #[Value.int .i32 0, Value.int .i32 0, Value.int .i32 0, Value.int .i32 0, Value.int .i32 0, Value.int .i32 0, Value.int .i32 0, Value.int .i32 0, Value.int .i32 0, Value.int .i32 0, Value.int .i32 0, Value.int .i32 0, Value.int .i32 0, Value.int .i32 0, Value.int .i32 0, Value.int .i32 0, Value.int .i32 0, Value.int .i32 0, Value.int .i32 0, Value.int .i32 0, Value.int .i32 0, Value.int .i32 0, Value.int .i32 0, Value.int .i32 0, Value.int .i32 0, Value.int .i32 0, Value.int .i32 0, Value.int .i32 0, Value.int .i32 0, Value.int .i32 0, Value.int .i32 0, Value.int .i32 0, Value.int .i32 0, Value.int .i32 0, Value.int .i32 0, Value.int .i32 0] 18 (by kernel_rfl) (by kernel_rfl) tJoin_len
  cases q0 : inTab tCons r with
  | true =>
    have hv : conjO r = 1 := by unfold conjO; simp [q0]
    have HV := Lib.hid hv
    clear hv
    go_enter Tryz.func199, Tryz.ntmps199
    go_wp2_with fail
    refine (consonants_any _).mono ?_
    rintro e w01 ⟨rfl, b01⟩
    go_wp2_with fail
    refine (has_any _ tCons r _ (heldT_new tCons_len) tCons_up (by rw [tCons_len]; decide)).mono ?_
    rintro e w02 ⟨rfl, b02⟩
    have hb0 := tabB (Below.refl _ _) b01 b02
    clear b01 b02
    go_wp2
    go_ret
    exact ⟨ret_eq (by rw [HV.out]; rfl), hb0⟩
  | false =>
    cases q1 : inTab tLink r with
    | true =>
      have hv : conjO r = 2 := by unfold conjO; simp [q0, q1]
      have HV := Lib.hid hv
      clear hv
      go_enter Tryz.func199, Tryz.ntmps199
      go_wp2_with fail
      refine (consonants_any _).mono ?_
      rintro e w01 ⟨rfl, b01⟩
      go_wp2_with fail
      refine (has_any _ tCons r _ (heldT_new tCons_len) tCons_up (by rw [tCons_len]; decide)).mono ?_
      rintro e w02 ⟨rfl, b02⟩
      have hb0 := tabB (Below.refl _ _) b01 b02
      clear b01 b02
      go_wp2_with fail
      refine (linkers_any _).mono ?_
      rintro e w11 ⟨rfl, b11⟩
      go_wp2_with fail
      refine (has_any _ tLink r _ (heldT_new tLink_len) tLink_up (by rw [tLink_len]; decide)).mono ?_
      rintro e w12 ⟨rfl, b12⟩
      have hb1 := tabB hb0 b11 b12
      clear b11 b12
      go_wp2
      go_ret
      exact ⟨ret_eq (by rw [HV.out]; rfl), hb1⟩
    | false =>
      cases q2 : inTab tJoin r with
      | true =>
        have hv : conjO r = 3 := by unfold conjO; simp [q0, q1, q2]
        have HV := Lib.hid hv
        clear hv
        go_enter Tryz.func199, Tryz.ntmps199
        go_wp2_with fail
        refine (consonants_any _).mono ?_
        rintro e w01 ⟨rfl, b01⟩
        go_wp2_with fail
        refine (has_any _ tCons r _ (heldT_new tCons_len) tCons_up (by rw [tCons_len]; decide)).mono ?_
        rintro e w02 ⟨rfl, b02⟩
        have hb0 := tabB (Below.refl _ _) b01 b02
        clear b01 b02
        go_wp2_with fail
        refine (linkers_any _).mono ?_
        rintro e w11 ⟨rfl, b11⟩
        go_wp2_with fail
        refine (has_any _ tLink r _ (heldT_new tLink_len) tLink_up (by rw [tLink_len]; decide)).mono ?_
        rintro e w12 ⟨rfl, b12⟩
        have hb1 := tabB hb0 b11 b12
        clear b11 b12
        go_wp2_with fail
        refine (joiners_any _).mono ?_
        rintro e w21 ⟨rfl, b21⟩
        go_wp2_with fail
        refine (has_any _ tJoin r _ (heldT_new tJoin_len) tJoin_up (by rw [tJoin_len]; decide)).mono ?_
        rintro e w22 ⟨rfl, b22⟩
        have hb2 := tabB hb1 b21 b22
        clear b21 b22
        go_wp2
        go_ret
        exact ⟨ret_eq (by rw [HV.out]; rfl), hb2⟩
      | false =>
        have hv : conjO r = 0 := by unfold conjO; simp [q0, q1, q2]
        have HV := Lib.hid hv
        clear hv
        go_enter Tryz.func199, Tryz.ntmps199
        go_wp2_with fail
        refine (consonants_any _).mono ?_
        rintro e w01 ⟨rfl, b01⟩
        go_wp2_with fail
        refine (has_any _ tCons r _ (heldT_new tCons_len) tCons_up (by rw [tCons_len]; decide)).mono ?_
        rintro e w02 ⟨rfl, b02⟩
        have hb0 := tabB (Below.refl _ _) b01 b02
        clear b01 b02
        go_wp2_with fail
        refine (linkers_any _).mono ?_
        rintro e w11 ⟨rfl, b11⟩
        go_wp2_with fail
        refine (has_any _ tLink r _ (heldT_new tLink_len) tLink_up (by rw [tLink_len]; decide)).mono ?_
        rintro e w12 ⟨rfl, b12⟩
        have hb1 := tabB hb0 b11 b12
        clear b11 b12
        go_wp2_with fail
        refine (joiners_any _).mono ?_
        rintro e w21 ⟨rfl, b21⟩
        go_wp2_with fail
        refine (has_any _ tJoin r _ (heldT_new tJoin_len) tJoin_up (by rw [tJoin_len]; decide)).mono ?_
        rintro e w22 ⟨rfl, b22⟩
        have hb2 := tabB hb1 b21 b22
        clear b21 b22
        go_wp2
        go_ret
        exact ⟨ret_eq (by rw [HV.out]; rfl), hb2⟩
set_option maxRecDepth 100000 in
set_option maxHeartbeats 1000000 in
theorem east_any (r : Int) (w : World) : Calls Tryz.prog 200 #[.int .i32 r] w (Gives w (.int .i64 (eastI r))) := by
  have hstWide := storesT Tryz.prog 303 tWide Tryz.zeroCells303 109 (by kernel_rfl) (by kernel_rfl) tWide_len
  have hstFull := storesT Tryz.prog 305 tFull #[Value.int .i32 0, Value.int .i32 0, Value.int .i32 0, Value.int .i32 0, Value.int .i32 0, Value.int .i32 0] 3 (by kernel_rfl) (by kernel_rfl) tFull_len
  have hstHalf := storesT Tryz.prog 307 tHalf #[Value.int .i32 0, Value.int .i32 0, Value.int .i32 0, Value.int .i32 0, Value.int .i32 0, Value.int .i32 0, Value.int .i32 0, Value.int .i32 0, Value.int .i32 0, Value.int .i32 0, Value.int .i32 0, Value.int .i32 0, Value.int .i32 0, Value.int .i32 0] 7 (by kernel_rfl) (by kernel_rfl) tHalf_len
  cases q0 : inTab tWide r with
  | true =>
    have hv : eastI r = 1 := by unfold eastI; simp [q0]
    have HV := Lib.hid hv
    clear hv
    go_enter Tryz.func200, Tryz.ntmps200
    go_wp2_with fail
    refine (wides_any _).mono ?_
    rintro e w01 ⟨rfl, b01⟩
    go_wp2_with fail
    refine (has_any _ tWide r _ (heldT_new tWide_len) tWide_up (by rw [tWide_len]; decide)).mono ?_
    rintro e w02 ⟨rfl, b02⟩
    have hb0 := tabB (Below.refl _ _) b01 b02
    clear b01 b02
    go_wp2
    go_ret
    exact ⟨ret_eq (by rw [HV.out]; rfl), hb0⟩
  | false =>
    cases q1 : inTab tFull r with
    | true =>
      have hv : eastI r = 2 := by unfold eastI; simp [q0, q1]
      have HV := Lib.hid hv
      clear hv
      go_enter Tryz.func200, Tryz.ntmps200
      go_wp2_with fail
      refine (wides_any _).mono ?_
      rintro e w01 ⟨rfl, b01⟩
      go_wp2_with fail
      refine (has_any _ tWide r _ (heldT_new tWide_len) tWide_up (by rw [tWide_len]; decide)).mono ?_
      rintro e w02 ⟨rfl, b02⟩
      have hb0 := tabB (Below.refl _ _) b01 b02
      clear b01 b02
      go_wp2_with fail
      refine (fulls_any _).mono ?_
      rintro e w11 ⟨rfl, b11⟩
      go_wp2_with fail
      refine (has_any _ tFull r _ (heldT_new tFull_len) tFull_up (by rw [tFull_len]; decide)).mono ?_
      rintro e w12 ⟨rfl, b12⟩
      have hb1 := tabB hb0 b11 b12
      clear b11 b12
      go_wp2
      go_ret
      exact ⟨ret_eq (by rw [HV.out]; rfl), hb1⟩
    | false =>
      cases q2 : inTab tHalf r with
      | true =>
        have hv : eastI r = 3 := by unfold eastI; simp [q0, q1, q2]
        have HV := Lib.hid hv
        clear hv
        go_enter Tryz.func200, Tryz.ntmps200
        go_wp2_with fail
        refine (wides_any _).mono ?_
        rintro e w01 ⟨rfl, b01⟩
        go_wp2_with fail
        refine (has_any _ tWide r _ (heldT_new tWide_len) tWide_up (by rw [tWide_len]; decide)).mono ?_
        rintro e w02 ⟨rfl, b02⟩
        have hb0 := tabB (Below.refl _ _) b01 b02
        clear b01 b02
        go_wp2_with fail
        refine (fulls_any _).mono ?_
        rintro e w11 ⟨rfl, b11⟩
        go_wp2_with fail
        refine (has_any _ tFull r _ (heldT_new tFull_len) tFull_up (by rw [tFull_len]; decide)).mono ?_
        rintro e w12 ⟨rfl, b12⟩
        have hb1 := tabB hb0 b11 b12
        clear b11 b12
        go_wp2_with fail
        refine (halves_any _).mono ?_
        rintro e w21 ⟨rfl, b21⟩
        go_wp2_with fail
        refine (has_any _ tHalf r _ (heldT_new tHalf_len) tHalf_up (by rw [tHalf_len]; decide)).mono ?_
        rintro e w22 ⟨rfl, b22⟩
        have hb2 := tabB hb1 b21 b22
        clear b21 b22
        go_wp2
        go_ret
        exact ⟨ret_eq (by rw [HV.out]; rfl), hb2⟩
      | false =>
        have hv : eastI r = 0 := by unfold eastI; simp [q0, q1, q2]
        have HV := Lib.hid hv
        clear hv
        go_enter Tryz.func200, Tryz.ntmps200
        go_wp2_with fail
        refine (wides_any _).mono ?_
        rintro e w01 ⟨rfl, b01⟩
        go_wp2_with fail
        refine (has_any _ tWide r _ (heldT_new tWide_len) tWide_up (by rw [tWide_len]; decide)).mono ?_
        rintro e w02 ⟨rfl, b02⟩
        have hb0 := tabB (Below.refl _ _) b01 b02
        clear b01 b02
        go_wp2_with fail
        refine (fulls_any _).mono ?_
        rintro e w11 ⟨rfl, b11⟩
        go_wp2_with fail
        refine (has_any _ tFull r _ (heldT_new tFull_len) tFull_up (by rw [tFull_len]; decide)).mono ?_
        rintro e w12 ⟨rfl, b12⟩
        have hb1 := tabB hb0 b11 b12
        clear b11 b12
        go_wp2_with fail
        refine (halves_any _).mono ?_
        rintro e w21 ⟨rfl, b21⟩
        go_wp2_with fail
        refine (has_any _ tHalf r _ (heldT_new tHalf_len) tHalf_up (by rw [tHalf_len]; decide)).mono ?_
        rintro e w22 ⟨rfl, b22⟩
        have hb2 := tabB hb1 b21 b22
        clear b21 b22
        go_wp2
        go_ret
        exact ⟨ret_eq (by rw [HV.out]; rfl), hb2⟩
set_option maxRecDepth 100000 in
theorem gcb_any (r : Int) (w : World) : Calls Tryz.prog 197 #[.int .i32 r] w (Gives w (.int .i64 (gcbI r))) := by
  by_cases h1 : r = 13
  · subst h1
    go_enter Tryz.func197, Tryz.ntmps197
    go_wp2
    go_ret
    exact ⟨ret_eq (by first | rfl | decide +kernel), Below.refl _ _⟩
  by_cases h2 : r = 10
  · subst h2
    go_enter Tryz.func197, Tryz.ntmps197
    go_wp2
    go_ret
    exact ⟨ret_eq (by first | rfl | decide +kernel), Below.refl _ _⟩
  by_cases h3 : r = 8205
  · subst h3
    go_enter Tryz.func197, Tryz.ntmps197
    go_wp2
    go_ret
    exact ⟨ret_eq (by first | rfl | decide +kernel), Below.refl _ _⟩
  have d1 : (r == 13) = false := by simpa using h1
  have d2 : (r == 10) = false := by simpa using h2
  have d3 : (r == 8205) = false := by simpa using h3
  by_cases h4 : 127462 ≤ r
  · have d4 : decide (127462 ≤ r) = true := decide_eq_true h4
    by_cases h5 : r ≤ 127487
    · have d5 : decide (r ≤ 127487) = true := decide_eq_true h5
      have hv : gcbI r = 6 := by unfold gcbI; rw [if_neg h1, if_neg h2, if_neg h3, if_pos ⟨h4, h5⟩]
      have HV := Lib.hid hv
      clear hv h1 h2 h3
      go_enter Tryz.func197, Tryz.ntmps197
      go_wp2
      go_ret
      exact ⟨ret_eq (by rw [HV.out]; rfl), Below.refl _ _⟩
    · have d5 : decide (r ≤ 127487) = false := decide_eq_false h5
      have hv : gcbI r = if listedI r = 0 then classI r else listedI r := by unfold gcbI; rw [if_neg h1, if_neg h2, if_neg h3, if_neg (by omega)]
      have HV := Lib.hid hv
      clear hv h1 h2 h3
      by_cases h6 : listedI r = 0
      · rw [if_pos h6] at HV
        go_enter Tryz.func197, Tryz.ntmps197
        go_wp2_with fail
        refine (listed_any r _).mono ?_
        rintro e w1 ⟨rfl, b1⟩
        rw [h6]
        go_wp2_with fail
        refine (class_any r _).mono ?_
        rintro e w' ⟨rfl, rfl⟩
        go_wp2
        go_ret
        exact ⟨ret_eq (by rw [HV.out]; rfl), b1⟩
      · rw [if_neg h6] at HV
        have d6 : (listedI r == 0) = false := by simpa using h6
        go_enter Tryz.func197, Tryz.ntmps197
        go_wp2_with fail
        refine (listed_any r _).mono ?_
        rintro e w1 ⟨rfl, b1⟩
        generalize listedI r = c at *
        go_wp2
        go_ret
        exact ⟨ret_eq (by rw [HV.out]; rfl), b1⟩
  · have d4 : decide (127462 ≤ r) = false := decide_eq_false h4
    have hv : gcbI r = if listedI r = 0 then classI r else listedI r := by unfold gcbI; rw [if_neg h1, if_neg h2, if_neg h3, if_neg (by omega)]
    have HV := Lib.hid hv
    clear hv h1 h2 h3
    by_cases h6 : listedI r = 0
    · rw [if_pos h6] at HV
      go_enter Tryz.func197, Tryz.ntmps197
      go_wp2_with fail
      refine (listed_any r _).mono ?_
      rintro e w1 ⟨rfl, b1⟩
      rw [h6]
      go_wp2_with fail
      refine (class_any r _).mono ?_
      rintro e w' ⟨rfl, rfl⟩
      go_wp2
      go_ret
      exact ⟨ret_eq (by rw [HV.out]; rfl), b1⟩
    · rw [if_neg h6] at HV
      have d6 : (listedI r == 0) = false := by simpa using h6
      go_enter Tryz.func197, Tryz.ntmps197
      go_wp2_with fail
      refine (listed_any r _).mono ?_
      rintro e w1 ⟨rfl, b1⟩
      generalize listedI r = c at *
      go_wp2
      go_ret
      exact ⟨ret_eq (by rw [HV.out]; rfl), b1⟩
end Go.Proofs.YtoeggiplcaegoaaGreatDoor
