/- BasewTells (18.1 to 18.3) answers true at every property and every number, and turns nothing. No conditions. -/
import Derived.Test.YthagaoakeniikaaBasewW
import Derived.Test.YthagaoakeniikaaFrame
import Derived.Test.YthagaoakeniikaaRows
import Derived.Test.YthagaoakeniikaaGrow
import Derived.ProofKit
import Derived.Lib.SmallJoins
import Derived.Deep.Slices
namespace Go.Proofs.Ythagaoakeniikaa.lawBasewTells
open Go.ChangeShapes Go.WideShapes Go.ChangeAt Go.RowKit
open Go.Joins Go.Deep
theorem cells_prop : Try.prog.cellsOf 26 = 4 := by kernel_rfl
theorem pbox (w : World) (a : Int) (b : Bool) (c d : Int) : ∃ W, W = w.alloc (.cells #[Value.int .i64 a, .bool b, .int .i64 c, .int .i64 d] 26) ∧ Has W w.heap.size [Value.int .i64 a, .bool b, .int .i64 c, .int .i64 d] 26 ∧ Below w.heap.size w W :=
  ⟨_, rfl, Has.new w _ _, (Below.refl _ _).alloc (Nat.le_refl _) _⟩
theorem rune_val (r n : Int) (h : runeW r = n) (w : World) : Calls Try.prog 34 #[.int .i32 r] w (Gives w (.int .i64 n)) := h ▸ brune_any r w
theorem rrune_val (r n : Int) (h : runeW r = n) (r0 : -2147483648 ≤ r) (r1 : r ≤ 2147483647) (w : World) : Calls Try.prog 35 #[.int .i32 r] w (Gives w (.int .i64 n)) := h ▸ rbrune_any r w r0 r1
theorem sil_val (r : Int) (n : Bool) (h : silB r = n) (w : World) : Calls Try.prog 36 #[.int .i32 r] w (Gives w (.bool n)) := h ▸ bsil_any r w
theorem rsil_val (r : Int) (n : Bool) (h : silB r = n) (w : World) : Calls Try.prog 37 #[.int .i32 r] w (Gives w (.bool n)) := h ▸ rbsil_any r w
set_option maxRecDepth 100000 in
set_option maxHeartbeats 2000000 in
theorem walkV (w : World) (a : Int) (b : Bool) (c d r : Int) (r0 : -2147483648 ≤ r) (r1 : r ≤ 2147483647) : Calls Try.prog 9 #[.agg #[.int .i64 a, .bool b, .int .i64 c, .int .i64 d], .int .i32 r] w (Yes w) := by
  obtain ⟨x, hx⟩ : ∃ x, x = basewI a d := ⟨_, rfl⟩
  have HO := Lib.hid (fun w => hx ▸ bof_any a b c d w : ∀ w, Calls Try.prog 32 #[.agg #[.int .i64 a, .bool b, .int .i64 c, .int .i64 d]] w (Gives w (.int .i64 x)))
  have HR := Lib.hid (fun w => hx ▸ rbof_any a b c d w : ∀ w, Calls Try.prog 33 #[.agg #[.int .i64 a, .bool b, .int .i64 c, .int .i64 d]] w (Gives w (.int .i64 x)))
  clear hx
  obtain ⟨n, hn, hk⟩ : ∃ n, runeW r = n ∧ (silB r = true ∧ n = 0 ∨ silB r = false) := by
    cases h : silB r with
    | true => exact ⟨0, silent_zero h, .inl ⟨rfl, rfl⟩⟩
    | false => exact ⟨_, rfl, .inr rfl⟩
  have HN := Lib.hid hn
  clear hn
  rcases hk with ⟨hs, rfl⟩ | hs
  all_goals
    have HS := Lib.hid hs
    clear hs
    go_enter Try.func9, Try.ntmps9
    go_wp2_with fail
    obtain ⟨W, hW, hb, hl⟩ := pbox w a b c d
    rw [← hW]
    have HL := Lib.hid hl
    have e0 := ext_cell (hb.cell 0 _ rfl)
    have e1 := ext_cell (hb.cell 1 _ rfl)
    have e2 := ext_cell (hb.cell 2 _ rfl)
    have e3 := ext_cell (hb.cell 3 _ rfl)
    clear hb hl hW
    refine wp_region_ext (by kernel_rfl) (by kernel_rfl) ?_
    repeat (go_big_quiet_step ((first | (go_at_call 38; exact callx (works18_any _)) | (go_at_call 32; exact callx (HO.out _)) | (go_at_call 33; exact callx (HR.out _)) | (go_at_call 34; exact callx (rune_val r _ HN.out _)) | (go_at_call 35; exact callx (rrune_val r _ HN.out r0 r1 _)) | (go_at_call 36; exact callx (sil_val r _ HS.out _)) | (go_at_call 37; exact callx (rsil_val r _ HS.out _)))))
    refine wpQuiet_nil ?_
    intro _ hw'
    obtain ⟨u, hw''⟩ := hw'
    subst hw''
    have hfin : Below w.heap.size w (ext W u) := ext_below HL.out u
    go_wp2
    go_ret
    exact ⟨(ret_eq (by first | rfl | (simp <;> omega))), hfin⟩
set_option maxRecDepth 100000 in
theorem open_prop {H : Type} {enc : TypeId × Value → H} {W : World} {base : Nat} {v : Value} {d : DataW H} {p : List MemPlace} (hv : Value.okWide Try.prog W .any base 26 v) (h : DataW.Trod enc Try.prog W 0 (fun _ => true) true 26 v d p) :
    ∃ (a : Int) (b : Bool) (c e : Int), v = .agg #[.int .i64 a, .bool b, .int .i64 c, .int .i64 e] := by
  obtain ⟨v0, v1, v2, v3, y0, y1, y2, y3, n, rfl, _, _, h0, h1, h2, h3⟩ := open_agg4 Try.underlying26 (by kernel_rfl) cells_prop hv h
  obtain ⟨a, e0, _, _⟩ := DataW.trod_int Try.underlying3 h0
  obtain ⟨b, e1, _⟩ := DataW.trod_bool Try.underlying4 h1
  obtain ⟨c, e2, _, _⟩ := DataW.trod_int Try.underlying3 h2
  obtain ⟨e, e3, _, _⟩ := DataW.trod_int Try.underlying3 h3
  simp at e0 e1 e2 e3
  subst e0 e1 e2 e3
  exact ⟨a, b, c, e, rfl⟩
set_option maxRecDepth 100000 in
theorem walk {H : Type} {enc : TypeId × Value → H} (W : World) {base : Nat} (v : Value) {d : DataW H} {p : List MemPlace} (hv : Value.okWide Try.prog W .any base 26 v) (h : DataW.Trod enc Try.prog W 0 (fun _ => true) true 26 v d p) (r : Int) (wr : (Lit.int .i32 r).wf = true) : Calls Try.prog 9 #[v, .int .i32 r] W (Yes W) := by
  obtain ⟨a, b, c, e, rfl⟩ := open_prop hv h
  obtain ⟨r0, r1⟩ := bounds_i32 wr
  exact walkV W a b c e r r0 r1

set_option maxRecDepth 100000 in
theorem lifted (os : Os) (started : os.Started) (H : Type) (enc : TypeId × Value → H) :
    ReturnsInHanded {} Try.checked os 9 .any (Rows.basewTellsSpec.pre6 enc Try.prog Try.f9 Rows.basewTellsRow.domain false) (Rows.basewTellsSpec.post enc Try.prog Try.f9 false true false false) := by
  refine law_frame_plain (C := Try.checked) (tb := 4) (by kernel_rfl) started (by kernel_rfl) Try.func9 (by kernel_rfl) (by kernel_rfl) Try.underlying4 rfl
    (by rw [Try.params9]; intro t ht; simp at ht; rcases ht with rfl | rfl <;> exact ⟨by kernel_rfl, of_decide_eq_true (by kernel_rfl)⟩)
    (by rw [Try.params9]; intro ds hd; match ds, hd with | [_, _], _ => rfl)
    (ChangeSpec.witness6 (enc := enc) (C := Try.checked) false ⟨#[], #[.agg #[.int .i64 0, .bool false, .int .i64 0, .int .i64 0], .int .i32 0], []⟩ 8 (by kernel_rfl) (by kernel_rfl) (by kernel_rfl) (by kernel_rfl)) ?_
  intro W base args ds before hval hA
  rw [Try.params9] at hA hval
  obtain ⟨v0, vs0, d0, ds0, p0, q0, hargs, rfl, rfl, h0, r0⟩ := trodAll_cons hA
  obtain ⟨v1, vs1, d1, ds1, p1, q1, rfl, rfl, rfl, h1, r1⟩ := trodAll_cons r0
  obtain ⟨rfl, rfl, rfl⟩ := trodAll_nil r1
  obtain rfl : args = #[v0, v1] := by cases args; simp_all
  obtain ⟨x1, rfl, rfl, rfl, wx1⟩ := open_int Try.underlying21 (hval 1 21 v1 rfl rfl) h1
  exact walk W v0 (hval 0 26 v0 rfl rfl) h0 x1 wx1

theorem proved : Rows.BasewTellsSaid :=
  OpenClaim.holds_of_wide 9 Try.f9 rfl rfl rfl rfl rfl rfl rfl ⟨rfl, rfl, rfl, rfl, rfl⟩ rfl rfl rfl rfl rfl (by kernel_rfl) Try.func9 (by kernel_rfl)
    (of_decide_eq_true (by kernel_rfl)) (by unfold Func.isWrapper; first | (rw [if_pos (by decide +kernel)]; kernel_rfl) | (rw [if_neg (by decide +kernel)]; exact ⟨rfl, rfl⟩))
    (fun os started H enc _ => lifted os started H enc)
#print axioms proved

end Go.Proofs.Ythagaoakeniikaa.lawBasewTells
