/- CellTells (23.1, 23.3) answers true at every pair of lists of cells, and turns nothing, where what it reads is of bulk at most 1048576. -/
import Derived.Test.YtfkeeigaocmalaaCellW
import Derived.Test.YtfkeeigaocmalaaCellU
import Derived.Test.YtfkeeigaocmalaaCellS
import Derived.Test.YtfkeeigaocmalaaFrameU
import Derived.ProofKit
namespace Go.Proofs.Ytfkeeigaocmalaa.lawCellTells
open Go.ChangeShapes Go.WideShapes Go.ChangeAt Go.RowKit
theorem sum_ones (T : List Int) : (T.map wtI).sum = T.length := by
  induction T with
  | nil => rfl
  | cons x l ih => simp only [List.map_cons, List.sum_cons, List.length_cons, ih, wtI]; omega
theorem bulk_text (L : List Cl) : (textL L).length ≤ wtS (wtP wtI (wtS wtI)) L := by
  show _ ≤ (L.map (wtP wtI (wtS wtI))).sum + 1
  unfold textL
  generalize hf : wtP wtI (wtS wtI) = f
  induction L with
  | nil => simp
  | cons c L ih =>
    simp only [List.flatMap_cons, List.length_append, List.map_cons, List.sum_cons]
    have : c.2.length ≤ f c := by
      rw [← hf]
      show _ ≤ 1 + ((c.2.map wtI).sum + 1)
      rw [sum_ones]
      omega
    omega
set_option maxRecDepth 100000 in
set_option maxHeartbeats 3000000 in
theorem walkH (W : World) (va vb : Value) (L M : List Cl) (Z Y : Zone) (ha : HeldE cellE Z W va L) (hb : HeldE cellE Y W vb M) (ht : (textL L).length ≤ 1048576) : Calls Try.prog 4 #[va, vb] W (Yes W) := by
  have hla := ha.max
  have hlb := hb.max
  have ha := ha.zone (Y := fun b => b < W.heap.size) (fun b hb _ => hb)
  obtain ⟨ao, ca, rfl⟩ := ha.len
  obtain ⟨bo, cb, rfl⟩ := hb.len
  obtain ⟨_, _, hc⟩ := cells_at ha
  have HA := Lib.hid ha
  have HB := Lib.hid hb
  have HC := Lib.hid hc
  have HT := Lib.hid ht
  clear ha hb hc ht
  by_cases h1 : 300 < L.length ∨ 300 < M.length
  · rcases Nat.lt_or_ge 300 L.length with h | h
    · go_enter Try.func4, Try.ntmps4
      go_wp2_with fail
      refine (works23_any _).mono ?_
      rintro e w1 ⟨rfl, b1⟩
      go_wp2_with fail
      refine (works23_any _).mono ?_
      rintro e w2 ⟨rfl, b2⟩
      have b2 := b1.trans (b2.mono b1.size)
      go_wp2
      go_ret
      exact ⟨(ret_eq (by first | rfl | (simp <;> omega))), b2⟩
    · have h2 : 300 < M.length := by omega
      clear h1
      go_enter Try.func4, Try.ntmps4
      go_wp2_with fail
      refine (works23_any _).mono ?_
      rintro e w1 ⟨rfl, b1⟩
      go_wp2_with fail
      refine (works23_any _).mono ?_
      rintro e w2 ⟨rfl, b2⟩
      have b2 := b1.trans (b2.mono b1.size)
      go_wp2
      go_ret
      exact ⟨(ret_eq (by first | rfl | (simp <;> omega))), b2⟩
  · have h2 : L.length ≤ 300 := by omega
    have h3 : M.length ≤ 300 := by omega
    clear h1
    go_enter Try.func4, Try.ntmps4
    go_wp2_with fail
    refine (works23_any _).mono ?_
    rintro e w1 ⟨rfl, b1⟩
    have HB1 := Lib.hid b1
    clear b1
    go_wp2
    go_loopw [5, 6] (fun t i wr => ∃ k : Nat, k ≤ L.length ∧ i = .int .i64 k ∧ OwnE (intE .i32) (fun _ => True) wr W.heap.size 21 t (textL (L.take k)) ∧ Below W.heap.size W wr) (fun _ i _ => L.length - (intOf i).toNat)
    case atStart => exact ⟨0, Nat.zero_le _, rfl, OwnE.nil _ _ _ _ _, HB1.out⟩
    case round =>
      obtain ⟨k, hk, rfl, hown, hbw⟩ := hrel
      have HBW := Lib.hid hbw
      clear hbw
      by_cases hlt : k < L.length
      · obtain ⟨b, off, tv, rfl, hb, _, c0, c1, hh⟩ := HC.out k hlt
        have hm := hh.max
        have hs := textL_succ L k hlt
        have hle := textL_le L (k + 1)
        rw [hs, List.length_append] at hle
        obtain ⟨⟨K, T⟩, hKT⟩ : ∃ y, y = L.getD k zc := ⟨_, rfl⟩
        rw [← hKT] at c0 hh hs hle hm
        simp only at c0 hh hs hle hm
        have HS := Lib.hid hs
        clear hs hKT
        obtain ⟨P0, hP⟩ : ∃ P0, P0 = textL (L.take k) := ⟨_, rfl⟩
        rw [← hP] at hown HS hle
        clear hP
        have hn1 : P0.length + T.length ≤ 1048576 := by have := HT.out; omega
        clear hle
        have HCC := Lib.hid (show ∀ w2, Below W.heap.size W w2 → w2.cell? ⟨b, off + k * 2, none⟩ = some (.int .i64 K) ∧ w2.cell? ⟨b, off + k * 2 + 1, none⟩ = some tv from fun w2 h => ⟨(h.cell (p := ⟨b, off + k * 2, none⟩) hb).trans c0, (h.cell (p := ⟨b, off + k * 2 + 1, none⟩) hb).trans c1⟩)
        have HH := Lib.hid hh
        have HOW := Lib.hid hown
        obtain ⟨to, tc, rfl⟩ := hh.len
        clear c0 c1 hh hown hb
        obtain ⟨c0, c1⟩ := HCC.out wr HBW.out
        have d0 := ext_cell c0
        have d1 := ext_cell c1
        clear c0 c1
        have HR1 := Lib.hid (fun u : Growth wr => right_any K _ T (ext wr u) ((HH.out.below (ext_below HBW.out u)).ints) hm)
        have HR2 := Lib.hid (fun u : Growth wr => rright_any K _ T (ext wr u) ((HH.out.below (ext_below HBW.out u)).ints) hm)
        generalize rightB (K, T) = q at HR1 HR2
        have hq : (q != q) = false := by simp
        go_wp2
        refine wp_region_ext (by kernel_rfl) (by kernel_rfl) ?_
        repeat (go_big_quiet_step (((first | (go_at_call 15; exact callx (HR1.out _)) | (go_at_call 16; exact callx (HR2.out _))))))
        refine wpQuiet_nil ?_
        intro _ hw'
        obtain ⟨u, hw''⟩ := hw'
        subst hw''
        have HBU := Lib.hid (ext_below HBW.out u)
        have HOU := Lib.hid (show OwnE (intE .i32) (fun _ => True) (ext wr u) W.heap.size 21 _ P0 from HOW.out.below u.ok)
        have hlo := HOU.out.lt
        have HU := Lib.hid (show HeldE (intE .i32) (fun b => True ∧ _ ≠ some b) (ext wr u) _ T from (HH.out.below HBU.out).zone (fun b _ hz => ⟨trivial, fun e => by have := (hlo b e).1; omega⟩))
        obtain ⟨WU, hWU⟩ : ∃ WU, WU = ext wr u := ⟨_, rfl⟩
        rw [← hWU] at HBU HOU HU ⊢
        clear hWU hlo d0 d1 hq
        obtain ⟨c0, c1⟩ := HCC.out WU HBU.out
        go_wp2_with (at_builtin; refine wpList_append_e (E := intE .i32) (Z := fun _ => True) rfl (.tmp 37) (.tmp 42) 22 rfl (.int .i32 0) 4 Try.underlying22 info_rune rfl (Nat.lt_succ_self 0) rfl rfl HOU.out HU.out (by omega) (by omega) HBU.out.size ?_)
        intro v2 w2 ho2 hb2 _ _
        have hb3 := HBU.out.trans hb2
        rw [← HS.out] at ho2
        have H2 := Lib.hid ho2
        have H3 := Lib.hid hb3
        clear ho2 hb2 hb3 c0 c1
        go_wp2
        go_roundw
        case rel => exact ⟨k + 1, by omega, by go_num, H2.out, H3.out⟩
        case measure => simp [intOf] <;> omega
      · obtain rfl : k = L.length := by omega
        rw [List.take_length] at hown
        have hh := (hown.held (Z := fun _ => True) (fun _ _ _ => trivial)).ints
        have HH := Lib.hid hh
        obtain ⟨to, tc, rfl⟩ := hh.len
        clear hown hh hlt
        have HSD := Lib.hid (sound_iff L)
        generalize okTo L L.length = qs at HSD
        obtain ⟨wo, hwo⟩ : ∃ wo, wo = wr := ⟨_, rfl⟩
        go_wp2_with fail
        refine (sound_any _ _ _ _ (HA.out.below HBW.out)).mono ?_
        rintro e w2 ⟨rfl, b2⟩
        have B2 := Lib.hid (HBW.out.trans (b2.mono HBW.out.size))
        have D2 := Lib.hid b2
        clear b2
        go_wp2_with fail
        refine (rsound_any _ _ _ _ (HA.out.below B2.out)).mono ?_
        rintro e w3 ⟨rfl, b3⟩
        rw [← sound_iff L]
        have B3 := Lib.hid (B2.out.trans (b3.mono B2.out.size))
        have D3 := Lib.hid (D2.out.trans (b3.mono D2.out.size))
        clear b3
        have hq1 : (soundB L == soundB L) = true := by simp
        go_wp2_with fail
        refine (csame_any _ _ _ _ _ _ _ (HA.out.below B3.out) (HB.out.below B3.out)).mono ?_
        rintro e w4 ⟨rfl, b4⟩
        have B4 := Lib.hid (B3.out.trans (b4.mono B3.out.size))
        have D4 := Lib.hid (D3.out.trans (b4.mono D3.out.size))
        clear b4
        go_wp2_with fail
        refine (rcsame_any _ _ _ _ _ _ _ (HA.out.below B4.out) (HB.out.below B4.out)).mono ?_
        rintro e w5 ⟨rfl, b5⟩
        have B5 := Lib.hid (B4.out.trans (b5.mono B4.out.size))
        have D5 := Lib.hid (D4.out.trans (b5.mono D4.out.size))
        clear b5
        have hq2 : (sameC L M == sameC L M) = true := by simp
        go_wp2_with fail
        refine (csame_any _ _ _ _ _ _ _ (HA.out.below B5.out) (HA.out.below B5.out)).mono ?_
        rintro e w6 ⟨rfl, b6⟩
        rw [sameC_self]
        have B6 := Lib.hid (B5.out.trans (b6.mono B5.out.size))
        have D6 := Lib.hid (D5.out.trans (b6.mono D5.out.size))
        clear b6
        go_wp2_with fail
        refine (ctext_any _ _ _ _ (HA.out.below B6.out) (by have := HT.out; omega)).mono ?_
        rintro e w7 ⟨v7, rfl, ho7, b7⟩
        have B7 := Lib.hid (B6.out.trans (b7.mono B6.out.size))
        have D7 := Lib.hid (D6.out.trans (b7.mono D6.out.size))
        have H7 := Lib.hid ((ho7.held (fun _ _ _ => trivial)).ints)
        clear b7 ho7
        go_wp2_with fail
        refine (same_any _ _ _ _ _ H7.out (HH.out.below D7.out) (by have := HT.out; omega)).mono ?_
        rintro e w8 ⟨rfl, b8⟩
        rw [sameB_self]
        have B8 := Lib.hid (B7.out.trans (b8.mono B7.out.size))
        clear b8
        go_wp2
        go_ret
        exact ⟨(ret_eq (by first | rfl | (simp <;> omega))), B8.out⟩
set_option maxRecDepth 100000 in
theorem walk {H : Type} {enc : TypeId × Value → H} (W : World) {base base' : Nat} (v : Value) {d : DataW H} {p : List MemPlace} (hv : Value.okWide Try.prog W .any base 34 v) (h : DataW.Trod enc Try.prog W 0 (fun _ => true) true 34 v d p)
    (u : Value) {d' : DataW H} {p' : List MemPlace} (hv' : Value.okWide Try.prog W .any base' 34 u) (h' : DataW.Trod enc Try.prog W 0 (fun _ => true) true 34 u d' p') (hk : Rows.uptoSmall H [d, d'] = true) : Calls Try.prog 4 #[v, u] W (Yes W) := by
  have hE : OpensB Try.prog cellE _ _ 37 := opensB_pair Try.underlying37 (by kernel_rfl) rfl rfl (opensB_int Try.underlying3 (by kernel_rfl)) (opensB_slice Try.underlying22 (by kernel_rfl) (by decide) (opensB_int Try.underlying21 (by kernel_rfl)))
  obtain ⟨L, hL, _, hw⟩ := opensB_arg Try.underlying34 (by kernel_rfl) (by decide) hE (seatBulk H) hv h
  obtain ⟨M, hM, _, _⟩ := opensB_arg Try.underlying34 (by kernel_rfl) (by decide) hE (seatBulk H) hv' h'
  have := bulk_all _ hk d (by simp)
  exact walkH W v u L M _ _ hL hM (by have := bulk_text L; omega)

set_option maxRecDepth 100000 in
theorem lifted (os : Os) (started : os.Started) (H : Type) (enc : TypeId × Value → H) (Fi : Stop.Interp) :
    ReturnsInHanded {} Try.checked os 4 .any ((Rows.OpenSpec.upto Rows.cellTellsSpec).pre6 enc Try.prog Try.f4 Rows.cellTellsUptoRow.domain false) (((Rows.OpenSpec.upto Rows.cellTellsSpec).at Fi).post enc Try.prog Try.f4 false true false false) := by
  refine law_frame_upto (C := Try.checked) (s := Rows.cellTellsSpec) (k := Rows.uptoSmall) (F := Fi) (tb := 4) (by kernel_rfl) started (by kernel_rfl) Try.func4 (by kernel_rfl) (by kernel_rfl) Try.underlying4 rfl
    (by rw [Try.params4]; intro t ht; simp at ht; subst ht <;> exact ⟨by kernel_rfl, of_decide_eq_true (by kernel_rfl)⟩)
    (by rw [Try.params4]; intro ds hd; match ds, hd with | [_, _], _ => rfl)
    (OpenSpec.witness (enc := enc) (C := Try.checked) (s := Rows.OpenSpec.upto Rows.cellTellsSpec) (k := Rows.uptoSmall) rfl false ⟨#[], #[.slice none 0 0, .slice none 0 0], []⟩ 8 (by kernel_rfl) (by kernel_rfl) (by kernel_rfl) (x := ([.nil, .nil], [], [])) (by kernel_rfl) rfl (by kernel_rfl)) ?_
  intro W base args ds before hval hA hk
  rw [Try.params4] at hA hval
  obtain ⟨v0, vs0, d0, ds0, p0, q0, hargs, rfl, rfl, h0, r0⟩ := trodAll_cons hA
  obtain ⟨v1, vs1, d1, ds1, p1, q1, rfl, rfl, rfl, h1, r1⟩ := trodAll_cons r0
  obtain ⟨rfl, rfl, rfl⟩ := trodAll_nil r1
  obtain rfl : args = #[v0, v1] := by cases args; simp_all

  exact walk W v0 (hval 0 34 v0 rfl rfl) h0 v1 (hval 1 34 v1 rfl rfl) h1 hk

theorem proved : Rows.CellTellsUptoSaid :=
  OpenClaim.holds_of_cond 4 Try.f4 rfl rfl rfl rfl rfl rfl rfl ⟨rfl, rfl, rfl, rfl, rfl⟩ rfl rfl rfl rfl rfl (by kernel_rfl) Try.func4 (by kernel_rfl)
    (of_decide_eq_true (by kernel_rfl)) (by unfold Func.isWrapper; first | (rw [if_pos (by decide +kernel)]; kernel_rfl) | (rw [if_neg (by decide +kernel)]; exact ⟨rfl, rfl⟩))
    (fun os started H enc _ Fi => lifted os started H enc Fi)
#print axioms proved

end Go.Proofs.Ytfkeeigaocmalaa.lawCellTells
