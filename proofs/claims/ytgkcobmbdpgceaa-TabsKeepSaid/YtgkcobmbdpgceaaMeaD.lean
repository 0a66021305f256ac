/- measure.Items (21). -/
import Derived.Test.YtgkcobmbdpgceaaMg7
import Derived.Test.YtgkcobmbdpgceaaMg6
import Derived.Test.YtgkcobmbdpgceaaMg1
namespace Go.Proofs.Ytgkcobmbdpgceaa
open Go.RowKit Go.ChangeShapes Go.WideShapes
attribute [local go_sem] Oper.semAt_some
/-- A text that may be written. -/
def frE (k : IntKind) : Elem (List Int) where
  size := 1
  zero := []
  rep := fun Z w C L => ∃ v, C = [v] ∧ HeldE (intE k) Z w v L ∧ ∀ b, v.ownBlock = some b → Z b ∧ b < w.heap.size ∧ ∃ D t, w.heap[b]? = some (.cells D t)
  len := by rintro _ _ _ _ ⟨v, rfl, _⟩; rfl
  one := by
    rintro _ _ _ _ ⟨v, rfl, h, _⟩ u hu
    simp at hu
    subst hu
    obtain ⟨ao, cap, rfl, _⟩ := h
    rfl
  keep := by
    rintro _ _ _ _ _ _ hk hy ⟨v, rfl, h, h2⟩
    refine ⟨v, rfl, h.keep hk hy, fun b e => ?_⟩
    obtain ⟨h3, h4, D, t, h5⟩ := h2 b e
    exact ⟨hy b h4 h3, Nat.lt_of_lt_of_le h4 hk.size, D, t, (hk.block b h4 h3).trans h5⟩
def itmE : Elem (Int × List Int) := prE (intE .i64) (frE .i32)
theorem itm_rep {Z : Zone} {w : World} {C : List Value} {x : Int × List Int} : itmE.rep Z w C x ↔ ∃ tv, C = [.int .i64 x.1, tv] ∧ HeldE (intE .i32) Z w tv x.2 ∧ ∀ b, tv.ownBlock = some b → Z b ∧ b < w.heap.size ∧ ∃ D t, w.heap[b]? = some (.cells D t) := by
  constructor
  · rintro ⟨C1, C2, rfl, rfl, tv, rfl, h⟩
    exact ⟨tv, rfl, h⟩
  · rintro ⟨tv, rfl, h⟩
    exact ⟨[_], [tv], rfl, rfl, tv, rfl, h⟩
/-- A row of the call's own is a text that may be written. -/
theorem fr_own {Z : Zone} {w : World} {B n : Nat} {ty : TypeId} {v : Value} {xs : List Int} (h : w.ownsRow B ty 1 v n (xs.map (Value.int .i32))) (hz : ∀ b, B ≤ b → b < w.heap.size → Z b) : HeldE (intE .i32) Z w v xs ∧ ∀ b, v.ownBlock = some b → Z b ∧ b < w.heap.size ∧ ∃ D t, w.heap[b]? = some (.cells D t) := by
  refine ⟨(ownE_ints (Z := Z) h).held hz, fun b e => ?_⟩
  have hl := (ownE_ints (Z := fun _ => True) h).lt b e
  refine ⟨hz b hl.1 hl.2, hl.2, ?_⟩
  rcases h.2 with ⟨rfl, _⟩ | ⟨g, cap, cur, rfl, _, hg, _⟩
  · cases e
  · simp [Value.ownBlock] at e
    subst e
    exact ⟨cur, ty, hg⟩
theorem info_item : (Try.prog.info? 31).map (fun i => (i.zero, i.size, i.bytes)) = some (some (.agg #[.int .i64 0, .slice none 0 0]), itmE.size, 32) := by kernel_rfl
/-- A slice value of a text that may be written. -/
def FrT (Z : Zone) (w : World) (v : Value) (L : List Int) : Prop := HeldE (intE .i32) Z w v L ∧ ∀ b, v.ownBlock = some b → Z b ∧ b < w.heap.size ∧ ∃ D t, w.heap[b]? = some (.cells D t)
theorem itm_upd {Z S : Zone} {w w' : World} {v : Value} {L : List Int} (h : FrT Z w v L) (hu : Upd S w w') (hs : ∀ b, Z b → S b → False) : FrT Z w' v L := by
  refine ⟨h.1.upd hu (fun b hb e => hs b hb e), fun b e => ?_⟩
  obtain ⟨h3, h4, D, t, h5⟩ := h.2 b e
  exact ⟨h3, Nat.lt_of_lt_of_le h4 hu.size, D, t, (hu.keep.block b h4 (fun e => hs b h3 e)).trans h5⟩
theorem agg_upd {Z S : Zone} {w w' : World} {x : Value} {d : Int} {L : List Int} (h : ∃ v9, x = .agg #[.int .i64 d, v9] ∧ FrT Z w v9 L) (hu : Upd S w w') (hs : ∀ b, Z b → S b → False) : ∃ v9, x = .agg #[.int .i64 d, v9] ∧ FrT Z w' v9 L := by
  obtain ⟨v9, e, h⟩ := h
  exact ⟨v9, e, itm_upd h hu hs⟩
def itemsL (L : List (List Int)) : List (Int × List Int) := (L.filter fun T => !silB (T.getD 0 0)).map fun T => (wdC T, T.take 16)
def itemsC (xs : List Int) : List (Int × List Int) := itemsL (cluA xs)
theorem itemsL_len (L : List (List Int)) : (itemsL L).length ≤ L.length := by unfold itemsL; rw [List.length_map]; exact List.length_filter_le _ _
theorem itemsL_sil (L : List (List Int)) {T : List Int} (h : silB (T.getD 0 0) = true) : itemsL (L ++ [T]) = itemsL L := by
  unfold itemsL
  simp only [List.filter_append, List.map_append, List.filter_cons, List.filter_nil, h, Bool.not_true, Bool.false_eq_true, if_false, List.map_nil, List.append_nil]
theorem itemsL_add (L : List (List Int)) {T : List Int} (h : silB (T.getD 0 0) = false) : itemsL (L ++ [T]) = itemsL L ++ [(wdC T, T.take 16)] := by
  unfold itemsL
  simp only [List.filter_append, List.map_append, List.filter_cons, List.filter_nil, h, Bool.not_false, if_true, List.map_cons, List.map_nil]
def MadeItm (w : World) (L : List (Int × List Int)) (e : Ending) (w' : World) : Prop := ∃ v', e = .returned v' ∧ OwnE itmE (fun b => w.heap.size ≤ b) w' w.heap.size 31 v' L ∧ Below w.heap.size w w'
def ItmI (w : World) (bx lo : Nat) (xs : List Int) (hi : Nat) (pre : List Cu) (W : World) : Prop := lo ≤ hi ∧ ∃ va, Has W bx [va] 24 ∧ OwnE itmE (fun b => hi ≤ b) W hi 31 va (itemsL (cluL xs pre)) ∧ Below w.heap.size w W ∧ hi ≤ W.heap.size ∧ pre.length ≤ 1000000
set_option maxRecDepth 100000 in
set_option maxHeartbeats 3000000 in
theorem mitems_any (v : Value) (xs : List Int) (w : World) (hx : Held .i32 w v xs) (hn : xs.length ≤ 1000000) : Calls Try.prog 13 #[v] w (MadeItm w (itemsC xs)) := by
  obtain ⟨ao, ca, rfl⟩ := hx.len
  refine (callsIn_wide (n := 9)).1 ?_
  have b1 : Below w.heap.size w (w.alloc (.cells #[.slice none 0 0] 24)) := (Below.refl _ _).alloc (Nat.le_refl _) _
  have HC := Lib.hid (gall_any _ xs _ (hx.below b1) hn)
  have HBX := Lib.hid (Has.new w [.slice none 0 0] 24)
  have HB1 := Lib.hid b1
  clear hx b1
  refine callsIn_of_wp_marks Try.func13 rfl trivial ?_ rfl
  simp only [Try.ntmps13, List.size_toArray, List.length_cons, List.length_nil, Nat.reduceAdd, Nat.reduceSub, Array.replicate_succ, Array.replicate_zero, List.push_toArray, List.append_toArray, List.nil_append, List.cons_append]
  gi_wp2_with fail
  first | refine ⟨trivial, (fun h => absurd h (by decide)), (callsIn_wide.2 (HC.out)).mono ?_⟩ | refine ⟨trivial, (callsIn_wide.2 (HC.out)).mono ?_⟩
  rintro e w1 ⟨B, vk, rfl, hB, hk, b1, hBl⟩
  have hbx := HBX.out.below b1 HBX.out.lt
  have HX := Lib.hid hbx
  have HW := Lib.hid (HB1.out.trans (b1.mono HB1.out.size))
  have HLT := Lib.hid (show w.heap.size < w1.heap.size from hbx.lt)
  have h1 : 1 ≤ 9 := by decide
  gi_wp2_with fail
  refine wpIn_rangeO rfl h1 (gf := 64) (lb := #[.pointer (some ⟨B, 0, none⟩)]) rfl trivial (enters_of Try.func64 (by kernel_rfl) rfl) (gall1_in B vk xs w1 hB hk hn _ (fun b => b = w.heap.size)) (Below.refl _ _) (fun _ => rfl) (fun b e => by subst e; exact HLT.out)
    (ItmI w w.heap.size (w1.heap.size + 2) xs) (fun _ _ _ _ => False) ?hI (fun _ _ _ _ _ h _ => h) ?h0 (fun x => { tmps := #[.slice ao xs.length ca, undef, .slice none 0 0, .pointer (some ⟨w.heap.size, 0, none⟩), undef, x.v, .slice ao xs.length ca, .func (.func 64) #[] #[.pointer (some ⟨B, 0, none⟩)], .int .i64 (x.p.1 : Int), x.v, undef, undef, undef, undef, undef, undef, undef, undef, undef, undef, undef, undef, undef, undef], defers := [] }) ?assign ?body ?done ?stop
  case hI =>
    rintro hi pre A A' ⟨hlo, va, h1, h2, h3, h4, h5⟩ hu
    refine ⟨hlo, va, hu.keep.has h1 (fun e => by have := HLT.out; omega), h2.upd hu (fun b hb e => ?_), h3.upd hu h3.size (fun b e => by have := HLT.out; omega), Nat.le_trans h4 hu.size, h5⟩
    rcases hb with hb | hb
    · omega
    · have := (h2.lt b hb).1; omega
  case h0 =>
    intro hi W1 hb h1 h2
    exact ⟨h1, _, HX.out.below hb HX.out.lt, OwnE.nil _ _ _ _ _, HW.out.trans (hb.mono HW.out.size), h2, Nat.zero_le _⟩
  case assign =>
    intro l x W K hK
    unfold encCu
    gi_wp2
    exact hK
  case stop =>
    intro hi c pre W _ h _
    exact h.elim
  case done =>
    rintro hi ys W hS ⟨hlo, va, h1, h2, h3, h4, h5⟩ hK
    rw [cluL_all hS] at h2
    have c1 := h1.cell 0 _ rfl
    have HD := Lib.hid (show w.heap.size < w1.heap.size ∧ w1.heap.size + 2 ≤ hi from ⟨HLT.out, hlo⟩)
    have h2 := h2.keep (Y := fun b => w.heap.size ≤ b ∧ b ≠ w1.heap.size) (.refl _ _) (fun b _ h => by have := HD.out; omega)
    have hlt2 := h2.lt
    have h2 := h2.base (B' := w.heap.size) (by have := HD.out; omega)
    have h2 := h2.upd (upd_putObj (S := fun b => b = w1.heap.size) W w1.heap.size (.deferred none) rfl) (fun b hb e => by
      rcases hb with hb | hb
      · exact hb.2 e
      · have := (hlt2 b hb).1; have := HD.out; omega)
    have HO := Lib.hid (h2.keep (Y := fun b => w.heap.size ≤ b) (.refl _ _) (fun b _ h => h.1))
    have HE := Lib.hid (h3.upd (upd_putObj (S := fun b => b = w1.heap.size) W w1.heap.size (.deferred none) rfl) h3.size (fun b e => by have := HD.out; omega))
    clear h1 h2 h3 hlt2
    gi_wp2
    refine ⟨by simp, .inl ⟨_, _, rfl, run_takeDeferred hK, ?_⟩⟩
    exact ⟨va, by simp [results, Try.results13, go_sem], va, rfl, HO.out, HE.out⟩
  case body =>
    rintro l hi pre x W hlo hhi ⟨_, va, h1, h2, h3, h4, h5⟩ ⟨Wx, hx, hux⟩ hR
    have hx := hx.upd hux (fun b h1 h2 => by omega)
    have hxp := cu_pos hx
    have hxh := hx.held
    obtain ⟨ax, cx, hxv⟩ := hxh.len
    rw [hxv] at hxh
    obtain ⟨bb, of, hax, hbb, c0⟩ := hxh.spots 0 hxp.1
    subst hax
    rw [Nat.add_zero] at c0
    rw [hxv]
    have HXV := Lib.hid hxh
    have hmix : Try.prog.follows .mixedOrders = true := by kernel_rfl
    have hpl := pre_len hR
    have HPL := Lib.hid (show pre.length + 1 ≤ 1000000 from by omega)
    have HXL := Lib.hid (show 0 < (sliceL xs x.p).length ∧ (sliceL xs x.p).length ≤ 1000000 from ⟨hxp.1, by omega⟩)
    have HHI := Lib.hid (show hi ≤ W.heap.size ∧ w.heap.size < hi from ⟨hhi, by have := HLT.out; omega⟩)
    have HLEN := Lib.hid (show (itemsL (cluL xs pre)).length ≤ pre.length from by have := itemsL_len (cluL xs pre); simp only [cluL, List.length_map] at this ⊢; exact this)
    have HSN := Lib.hid (show cluL xs (pre ++ [x]) = cluL xs pre ++ [sliceL xs x.p] from by simp [cluL])
    have HH := Lib.hid h1
    have HO := Lib.hid h2
    have HL := Lib.hid h3
    have HS := Lib.hid (bsil_any ((sliceL xs x.p).getD 0 0))
    have hsz : 0 < (sliceL xs x.p).length := hxp.1
    obtain ⟨T, hT⟩ : ∃ T, T = sliceL xs x.p := ⟨_, rfl⟩
    rw [← hT] at HXV HXL HSN HS c0 hsz ⊢
    have HSIL := Lib.hid (show silB (T.getD 0 0) = true → itemsL (cluL xs (pre ++ [x])) = itemsL (cluL xs pre) from fun h => by rw [HSN.out, itemsL_sil _ h])
    have HADD := Lib.hid (show silB (T.getD 0 0) = false → itemsL (cluL xs (pre ++ [x])) = itemsL (cluL xs pre) ++ [(wdC T, T.take 16)] from fun h => by rw [HSN.out, itemsL_add _ h])
    obtain ⟨CN, hCN⟩ : ∃ CN, CN = itemsL (cluL xs (pre ++ [x])) := ⟨_, rfl⟩
    obtain ⟨CP, hCP⟩ : ∃ CP, CP = itemsL (cluL xs pre) := ⟨_, rfl⟩
    rw [← hCN, ← hCP] at HSIL HADD
    rw [← hCP] at HO HLEN
    have HEND := Lib.hid (show ∀ W' v4, Has W' w.heap.size [v4] 24 → OwnE itmE (fun b => hi ≤ b) W' hi 31 v4 CN → Below w.heap.size w W' → hi ≤ W'.heap.size → ItmI w w.heap.size (w1.heap.size + 2) xs hi (pre ++ [x]) W' from fun W' v4 k1 k2 k3 k4 => ⟨hlo, v4, k1, by rw [← hCN]; exact k2, k3, k4, by rw [List.length_append, List.length_singleton]; exact HPL.out⟩)
    have HT16 := Lib.hid (show (T.take 16).length ≤ 16 by rw [List.length_take]; omega)
    obtain ⟨n, hnn⟩ : ∃ n, n = T.length := ⟨_, rfl⟩
    rw [← hnn] at HXV hsz ⊢
    rw [hnn] at hsz
    rw [← hnn] at hsz
    obtain ⟨y, hy⟩ : ∃ y, y = T.getD 0 0 := ⟨_, rfl⟩
    rw [← hy] at HS HSIL HADD c0
    have HPOS := Lib.hid (show T.length = n ∧ 0 < n from ⟨hnn.symm, hsz⟩)
    clear hx hux hR hpl h1 h2 h3 hxh hxv hxp hCN hCP hT hnn hy HSN
    cases hs : silB y with
    | true =>
      rw [hs] at HS
      have HE := Lib.hid (HSIL.out hs)
      clear hs
      gi_wp2_with fail
      gi_wp2_with fail
      first | refine ⟨trivial, (fun h => absurd h (by decide)), (CallsIn.inRound l (callsIn_wide.2 (HS.out _))).mono ?_⟩ | refine ⟨trivial, (CallsIn.inRound l (callsIn_wide.2 (HS.out _))).mono ?_⟩
      rintro e w2 ⟨rfl, b2⟩
      have HF1 := Lib.hid (show Upd (fun b => b = w.heap.size ∨ hi ≤ b) W w2 from .ofBelow b2)
      have HF2 := Lib.hid (HEND.out w2 va (HH.out.below b2 HH.out.lt) (by rw [HE.out]; exact HO.out.below b2) (HL.out.trans (b2.mono HL.out.size)) (Nat.le_trans HHI.out.1 b2.size))
      clear b2
      gi_wp2
      exact ⟨HF1.out, HF2.out⟩
    | false =>
      rw [hs] at HS
      have HE := Lib.hid (HADD.out hs)
      clear hs
      gi_wp2_with fail
      gi_wp2_with fail
      first | refine ⟨trivial, (fun h => absurd h (by decide)), (CallsIn.inRound l (callsIn_wide.2 (HS.out _))).mono ?_⟩ | refine ⟨trivial, (CallsIn.inRound l (callsIn_wide.2 (HS.out _))).mono ?_⟩
      rintro e W1 ⟨rfl, b2⟩
      have HH1 := Lib.hid (HH.out.below b2 HH.out.lt)
      have HO1 := Lib.hid (HO.out.below b2)
      have HL1 := Lib.hid (HL.out.trans (b2.mono HL.out.size))
      have HX1 := Lib.hid (HXV.out.below b2)
      have HHI1 := Lib.hid (show hi ≤ W1.heap.size ∧ w.heap.size < hi from ⟨Nat.le_trans HHI.out.1 b2.size, HHI.out.2⟩)
      have HUW := Lib.hid (show Upd (fun b => b = w.heap.size ∨ hi ≤ b) W W1 from .ofBelow b2)
      have HLO := Lib.hid (show ∀ b, va.ownBlock = some b → hi ≤ b ∧ b < W1.heap.size from fun b e => HO1.out.lt b e)
      obtain ⟨xv, hxv⟩ : ∃ xv, xv = Value.slice (some ⟨bb, of, none⟩) n cx := ⟨_, rfl⟩
      rw [← hxv] at HX1 ⊢
      obtain ⟨wd, hwd⟩ : ∃ wd, wd = wdC T := ⟨_, rfl⟩
      have HWD := Lib.hid (show ∀ w', Below W1.heap.size W1 w' → Calls Try.prog 49 #[xv] w' (Gives w' (.int .i64 wd)) from fun w' h => by rw [hwd]; exact mwidth_any xv T w' (HX1.out.below h) (by have := HPOS.out; omega) (by have := HXL.out; omega))
      have HFI := Lib.hid (show ∀ w', Below W1.heap.size W1 w' → Calls Try.prog 50 #[xv] w' (Cloned 21 .i32 w' (T.take 16)) from fun w' h => mfirst_any xv T w' (HX1.out.below h) (by have := HXL.out; omega))
      rw [← hwd] at HE
      obtain ⟨F, hF⟩ : ∃ F, F = T.take 16 := ⟨_, rfl⟩
      rw [← hF] at HE HFI HT16
      clear b2 hxv hwd hF c0 HS HSIL HADD
      gi_wp2
      obtain ⟨Erg, hErg⟩ : ∃ EE : Nat → Value → World → Prop, EE = fun jj xx ww => match jj with
          | 0 => xx = va
          | 1 => xx = xv
          | 2 => xx = .int .i64 wd
          | 3 => xx = xv
          | 4 => (fun x w' => FrT (fun b => W1.heap.size ≤ b) w' x F) xx ww
          | 5 => (fun x w' => ∃ v9, x = .agg #[.int .i64 wd, v9] ∧ FrT (fun b => W1.heap.size ≤ b) w' v9 F) xx ww
          | 6 => (fun x w' => HeldE itmE (fun b => W1.heap.size ≤ b) w' x [(wd, F)]) xx ww
          | 7 => (fun x w' => OwnE itmE (fun b => hi ≤ b) w' hi 31 x (CP ++ [(wd, F)])) xx ww
          | 8 => xx = undef
          | _ => True := ⟨_, rfl⟩
      have erg0 : ∀ xx ww, Erg 0 xx ww = (xx = va) := fun xx ww => congrFun (congrFun (congrFun hErg 0) xx) ww
      have erg1 : ∀ xx ww, Erg 1 xx ww = (xx = xv) := fun xx ww => congrFun (congrFun (congrFun hErg 1) xx) ww
      have erg2 : ∀ xx ww, Erg 2 xx ww = (xx = .int .i64 wd) := fun xx ww => congrFun (congrFun (congrFun hErg 2) xx) ww
      have erg3 : ∀ xx ww, Erg 3 xx ww = (xx = xv) := fun xx ww => congrFun (congrFun (congrFun hErg 3) xx) ww
      have erg4 : ∀ xx ww, Erg 4 xx ww = ((fun x w' => FrT (fun b => W1.heap.size ≤ b) w' x F) xx ww) := fun xx ww => congrFun (congrFun (congrFun hErg 4) xx) ww
      have erg5 : ∀ xx ww, Erg 5 xx ww = ((fun x w' => ∃ v9, x = .agg #[.int .i64 wd, v9] ∧ FrT (fun b => W1.heap.size ≤ b) w' v9 F) xx ww) := fun xx ww => congrFun (congrFun (congrFun hErg 5) xx) ww
      have erg6 : ∀ xx ww, Erg 6 xx ww = ((fun x w' => HeldE itmE (fun b => W1.heap.size ≤ b) w' x [(wd, F)]) xx ww) := fun xx ww => congrFun (congrFun (congrFun hErg 6) xx) ww
      have erg7 : ∀ xx ww, Erg 7 xx ww = ((fun x w' => OwnE itmE (fun b => hi ≤ b) w' hi 31 x (CP ++ [(wd, F)])) xx ww) := fun xx ww => congrFun (congrFun (congrFun hErg 7) xx) ww
      have erg8 : ∀ xx ww, Erg 8 xx ww = (xx = undef) := fun xx ww => congrFun (congrFun (congrFun hErg 8) xx) ww
      obtain ⟨Crg, hCrg⟩ : ∃ CC : Array Bool → World → Prop, CC = fun L8 w' => Below w.heap.size w w' ∧ (Mix.one L8 8 = 1 → ∃ v4, Has w' w.heap.size [v4] 24 ∧ OwnE itmE (fun b => hi ≤ b) w' hi 31 v4 (CP ++ [(wd, F)])) ∧ (Mix.one L8 8 = 0 → Has w' w.heap.size [va] 24) ∧ Upd (fun b => b = w.heap.size ∨ hi ≤ b) W1 w' ∧ (Mix.one L8 7 = 0 → OwnE itmE (fun b => hi ≤ b) w' hi 31 va CP ∧ Below W1.heap.size W1 w') := ⟨_, rfl⟩
      have krg : ∀ i L w, i ≠ 7 → i ≠ 8 →  Crg L w → Crg (L.setIfInBounds i true) w := by
        intro i L w q7 q8 h
        rw [hCrg] at h ⊢
        simp only [Mix.one_ne q7, Mix.one_ne q8]; exact h
      obtain ⟨Xrg, hXrg⟩ : ∃ XX : Nat → World → World → Prop, XX = fun kk ww1 ww2 => if kk = 7 then (fun x y => Upd (fun b => va.ownBlock = some b) x y) ww1 ww2 else (fun x y => Upd (fun b => b = w.heap.size) x y) ww1 ww2 := ⟨_, rfl⟩
      have xrg : ∀ {k : Nat} (w : World), Xrg k w w := by
        intro k w
        rw [hXrg]
        show if k = 7 then _ else _
        split
        · exact Upd.refl _ _
        · exact Upd.refl _ _
      have crg : Crg (Array.replicate 9 false) W1.drew := by rw [hCrg]; exact ⟨HL1.out.drew, fun e => absurd e (by decide), fun _ => HH1.out, (Upd.refl _ _).drew, fun _ => ⟨HO1.out, (Below.refl _ _).drew⟩⟩
      have brg : ∀ L w w1, Crg L w → Below w.heap.size w w1 → Crg L w1 := by
        intro L w w1 h hb
        rw [hCrg] at h ⊢
        (obtain ⟨q1, q2, q3, q4, q5⟩ := h; exact ⟨q1.trans (hb.mono q1.size), fun e => by obtain ⟨v4, r1, r2⟩ := q2 e; exact ⟨v4, r1.below hb r1.lt, r2.below hb⟩, fun e => (q3 e).below hb (q3 e).lt, q4.trans (.ofBelow hb), fun e => ⟨(q5 e).1.below hb, (q5 e).2.trans (hb.mono (q5 e).2.size)⟩⟩)
      have xbrg : ∀ {k : Nat} (w w1 : World), Below w.heap.size w w1 → Xrg k w w1 := by
        intro k w w1 hb
        rw [hXrg]
        show if k = 7 then _ else _
        split
        · exact Upd.ofBelow hb
        · exact Upd.ofBelow hb
      have Hrgb := Lib.hid brg
      have Hrgxb : Go.RowKit.Hid (∀ {k : Nat} (w w1 : World), Below w.heap.size w w1 → Xrg k w w1) := @xbrg
      clear brg xbrg
      have HrghE := Lib.hid hErg
      clear hErg
      have Hrgk := Lib.hid krg
      have Hrgx : Go.RowKit.Hid (∀ {k : Nat} (w : World), Xrg k w w) := @xrg
      have Hrgc := Lib.hid crg
      have HrghC := Lib.hid hCrg
      have HrghX := Lib.hid hXrg
      have Hrge0 := Lib.hid erg0
      have Hrge1 := Lib.hid erg1
      have Hrge2 := Lib.hid erg2
      have Hrge3 := Lib.hid erg3
      have Hrge4 := Lib.hid erg4
      have Hrge5 := Lib.hid erg5
      have Hrge6 := Lib.hid erg6
      have Hrge7 := Lib.hid erg7
      have Hrge8 := Lib.hid erg8
      clear krg xrg crg hCrg hXrg erg0 erg1 erg2 erg3 erg4 erg5 erg6 erg7 erg8
      gi_wp2_with fail
      refine RegX.regionFIn (fun _ => trivial) rfl Reg.calls_round (by kernel_rfl) Erg Crg Xrg ?_ (by kernel_rfl) (by kernel_rfl) (by kernel_rfl) Hrgc.out (fun Frg hFrg => ?_)
      · intro ii jj x w w1 hji hr hx h
        rw [HrghX.out] at hx
        by_cases hi : ii = 7
        · subst hi
          simp only [if_pos] at hx
          match jj with
          | 0 => rw [Hrge0.out] at h ⊢; exact h
          | 1 => rw [Hrge1.out] at h ⊢; exact h
          | 2 => rw [Hrge2.out] at h ⊢; exact h
          | 3 => rw [Hrge3.out] at h ⊢; exact h
          | 4 => rw [Hrge4.out] at h ⊢; (first | exact (itm_upd h hx (fun b hb e => by have := (HLO.out b e).2; omega)) | exact (agg_upd h hx (fun b hb e => by have := (HLO.out b e).2; omega)) | exact (HeldE.upd h hx (fun b hb e => by have := (HLO.out b e).2; omega)))
          | 5 => rw [Hrge5.out] at h ⊢; (first | exact (itm_upd h hx (fun b hb e => by have := (HLO.out b e).2; omega)) | exact (agg_upd h hx (fun b hb e => by have := (HLO.out b e).2; omega)) | exact (HeldE.upd h hx (fun b hb e => by have := (HLO.out b e).2; omega)))
          | 6 => rw [Hrge6.out] at h ⊢; (first | exact (itm_upd h hx (fun b hb e => by have := (HLO.out b e).2; omega)) | exact (agg_upd h hx (fun b hb e => by have := (HLO.out b e).2; omega)) | exact (HeldE.upd h hx (fun b hb e => by have := (HLO.out b e).2; omega)))
          | 7 => exact absurd rfl hji
          | 8 => rw [Hrge8.out] at h ⊢; exact h
          | jj + 9 => rw [HrghE.out]; trivial
        · simp only [if_neg hi] at hx
          match jj with
          | 0 => rw [Hrge0.out] at h ⊢; exact h
          | 1 => rw [Hrge1.out] at h ⊢; exact h
          | 2 => rw [Hrge2.out] at h ⊢; exact h
          | 3 => rw [Hrge3.out] at h ⊢; exact h
          | 4 => rw [Hrge4.out] at h ⊢; (first | exact (itm_upd h hx (fun b hb e => by have := HHI1.out; omega)) | exact (agg_upd h hx (fun b hb e => by have := HHI1.out; omega)) | exact (HeldE.upd h hx (fun b hb e => by have := HHI1.out; omega)) | exact (OwnE.upd h hx (fun b hb e => by have := HHI1.out; rcases hb with hb | hb; omega; have := (OwnE.lt h b hb).1; omega)))
          | 5 => rw [Hrge5.out] at h ⊢; (first | exact (itm_upd h hx (fun b hb e => by have := HHI1.out; omega)) | exact (agg_upd h hx (fun b hb e => by have := HHI1.out; omega)) | exact (HeldE.upd h hx (fun b hb e => by have := HHI1.out; omega)) | exact (OwnE.upd h hx (fun b hb e => by have := HHI1.out; rcases hb with hb | hb; omega; have := (OwnE.lt h b hb).1; omega)))
          | 6 => rw [Hrge6.out] at h ⊢; (first | exact (itm_upd h hx (fun b hb e => by have := HHI1.out; omega)) | exact (agg_upd h hx (fun b hb e => by have := HHI1.out; omega)) | exact (HeldE.upd h hx (fun b hb e => by have := HHI1.out; omega)) | exact (OwnE.upd h hx (fun b hb e => by have := HHI1.out; rcases hb with hb | hb; omega; have := (OwnE.lt h b hb).1; omega)))
          | 7 => rw [Hrge7.out] at h ⊢; (first | exact (itm_upd h hx (fun b hb e => by have := HHI1.out; omega)) | exact (agg_upd h hx (fun b hb e => by have := HHI1.out; omega)) | exact (HeldE.upd h hx (fun b hb e => by have := HHI1.out; omega)) | exact (OwnE.upd h hx (fun b hb e => by have := HHI1.out; rcases hb with hb | hb; omega; have := (OwnE.lt h b hb).1; omega)))
          | 8 => rw [Hrge8.out] at h ⊢; exact h
          | jj + 9 => rw [HrghE.out]; trivial
      simp only [Reg.frame, Reg.dsts, List.map_cons, List.map_nil, Mix.put_lit, Reg.put_none, List.set_cons_succ, List.set_cons_zero, Nat.zero_add, Nat.reduceAdd] at hFrg
      refine ⟨?_, ?_⟩
      · refine ⟨?_, ?_, ?_, ?_, ?_, ?_, ?_, ?_, ?_, trivial⟩
        · intro Lq wq xq hh
          simp only [hFrg]
          refine .inl ⟨rfl, ?_⟩
          unfold Reg.upon
          have hc : Crg Lq wq := hh.cls
          rw [HrghC.out] at hc
          have q0 := (hc.2.2.1 (Mix.one_un (hh.notYet 8 (by kernel_rfl)))).cell 0 _ rfl
          clear hc
          have hk := Hrgk.out 0 Lq wq (by decide) (by decide)  hh.cls
          have hx : Xrg 0 wq wq := Hrgx.out wq
          have he : Erg 0 (va) wq := by rw [Hrge0.out]
          have HK := Lib.hid (And.intro hk (And.intro he hx))
          clear hk hx he
          go_simp
          exact HK.out
        · intro Lq wq xq hh
          simp only [hFrg]
          refine .inl ⟨rfl, ?_⟩
          unfold Reg.upon
          have hk := Hrgk.out 1 Lq wq (by decide) (by decide)  hh.cls
          have hx : Xrg 1 wq wq := Hrgx.out wq
          have he : Erg 1 (xv) wq := by rw [Hrge1.out]
          have HK := Lib.hid (And.intro hk (And.intro he hx))
          clear hk hx he
          go_simp
          exact HK.out
        · intro Lq wq xq hh
          have d1 : Erg 1 (xq 1) wq := hh.val 1 (by kernel_rfl) (by kernel_rfl)
          rw [Hrge1.out] at d1
          simp only [hFrg, d1]
          clear d1
          refine .inl ⟨rfl, ?_⟩
          unfold Reg.upon
          have hc : Crg Lq wq := hh.cls
          rw [HrghC.out] at hc
          have hcW := (hc.2.2.2.2 (Mix.one_un (hh.notYet 7 (by kernel_rfl)))).2
          go_simp
          refine (HWD.out wq hcW).mono ?_
          rintro e w2 ⟨rfl, hb⟩
          exact ⟨_, rfl, Hrgk.out 2 Lq w2 (by decide) (by decide) (Hrgb.out Lq wq w2 hh.cls hb), (by rw [Hrge2.out]), Hrgxb.out wq w2 hb⟩
        · intro Lq wq xq hh
          simp only [hFrg]
          refine .inl ⟨rfl, ?_⟩
          unfold Reg.upon
          have hk := Hrgk.out 3 Lq wq (by decide) (by decide)  hh.cls
          have hx : Xrg 3 wq wq := Hrgx.out wq
          have he : Erg 3 (xv) wq := by rw [Hrge3.out]
          have HK := Lib.hid (And.intro hk (And.intro he hx))
          clear hk hx he
          go_simp
          exact HK.out
        · intro Lq wq xq hh
          have d3 : Erg 3 (xq 3) wq := hh.val 3 (by kernel_rfl) (by kernel_rfl)
          rw [Hrge3.out] at d3
          simp only [hFrg, d3]
          clear d3
          refine .inl ⟨rfl, ?_⟩
          unfold Reg.upon
          have hc : Crg Lq wq := hh.cls
          rw [HrghC.out] at hc
          have hcW := (hc.2.2.2.2 (Mix.one_un (hh.notYet 7 (by kernel_rfl)))).2
          go_simp
          refine (HFI.out wq hcW).mono ?_
          rintro e w2 ⟨v2, rfl, ho2, hb⟩
          refine ⟨_, rfl, Hrgk.out 4 Lq w2 (by decide) (by decide) (Hrgb.out Lq wq w2 hh.cls hb), ?_, Hrgxb.out wq w2 hb⟩
          rw [Hrge4.out]
          exact fr_own ho2 (fun b h1 _ => Nat.le_trans hcW.size h1)
        · intro Lq wq xq hh
          have d2 : Erg 2 (xq 2) wq := hh.val 2 (by kernel_rfl) (by kernel_rfl)
          rw [Hrge2.out] at d2
          have d4 : Erg 4 (xq 4) wq := hh.val 4 (by kernel_rfl) (by kernel_rfl)
          rw [Hrge4.out] at d4
          simp only [hFrg, d2]
          clear d2
          refine .inl ⟨rfl, ?_⟩
          unfold Reg.upon
          obtain ⟨a9, c9, e9⟩ := d4.1.len
          rw [e9] at d4 ⊢
          go_simp
          exact ⟨Hrgk.out 5 Lq wq (by decide) (by decide) hh.cls, (by rw [Hrge5.out]; exact ⟨_, rfl, d4⟩), Hrgx.out _⟩
        · intro Lq wq xq hh
          have d5 : Erg 5 (xq 5) wq := hh.val 5 (by kernel_rfl) (by kernel_rfl)
          rw [Hrge5.out] at d5
          simp only [hFrg]
          refine .inl ⟨rfl, ?_⟩
          unfold Reg.upon
          obtain ⟨v9, e9, h9⟩ := d5
          obtain ⟨a9, c9, e8⟩ := h9.1.len
          rw [e9]
          subst e8
          have hc : Crg Lq wq := hh.cls
          rw [HrghC.out] at hc
          have hb := (Below.refl wq.heap.size wq).alloc (Nat.le_refl _) (.cells #[.int .i64 wd, .slice a9 F.length c9] 31)
          have hh3 : HeldE itmE (fun b => W1.heap.size ≤ b) (wq.alloc (.cells [.int .i64 wd, .slice a9 F.length c9].toArray 31)) (.slice (some ⟨wq.heap.size, 0, none⟩) 1 1) [(wd, F)] := heldE_one (E := itmE) (Y := fun b => W1.heap.size ≤ b) [.int .i64 wd, .slice a9 F.length c9] (wd, F) (itm_rep.2 ⟨_, rfl, h9⟩) (fun b _ h => h) hc.2.2.2.1.size
          go_simp
          refine ⟨Hrgk.out 6 Lq _ (by decide) (by decide) (Hrgb.out Lq wq _ hh.cls hb), ?_, Hrgxb.out wq _ hb⟩
          rw [Hrge6.out]
          exact hh3
        · intro Lq wq xq hh
          have d0 : Erg 0 (xq 0) wq := hh.val 0 (by kernel_rfl) (by kernel_rfl)
          rw [Hrge0.out] at d0
          have d6 : Erg 6 (xq 6) wq := hh.val 6 (by kernel_rfl) (by kernel_rfl)
          rw [Hrge6.out] at d6
          simp only [hFrg, d0]
          clear d0
          refine .inl ⟨rfl, ?_⟩
          unfold Reg.upon
          have hc : Crg Lq wq := hh.cls
          rw [HrghC.out] at hc
          have hc4 := hc.2.2.2.2 hh.un
          have hun5 := Mix.one_un (hh.notYet 8 (by kernel_rfl))
          obtain ⟨v', w', hr, h1, h2, h3, h4⟩ := run_append_e (P := Try.prog) (E := itmE) (Z := fun b => hi ≤ b) (w := wq) (B := hi) (ty := 31) 24 _ (.agg #[.int .i64 0, .slice none 0 0]) 32 Try.underlying24 info_item rfl (by decide) hc4.1 (d6.zoned (Y := fun b => hi ≤ b ∧ va.ownBlock ≠ some b) (fun b _ hz => ⟨by have := HHI1.out; omega, fun e => by have := (HLO.out b e).2; omega⟩)) (by simp only [List.length_singleton]; have := HPL.out; have := HLEN.out; omega) (by simp only [List.length_singleton]; have := HPL.out; have := HLEN.out; omega) (Nat.le_trans HHI1.out.1 hc.2.2.2.1.size)
          rw [exec_app rfl rfl rfl hr]
          have hu : Upd (fun b => va.ownBlock = some b) wq w' := ⟨h2.os, h2.tape, h2.output, h3.size, fun b hb hn => h3.block b hb hn⟩
          refine ⟨?_, ?_, ?_⟩
          · rw [HrghC.out]
            refine ⟨hc.1.upd hu hc.1.size (fun b e => by have := (HLO.out b e).1; have := HHI1.out; omega), fun e => ?_, fun _ => hu.keep.has (hc.2.2.1 hun5) (fun e => by have := (HLO.out _ e).1; have := HHI1.out; omega), hc.2.2.2.1.trans (hu.mono (fun b _ e => .inr (HLO.out b e).1)), fun e => ?_⟩
            · rw [Mix.one_ne (by decide), hun5] at e; cases e
            · rw [Mix.one_set (by rw [hh.size]; decide)] at e; exact absurd e (by decide)
          · rw [Hrge7.out]; exact h1
          · rw [HrghX.out]; exact hu
        · intro Lq wq xq hh
          have d7 : Erg 7 (xq 7) wq := hh.val 7 (by kernel_rfl) (by kernel_rfl)
          rw [Hrge7.out] at d7
          simp only [hFrg]
          refine .inl ⟨rfl, ?_⟩
          unfold Reg.upon
          have hc : Crg Lq wq := hh.cls
          rw [HrghC.out] at hc
          have hun5 := hh.un
          have hx5 := hc.2.2.1 hun5
          obtain ⟨a5, c5, e5⟩ := (OwnE.held d7 (Z := fun b => hi ≤ b) (fun b h _ => h)).len
          rw [exec_store_sl (b := w.heap.size) (off := 0) rfl rfl e5 va (hx5.cell 0 _ rfl) (hx5.free 0) (by kernel_rfl)]
          rw [e5] at d7
          have hu := (Upd.refl (fun b => b = w.heap.size) wq).setCell (p := ⟨w.heap.size, 0, none⟩) (.inl rfl) (.slice a5 (CP ++ [(wd, F)]).length c5)
          have hlt5 := d7.lt
          refine ⟨?_, ?_, ?_⟩
          · rw [HrghC.out]
            refine ⟨hc.1.upd hu hc.1.size (fun b e => by omega), fun e => ⟨_, hx5.set 0 _, d7.upd hu (fun b hb e => ?_)⟩, fun e => ?_, hc.2.2.2.1.trans (hu.mono (fun b _ e => .inl e)), fun e => ?_⟩
            · have := HHI1.out; rcases hb with hb | hb; omega; have := (hlt5 b hb).1; omega
            · rw [Mix.one_set (by rw [hh.size]; decide)] at e; exact absurd e (by decide)
            · rw [Mix.one_ne (by decide)] at e
              have := hh.isDone 7 (by kernel_rfl)
              rw [this] at e; cases e
          · rw [Hrge8.out]
          · rw [HrghX.out]; exact hu
      intro xq wrg hcrg hvrg
      rw [HrghC.out] at hcrg
      simp only [hFrg]
      clear hvrg hFrg Hrgk Hrgx HrghE Hrgc HrghC HrghX Hrgb Hrgxb Hrge0 Hrge1 Hrge2 Hrge3 Hrge4 Hrge5 Hrge6 Hrge7 Hrge8
      obtain ⟨r1, r2, r3, r4, r5⟩ := hcrg
      obtain ⟨v4, k1, k2⟩ := r2 (by kernel_rfl)
      have HF1 := Lib.hid (HUW.out.trans r4)
      have HF2 := Lib.hid (HEND.out wrg v4 k1 (by rw [HE.out]; exact k2) r1 (Nat.le_trans HHI1.out.1 r4.size))
      clear r1 r2 r3 r4 r5 k1 k2
      gi_wp2
      exact ⟨HF1.out, HF2.out⟩
end Go.Proofs.Ytgkcobmbdpgceaa
