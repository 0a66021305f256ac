/- Contracts of chunks: Cut. -/
import Derived.Test.YtgoeacmpphmnoaaChkA
import Derived.Lib.MinMax
import Derived.Deep.Cut
import Derived.Laws.MakeOwn
namespace Go.Proofs.Ytgoeacmpphmnoaa
open Go.RowKit Go.ChangeShapes Go.WideShapes
def CutOk (w : World) (L : List (List Int)) (e : Ending) (w' : World) : Prop := ∃ v' n, e = .returned v' ∧ OwnB w' w.heap.size v' n L ∧ Below w.heap.size w w'
def mixC (n : Nat) (cl : List Int) (k : Nat) : List Value := (cl.take k).map (Value.int .i64) ++ List.replicate (n - k) (.int .i64 0)
theorem mix_set (n : Nat) (cl : List Int) (k : Nat) (hn : cl.length = n) (hk : k < n) : (mixC n cl k).set k (.int .i64 (cl.getD k 0)) = mixC n cl (k + 1) := by
  unfold mixC
  have hl : ((cl.take k).map (Value.int .i64)).length = k := by simp; omega
  rw [List.set_append_right _ _ (by omega), hl, Nat.sub_self, show n - k = (n - (k + 1)) + 1 by omega, List.replicate_succ, List.set_cons_zero, List.take_succ_eq_append_getElem (by omega), List.map_append, List.append_assoc]
  simp [List.getD, List.getElem?_eq_getElem (show k < cl.length by omega)]
theorem own_of_has {w : World} {B g e n : Nat} {xs : List Value} (h : Has w g xs e) (hl : xs.length = n) (hB : B ≤ g) (hn : n ≤ 1000000) : w.ownsRow B e 1 (.slice (some ⟨g, 0, none⟩) n n) n xs := by
  subst hl
  exact ⟨by simp, .inr ⟨g, xs.length, _, rfl, hB, h, Nat.le_refl _, by unfold maxLen; omega, by simp, by simp [List.take_of_length_le]⟩⟩
theorem own_empty {w : World} {B g e c : Nat} {xs : List Value} (h : Has w g xs e) (hl : xs.length = c) (hB : B ≤ g) (hn : c ≤ 1000000) : w.ownsRow B e 1 (.slice (some ⟨g, 0, none⟩) 0 c) 0 [] := by
  subst hl
  exact ⟨rfl, .inr ⟨g, xs.length, _, rfl, hB, h, Nat.zero_le _, by unfold maxLen; omega, by simp, by simp⟩⟩
theorem made_rep (z : Value) (n : Nat) : madeCells #[z] n = (List.replicate n z).toArray := by
  apply Array.ext
  · simp [madeCells]
  · intro i h1 h2
    simp [madeCells, Nat.mod_one]
theorem make_one {P : Program} (w : World) (t e : TypeId) (z : Value) (bytes : Nat) (ht : P.underlying t = some (.slice e)) (hinfo : (P.info? e).map (fun i => (i.zero, i.size, i.bytes)) = some (some z, 1, bytes)) (hz : z.cells = #[z]) (l c : Nat) (hlc : l ≤ c) (hc : c * bytes ≤ 16777216) (hc2 : c ≤ 16777216) :
    ∃ W, (Instr.makeSlice t (.int .i64 l) (.int .i64 c)).run P w = .ok (.slice (some ⟨w.heap.size, 0, none⟩) l c) W ∧ Has W w.heap.size (List.replicate c z) e ∧ Below w.heap.size w W ∧ W.heap.size = w.heap.size + 1 := by
  obtain ⟨i0, hi, hz0, hz1, hz2⟩ := info_parts hinfo
  have hby : (i0.bytes : Int) * (c : Int) ≤ 281474976710656 := by
    have h : ((i0.bytes * c : Nat) : Int) ≤ 281474976710656 := by rw [hz2, Nat.mul_comm]; omega
    rwa [Int.natCast_mul] at h
  have hr := run_makeSlice (P := P) w t e i0 z ht hi hz0 .i64 .i64 l c (by omega) (by omega) (by rw [hz1]; omega) hby (by omega)
  simp only [Int.toNat_natCast] at hr
  refine ⟨w.alloc (.cells (madeCells z.cells (c * i0.size)) e), hr, ?_, (Below.refl _ _).alloc (Nat.le_refl _) _, by simp⟩
  have h := heap_alloc_new w (.cells (madeCells z.cells (c * i0.size)) e)
  unfold Has
  rw [h, hz1, hz, Nat.mul_one, made_rep]
theorem held_some0 (k : IntKind) (w : World) (a : Addr) (c : Nat) : Held k w (.slice (some a) 0 c) [] := ⟨some a, c, rfl, (fun h => by cases h), fun i hi => absurd hi (by simp)⟩
theorem info_int8 : (Try.prog.info? 3).map (fun i => (i.zero, i.size, i.bytes)) = some (some (.int .i64 0), 1, 8) := by kernel_rfl
set_option maxRecDepth 100000 in
set_option maxHeartbeats 2000000 in
theorem cut_any (v u : Value) (b at_ : List Int) (w : World) (hv : Held .u8 w v b) (hcp : CapOk v) (hu : Held .i64 w u at_) (hb : b.length ≤ 100000) (ha : at_.length ≤ 100000) : Calls Try.prog 26 #[v, u] w (CutOk w (cutB b at_)) := by
  obtain ⟨bo, bc, rfl, hvn, hvc⟩ := id hv
  obtain ⟨ao, ac, rfl, hac⟩ := id hu.view
  have hcap : b.length ≤ bc := hcp _ _ _ rfl
  obtain ⟨n, hn⟩ : ∃ n, n = at_.length := ⟨_, rfl⟩
  obtain ⟨cl, hcl⟩ : ∃ cl, cl = at_.map (clampI b.length) := ⟨_, rfl⟩
  have hcll : cl.length = n := by rw [hcl, hn]; simp
  have hcat : ∀ i, i < n → cl.getD i 0 = min (max (at_.getD i 0) 0) b.length := by
    intro i hi
    rw [hcl]
    simp [List.getD, List.getElem?_map, List.getElem?_eq_getElem (show i < at_.length by omega), clampI]
  obtain ⟨P, hP⟩ : ∃ P, P = placesL b.length at_ := ⟨_, rfl⟩
  have hPl : P.length = n + 1 := by rw [hP, places_len, hn]
  have hPm : P = isortL cl ++ [(b.length : Int)] := by rw [hP, hcl]; rfl
  have hPat : ∀ i, i < n + 1 → 0 ≤ prevI 0 P i ∧ prevI 0 P i ≤ P.getD i 0 ∧ P.getD i 0 ≤ b.length := fun i hi => by rw [hP]; exact places_at _ _ i (by rw [places_len]; omega)
  have hcut : cutB b at_ = cutP b 0 P := by rw [hP]; rfl
  have HV := Lib.hid hv
  have HVN := Lib.hid hvn
  have HVC := Lib.hid hvc
  have HA := Lib.hid hac
  have HCLL := Lib.hid hcll
  have HCA := Lib.hid hcat
  have HPL := Lib.hid hPl
  have HPM := Lib.hid hPm
  have HPA := Lib.hid hPat
  have HCUT := Lib.hid hcut
  rw [← hn] at HA ⊢ ha
  clear hv hcp hu hvn hvc hac hcl hcll hcat hP hPl hPm hPat hcut hn
  obtain ⟨W1, hm1, h1, hb1, hs1⟩ := make_one (P := Try.prog) w 43 3 (.int .i64 0) 8 Try.underlying43 (by kernel_rfl) rfl n n (Nat.le_refl _) (by omega) (by omega)
  have H1 := Lib.hid h1
  have HS1 := Lib.hid hs1
  clear h1 hs1
  go_enter Try.func26, Try.ntmps26
  go_wp2
  go_loopw [17] (fun iv wr => ∃ k : Nat, k ≤ n ∧ iv = .int .i64 k ∧ Has wr w.heap.size (mixC n cl k) 3 ∧ Below w.heap.size w wr) (fun iv _ => n - (intOf iv).toNat)
  case atStart => exact ⟨0, Nat.zero_le _, rfl, by have := H1.out; simpa [mixC] using this, hb1⟩
  case round =>
    obtain ⟨k, hk, rfl, hh, hbw⟩ := hrel
    clear hm1 hb1
    by_cases hlt : k < n
    · obtain ⟨ba, offa, rfl, hba, c0⟩ := HA.out k hlt
      have c0 := (hbw.cell (p := ⟨ba, offa + k, none⟩) hba).trans c0
      have hca := HCA.out k hlt
      have hset := mix_set n cl k HCLL.out hlt
      rw [hca] at hset
      obtain ⟨x, hx⟩ : ∃ x, x = at_.getD k 0 := ⟨_, rfl⟩
      rw [← hx] at c0 hset
      have hkc := hh.cell k (.int .i64 0) (by
        unfold mixC
        have hlk : ((cl.take k).map (Value.int .i64)).length = k := by
          rw [List.length_map, List.length_take]
          have := HCLL.out
          omega
        rw [List.getElem?_append_right (by omega), hlk, Nat.sub_self, List.getElem?_replicate, if_pos (by omega)])
      have hfr := hh.free k
      have hh2 := hh.set k (.int .i64 (min (max x 0) b.length))
      rw [hset] at hh2
      have HH2 := Lib.hid hh2
      have hbb := hbw.trans (((But.refl w.heap.size wr.heap.size wr).set k (.int .i64 (min (max x 0) b.length))).below (B' := w.heap.size) hbw.size (Nat.le_refl _))
      have HBB := Lib.hid hbb
      clear hca hset hx hh hh2 hbb
      go_wp2
      go_roundw
      case rel => exact ⟨k + 1, by omega, by go_num, HH2.out, HBB.out⟩
      case measure => simp [intOf] <;> omega
    · obtain rfl : k = n := by omega
      have hmx : mixC k cl k = cl.map (Value.int .i64) := by unfold mixC; rw [List.take_of_length_le (by have := HCLL.out; omega)]; simp
      rw [hmx] at hh
      have hown := own_of_has (B := w.heap.size) hh (by have := HCLL.out; simpa using this) (Nat.le_refl _) (by omega)
      have HSO := Lib.hid (isort_any _ cl wr w.heap.size k HCLL.out.symm hown hbw.size (by omega))
      have hgl := hh.lt
      clear hmx hh hown
      go_wp2_with fail
      refine HSO.out.mono ?_
      rintro e w2 ⟨rfl, ho2, b2, _⟩
      have hb2 := hbw.trans b2
      have hgl2 : w.heap.size < w2.heap.size := (ho2.lt _ rfl).2
      obtain ⟨W3, hm3, h3, hb3, hs3⟩ := make_one (P := Try.prog) w2 44 22 (.slice none 0 0) 24 Try.underlying44 (by kernel_rfl) rfl 0 (k + 1) (by omega) (by omega) (by omega)
      rw [show ((0 : Nat) : Int) = 0 from rfl, show ((k + 1 : Nat) : Int) = (k : Int) + 1 from rfl] at hm3
      have ho3 := ownsRow_below ho2 hb3
      have hbb3 := hb2.trans (hb3.mono hb2.size)
      have HO3 := Lib.hid ho3
      have H3 := Lib.hid h3
      clear HSO ho2 b2 hb3 hb2 ho3 h3
      go_wp2_with (at_builtin; refine wpList_append_newK W3 rfl (.tmp 37) (.tmp 40) 43 rfl w.heap.size 3 (.int .i64 0) 1 8 Try.underlying43 info_int8 rfl (by decide) (.slice (some ⟨w.heap.size, 0, none⟩) k k) k ((isortL cl).map (Value.int .i64)) rfl HO3.out [.int .i64 b.length] 1 1 (w2.heap.size + 1) hs3 rfl rfl (by intro u hu; simp at hu; rcases hu with rfl <;> rfl) (by omega) (by omega) hbb3.size ?_)
      intro v4 w4 ho4 hb4 hk4
      have hb4' := hbb3.trans hb4
      have hP4 : w4.ownsRow w.heap.size 3 1 v4 (k + 1) (P.map (Value.int .i64)) := by rw [HPM.out, List.map_append]; exact ho4
      have hg2 : Has w4 w2.heap.size (List.replicate (k + 1) (.slice none 0 0)) 22 := (hk4 w2.heap.size (by simp [hs3]) (fun e => by have e2 : some w.heap.size = some w2.heap.size := e; have e3 := Option.some.inj e2; omega)).trans H3.out
      have hh4 := held_of_owns (n := k + 1) hP4
      obtain ⟨po, pc, rfl⟩ := id hh4.len
      rw [HPL.out] at hh4 hP4
      have HP4 := Lib.hid hP4
      have hOB0 : OwnB w4 w.heap.size (.slice (some ⟨w2.heap.size, 0, none⟩) 0 (k + 1)) 0 [] := OwnB.nil _ _ _ (own_empty hg2 (by simp) (by omega) (by omega))
      have HOB0 := Lib.hid hOB0
      have HB4 := Lib.hid hb4'
      rw [HPL.out]
      clear hm3 hs3 HO3 H3 hbb3 ho4 hb4 hk4 hb4' hP4 hg2 hh4 hOB0 hgl2 hgl hbw
      go_wp2
      go_loopw [8, 9, 43] (fun pv fv iv wr => ∃ i : Nat, i ≤ k + 1 ∧ iv = .int .i64 i ∧ fv = .int .i64 (prevI 0 P i) ∧ OwnB wr w.heap.size pv i ((cutP b 0 P).take i) ∧ wr.ownsRow w.heap.size 3 1 (.slice po (k + 1) pc) (k + 1) (P.map (Value.int .i64)) ∧ Below w.heap.size w wr) (fun _ _ iv _ => k + 1 - (intOf iv).toNat)
      case atStart => exact ⟨0, Nat.zero_le _, rfl, rfl, HOB0.out, HP4.out, HB4.out⟩
      case round =>
        obtain ⟨i, hi, rfl, rfl, hob, hpo, hbw⟩ := hrel
        by_cases hlt2 : i < k + 1
        · have hhp := held_of_owns (n := k + 1) hpo
          obtain ⟨bp, offp, rfl, hbp, cp⟩ := hhp.spots i (by rw [HPL.out]; exact hlt2)
          obtain ⟨p0, p1, p2⟩ := HPA.out i hlt2
          have hlenC : i < (cutP b 0 P).length := by rw [cutP_len, HPL.out]; exact hlt2
          have htk : (cutP b 0 P).take (i + 1) = (cutP b 0 P).take i ++ [pieceI b (prevI 0 P i) (P.getD i 0)] := by
            rw [List.take_succ_eq_append_getElem hlenC, ← cutP_at b P 0 i (by rw [HPL.out]; exact hlt2)]
            simp [List.getD, List.getElem?_eq_getElem hlenC]
          have hpr : prevI 0 P (i + 1) = P.getD i 0 := by unfold prevI; rw [if_neg (by omega), Nat.add_sub_cancel]
          obtain ⟨p, hp⟩ : ∃ p, p = P.getD i 0 := ⟨_, rfl⟩
          obtain ⟨f, hf⟩ : ∃ f, f = prevI 0 P i := ⟨_, rfl⟩
          rw [← hp, ← hf] at p1 htk
          rw [← hf] at p0 ⊢
          rw [← hp] at p2 cp hpr
          obtain ⟨fN, rfl⟩ := Int.eq_ofNat_of_zero_le p0
          obtain ⟨pN, rfl⟩ := Int.eq_ofNat_of_zero_le (show 0 ≤ p by omega)
          obtain ⟨us, how, hlo, huo⟩ := hob
          have hpcs : pieceI b fN pN = (b.drop fN).take (pN - fN) := by unfold pieceI; simp
          have hone : ∀ (ww : World) (bb ee : Nat) (uu : Value) (nn : Nat) (ll : List Value), ww.ownsRow bb ee 1 uu nn ll → uu.oneCell' = true := by
            intro ww bb ee uu nn ll h
            rcases h.2 with ⟨rfl, _⟩ | ⟨g, cap, cur, rfl, _⟩ <;> rfl
          have HONE := Lib.hid hone
          have HTK := Lib.hid htk
          have HPR := Lib.hid hpr
          have HLO := Lib.hid hlo
          have HUO := Lib.hid huo
          have hVw := HV.out.below hbw
          have HVW := Lib.hid hVw
          have q1 : ¬ (bc < pN) := by omega
          have q2 : ¬ ((bc : Int) < (pN : Int)) := by omega
          have q3 : ¬ (pN < fN) := by omega
          have q4 : ¬ ((pN : Int) < (fN : Int)) := by omega
          clear hp hf htk hpr hlo huo hone hlenC hVw hhp
          by_cases hlt3 : fN < pN
          · obtain ⟨bb, boff, rfl, hbb, _⟩ := HVC.out 0 (by omega)
            have HC := Lib.hid (held_cut HVW.out fN (pN - fN) (by have := hbw.size; omega) (by omega) (bc - fN))
            have HPC := Lib.hid hpcs
            have q5 : ¬ (bc = fN) := by omega
            clear hpcs
            go_wp2_with fail
            refine (bclone_any _ ((b.drop fN).take (pN - fN)) wr HC.out (by first | (simp; done) | (simp; omega))).mono ?_
            rintro e w5 ⟨u5, rfl, ho5, b5⟩
            obtain ⟨uo, un, uc, hu5⟩ : ∃ uo un uc, u5 = .slice uo un uc := by
              obtain ⟨a, c, e⟩ := (held_of_owns ho5).len
              exact ⟨a, _, c, e⟩
            subst hu5
            have hb5 := hbw.trans (b5.mono hbw.size)
            have hpo5 := ownsRow_below hpo b5
            have how5 := ownsRow_below how b5
            have hu5 : ∀ j, j < i → ∃ u, us[j]? = some u ∧ (w5.alloc (.cells [Value.slice uo un uc].toArray 22)).ownsRow 0 5 1 u (((cutP b 0 P).take i).getD j []).length ((((cutP b 0 P).take i).getD j []).map (Value.int .u8)) := fun j hj => by
              obtain ⟨u, g1, g2⟩ := HUO.out j hj
              exact ⟨u, g1, (ownsRow_below g2 b5).alloc _⟩
            have hx5 : (w5.alloc (.cells [Value.slice uo un uc].toArray 22)).ownsRow 0 5 1 (.slice uo un uc) (pieceI b fN pN).length ((pieceI b fN pN).map (Value.int .u8)) := by rw [HPC.out]; exact (own_lower ho5 (Nat.zero_le _)).alloc _
            have hus : us.length = i := by have := how.1; simpa using this
            have HU5 := Lib.hid hu5
            have HX5 := Lib.hid hx5
            have HUS := Lib.hid hus
            have HW5 := Lib.hid how5
            have HPO5 := Lib.hid hpo5
            have HB5 := Lib.hid hb5
            clear hu5 hx5 hus how5 hpo5 hb5 ho5 b5
            go_wp2_with (at_builtin; go_loud (refine wpList_append_newK w5 rfl (.tmp 47) (.tmp 53) 44 rfl w.heap.size 22 (.slice none 0 0) 1 24 Try.underlying44 info_sl rfl (by decide) u8 i us rfl HW5.out [.slice uo un uc] 1 1 w5.heap.size rfl rfl rfl (by intro u hu; simp at hu; rw [hu]; exact HONE.out _ _ _ _ _ _ HX5.out) (by omega) (by omega) HB5.out.size ?_))
            intro v6 w6 ho6 hb6 hk6
            have hkb : KeepB (w5.alloc (.cells [Value.slice uo un uc].toArray 22)) w6 := keepB_new HW5.out hk6
            have hob6 := OwnB.snoc HLO.out HU5.out HUS.out HX5.out ho6 hkb
            rw [← HTK.out] at hob6
            have hpo6 := own_keepB (HPO5.out.alloc (.cells [Value.slice uo un uc].toArray 22)) (by decide) hkb
            have hb7 := HB5.out.trans hb6
            clear ho6 hb6 hk6 hkb
            go_wp2
            go_roundw
            case rel => exact ⟨i + 1, by omega, by go_num, (by rw [HPR.out]; try rfl), hob6, hpo6, hb7⟩
            case measure => simp [intOf] <;> omega
          · have hpf : pN = fN := by omega
            subst hpf
            have hpe : pieceI b pN pN = [] := by rw [hpcs, Nat.sub_self, List.take_zero]
            have HPC := Lib.hid hpe
            clear hpcs hpe
            cases bo with
            | none =>
              obtain ⟨hbn, hbc⟩ := HVN.out rfl
              have hp0 : pN = 0 := by have : b.length = 0 := by rw [hbn]; rfl
                                      omega
              subst hp0
              subst hbc
              clear hbn
              go_wp2_with fail
              refine (bclone_any _ [] wr (Held.nil .u8 _) (by first | (simp; done) | (simp; omega))).mono ?_
              rintro e w5 ⟨u5, rfl, ho5, b5⟩
              obtain ⟨uo, un, uc, hu5⟩ : ∃ uo un uc, u5 = .slice uo un uc := by
                obtain ⟨a, c, e⟩ := (held_of_owns ho5).len
                exact ⟨a, _, c, e⟩
              subst hu5
              have hb5 := hbw.trans (b5.mono hbw.size)
              have hpo5 := ownsRow_below hpo b5
              have how5 := ownsRow_below how b5
              have hu5 : ∀ j, j < i → ∃ u, us[j]? = some u ∧ (w5.alloc (.cells [Value.slice uo un uc].toArray 22)).ownsRow 0 5 1 u (((cutP b 0 P).take i).getD j []).length ((((cutP b 0 P).take i).getD j []).map (Value.int .u8)) := fun j hj => by
                obtain ⟨u, g1, g2⟩ := HUO.out j hj
                exact ⟨u, g1, (ownsRow_below g2 b5).alloc _⟩
              have hx5 : (w5.alloc (.cells [Value.slice uo un uc].toArray 22)).ownsRow 0 5 1 (.slice uo un uc) (pieceI b (0 : Nat) (0 : Nat)).length ((pieceI b (0 : Nat) (0 : Nat)).map (Value.int .u8)) := by rw [HPC.out]; exact (own_lower ho5 (Nat.zero_le _)).alloc _
              have hus : us.length = i := by have := how.1; simpa using this
              have HU5 := Lib.hid hu5
              have HX5 := Lib.hid hx5
              have HUS := Lib.hid hus
              have HW5 := Lib.hid how5
              have HPO5 := Lib.hid hpo5
              have HB5 := Lib.hid hb5
              clear hu5 hx5 hus how5 hpo5 hb5 ho5 b5
              go_wp2_with (at_builtin; go_loud (refine wpList_append_newK w5 rfl (.tmp 47) (.tmp 53) 44 rfl w.heap.size 22 (.slice none 0 0) 1 24 Try.underlying44 info_sl rfl (by decide) u8 i us rfl HW5.out [.slice uo un uc] 1 1 w5.heap.size rfl rfl rfl (by intro u hu; simp at hu; rw [hu]; exact HONE.out _ _ _ _ _ _ HX5.out) (by omega) (by omega) HB5.out.size ?_))
              intro v6 w6 ho6 hb6 hk6
              have hkb : KeepB (w5.alloc (.cells [Value.slice uo un uc].toArray 22)) w6 := keepB_new HW5.out hk6
              have hob6 := OwnB.snoc HLO.out HU5.out HUS.out HX5.out ho6 hkb
              rw [← HTK.out] at hob6
              have hpo6 := own_keepB (HPO5.out.alloc (.cells [Value.slice uo un uc].toArray 22)) (by decide) hkb
              have hb7 := HB5.out.trans hb6
              clear ho6 hb6 hk6 hkb
              go_wp2
              go_roundw
              case rel => exact ⟨i + 1, by omega, by go_num, (by rw [HPR.out]; try rfl), hob6, hpo6, hb7⟩
              case measure => simp [intOf] <;> omega
            | some a =>
              by_cases hbp2 : bc = pN
              · subst hbp2
                go_wp2_with fail
                refine (bclone_any _ [] wr (held_some0 _ _ _ _) (by first | (simp; done) | (simp; omega))).mono ?_
                rintro e w5 ⟨u5, rfl, ho5, b5⟩
                obtain ⟨uo, un, uc, hu5⟩ : ∃ uo un uc, u5 = .slice uo un uc := by
                  obtain ⟨a, c, e⟩ := (held_of_owns ho5).len
                  exact ⟨a, _, c, e⟩
                subst hu5
                have hb5 := hbw.trans (b5.mono hbw.size)
                have hpo5 := ownsRow_below hpo b5
                have how5 := ownsRow_below how b5
                have hu5 : ∀ j, j < i → ∃ u, us[j]? = some u ∧ (w5.alloc (.cells [Value.slice uo un uc].toArray 22)).ownsRow 0 5 1 u (((cutP b 0 P).take i).getD j []).length ((((cutP b 0 P).take i).getD j []).map (Value.int .u8)) := fun j hj => by
                  obtain ⟨u, g1, g2⟩ := HUO.out j hj
                  exact ⟨u, g1, (ownsRow_below g2 b5).alloc _⟩
                have hx5 : (w5.alloc (.cells [Value.slice uo un uc].toArray 22)).ownsRow 0 5 1 (.slice uo un uc) (pieceI b bc bc).length ((pieceI b bc bc).map (Value.int .u8)) := by rw [HPC.out]; exact (own_lower ho5 (Nat.zero_le _)).alloc _
                have hus : us.length = i := by have := how.1; simpa using this
                have HU5 := Lib.hid hu5
                have HX5 := Lib.hid hx5
                have HUS := Lib.hid hus
                have HW5 := Lib.hid how5
                have HPO5 := Lib.hid hpo5
                have HB5 := Lib.hid hb5
                clear hu5 hx5 hus how5 hpo5 hb5 ho5 b5
                go_wp2_with (at_builtin; go_loud (refine wpList_append_newK w5 rfl (.tmp 47) (.tmp 53) 44 rfl w.heap.size 22 (.slice none 0 0) 1 24 Try.underlying44 info_sl rfl (by decide) u8 i us rfl HW5.out [.slice uo un uc] 1 1 w5.heap.size rfl rfl rfl (by intro u hu; simp at hu; rw [hu]; exact HONE.out _ _ _ _ _ _ HX5.out) (by omega) (by omega) HB5.out.size ?_))
                intro v6 w6 ho6 hb6 hk6
                have hkb : KeepB (w5.alloc (.cells [Value.slice uo un uc].toArray 22)) w6 := keepB_new HW5.out hk6
                have hob6 := OwnB.snoc HLO.out HU5.out HUS.out HX5.out ho6 hkb
                rw [← HTK.out] at hob6
                have hpo6 := own_keepB (HPO5.out.alloc (.cells [Value.slice uo un uc].toArray 22)) (by decide) hkb
                have hb7 := HB5.out.trans hb6
                clear ho6 hb6 hk6 hkb
                go_wp2
                go_roundw
                case rel => exact ⟨i + 1, by omega, by go_num, (by rw [HPR.out]; try rfl), hob6, hpo6, hb7⟩
                case measure => simp [intOf] <;> omega
              · have q5 : ¬ (pN = bc) := by omega
                go_wp2_with fail
                refine (bclone_any _ [] wr (held_some0 _ _ _ _) (by first | (simp; done) | (simp; omega))).mono ?_
                rintro e w5 ⟨u5, rfl, ho5, b5⟩
                obtain ⟨uo, un, uc, hu5⟩ : ∃ uo un uc, u5 = .slice uo un uc := by
                  obtain ⟨a, c, e⟩ := (held_of_owns ho5).len
                  exact ⟨a, _, c, e⟩
                subst hu5
                have hb5 := hbw.trans (b5.mono hbw.size)
                have hpo5 := ownsRow_below hpo b5
                have how5 := ownsRow_below how b5
                have hu5 : ∀ j, j < i → ∃ u, us[j]? = some u ∧ (w5.alloc (.cells [Value.slice uo un uc].toArray 22)).ownsRow 0 5 1 u (((cutP b 0 P).take i).getD j []).length ((((cutP b 0 P).take i).getD j []).map (Value.int .u8)) := fun j hj => by
                  obtain ⟨u, g1, g2⟩ := HUO.out j hj
                  exact ⟨u, g1, (ownsRow_below g2 b5).alloc _⟩
                have hx5 : (w5.alloc (.cells [Value.slice uo un uc].toArray 22)).ownsRow 0 5 1 (.slice uo un uc) (pieceI b pN pN).length ((pieceI b pN pN).map (Value.int .u8)) := by rw [HPC.out]; exact (own_lower ho5 (Nat.zero_le _)).alloc _
                have hus : us.length = i := by have := how.1; simpa using this
                have HU5 := Lib.hid hu5
                have HX5 := Lib.hid hx5
                have HUS := Lib.hid hus
                have HW5 := Lib.hid how5
                have HPO5 := Lib.hid hpo5
                have HB5 := Lib.hid hb5
                clear hu5 hx5 hus how5 hpo5 hb5 ho5 b5
                go_wp2_with (at_builtin; go_loud (refine wpList_append_newK w5 rfl (.tmp 47) (.tmp 53) 44 rfl w.heap.size 22 (.slice none 0 0) 1 24 Try.underlying44 info_sl rfl (by decide) u8 i us rfl HW5.out [.slice uo un uc] 1 1 w5.heap.size rfl rfl rfl (by intro u hu; simp at hu; rw [hu]; exact HONE.out _ _ _ _ _ _ HX5.out) (by omega) (by omega) HB5.out.size ?_))
                intro v6 w6 ho6 hb6 hk6
                have hkb : KeepB (w5.alloc (.cells [Value.slice uo un uc].toArray 22)) w6 := keepB_new HW5.out hk6
                have hob6 := OwnB.snoc HLO.out HU5.out HUS.out HX5.out ho6 hkb
                rw [← HTK.out] at hob6
                have hpo6 := own_keepB (HPO5.out.alloc (.cells [Value.slice uo un uc].toArray 22)) (by decide) hkb
                have hb7 := HB5.out.trans hb6
                clear ho6 hb6 hk6 hkb
                go_wp2
                go_roundw
                case rel => exact ⟨i + 1, by omega, by go_num, (by rw [HPR.out]; try rfl), hob6, hpo6, hb7⟩
                case measure => simp [intOf] <;> omega
        · obtain rfl : i = k + 1 := by omega
          rw [List.take_of_length_le (by rw [cutP_len, HPL.out]; omega)] at hob
          go_wp2
          go_ret
          exact ⟨_, _, rfl, by rw [HCUT.out]; exact hob, hbw⟩
end Go.Proofs.Ytgoeacmpphmnoaa
