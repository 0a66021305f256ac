/- tabs.Expand (57). -/
import Derived.Test.YtgkcobmbdpgceaaMg7
import Derived.Test.YtgkcobmbdpgceaaMg6
import Derived.Test.YtgkcobmbdpgceaaMeaJ
import Derived.Test.YtgkcobmbdpgceaaMg1
import Derived.Lib.MinMax
namespace Go.Proofs.Ytgkcobmbdpgceaa
open Go.RowKit Go.ChangeShapes Go.WideShapes
attribute [local go_sem] Oper.semAt_some
theorem info_t4 : (Try.prog.info? 21).map (fun i => (i.zero, i.size, i.bytes)) = some (some (.int .i32 0), (intE .i32).size, 4) := by kernel_rfl
theorem cu_heldT {xs : List Int} {lo hi : Nat} {x : Cu} {W : World} (h : XCu xs lo hi x W) (hn : xs.length ≤ 1000000) : HeldE (intE .i32) (fun b => lo ≤ b ∧ b < hi) W x.v (sliceL xs x.p) := by
  have h9 := h.held
  obtain ⟨g, hv, h1, h2, h3, h4, h5, h6⟩ := h
  have hl := sliceL_len xs x.p (Nat.le_of_lt h4) h5
  rw [hv] at h9 ⊢
  exact heldE_ints h9 (Nat.le_refl _) (by unfold maxLen; omega) (fun a e _ => by cases e; exact ⟨h1, h2⟩)
def ExpI (w : World) (lo g : Nat) (F : Nat → Bool) (xs : List Int) (hi : Nat) (pre : List Cu) (A : World) : Prop :=
  lo ≤ hi ∧ Has A w.heap.size [.pointer (some ⟨g, 0, none⟩)] 44 ∧ (∃ ov, Has A (w.heap.size + 1) [ov] 22 ∧ OwnE (intE .i32) (fun _ => False) A hi 21 ov (expT F (cluL xs pre)).1) ∧ Has A (w.heap.size + 2) [.int .i64 (expT F (cluL xs pre)).2] 3 ∧ Below w.heap.size w A ∧ hi ≤ A.heap.size ∧ pre.length ≤ 1000000 ∧ ExpB pre.length (expT F (cluL xs pre))
set_option maxRecDepth 100000 in
set_option maxHeartbeats 4000000 in
theorem texp_any (g : Nat) (F : Nat → Bool) (v : Value) (xs : List Int) (w : World) (h : StAt w g F) (hx : Held .i32 w v xs) (hn : xs.length ≤ 1000000) : Calls Try.prog 38 #[.pointer (some ⟨g, 0, none⟩), v] w (Cloned 21 .i32 w (expC F xs)) := by
  obtain ⟨ao, ca, rfl⟩ := hx.len
  refine (callsIn_wide (n := 9)).1 ?_
  obtain ⟨W3, hW3⟩ : ∃ W3, W3 = ((w.alloc (.cells #[.pointer (some ⟨g, 0, none⟩)] 44)).alloc (.cells #[.slice none 0 0] 22)).alloc (.cells #[.int .i64 0] 3) := ⟨_, rfl⟩
  have b3 : Below w.heap.size w W3 := by rw [hW3]; exact (((Below.refl _ _).alloc (Nat.le_refl _) _).alloc (by simp) _).alloc (by simp; omega) _
  have hs3 : W3.heap.size = w.heap.size + 3 := by rw [hW3]; simp
  have hh0 : Has W3 w.heap.size [.pointer (some ⟨g, 0, none⟩)] 44 := by rw [hW3]; exact ((Has.new w [.pointer (some ⟨g, 0, none⟩)] _).alloc _).alloc _
  have hh1 : Has W3 (w.heap.size + 1) [.slice none 0 0] 22 := by
    have h := (Has.new (w.alloc (.cells #[.pointer (some ⟨g, 0, none⟩)] 44)) [.slice none 0 0] 22).alloc (.cells #[.int .i64 0] 3)
    rw [World.size_alloc] at h
    rw [hW3]; exact h
  have hh2 : Has W3 (w.heap.size + 2) [.int .i64 0] 3 := by
    have h := Has.new ((w.alloc (.cells #[.pointer (some ⟨g, 0, none⟩)] 44)).alloc (.cells #[.slice none 0 0] 22)) [.int .i64 0] 3
    rw [World.size_alloc, World.size_alloc] at h
    rw [hW3]; exact h
  have HG := Lib.hid (gall_any _ xs W3 (hx.below b3) hn)
  have HW3 := Lib.hid hW3
  have HB3 := Lib.hid b3
  have HS3 := Lib.hid hs3
  have HHB := Lib.hid (And.intro hh0 (And.intro hh1 hh2))
  have HST := Lib.hid h
  have HGL := Lib.hid (show g < w.heap.size from Has.lt h)
  clear hW3 b3 hs3 hh0 hh1 hh2 hx h
  refine callsIn_of_wp_marks Try.func38 rfl trivial ?_ rfl
  simp only [Try.ntmps38, List.size_toArray, List.length_cons, List.length_nil, Nat.reduceAdd, Nat.reduceSub, Array.replicate_succ, Array.replicate_zero, List.push_toArray, List.append_toArray, List.nil_append, List.cons_append]
  gi_wp2_with fail
  rw [← HW3.out]
  first | refine ⟨trivial, (fun h => absurd h (by decide)), (callsIn_wide.2 HG.out).mono ?_⟩ | refine ⟨trivial, (callsIn_wide.2 HG.out).mono ?_⟩
  rintro e w1 ⟨B, vk, rfl, hB, hk, b1, hBl⟩
  have HLT := Lib.hid (show w.heap.size + 3 ≤ w1.heap.size from by have := b1.size; have := HS3.out; omega)
  have HA := Lib.hid (show Has w1 w.heap.size [.pointer (some ⟨g, 0, none⟩)] 44 ∧ Has w1 (w.heap.size + 1) [.slice none 0 0] 22 ∧ Has w1 (w.heap.size + 2) [.int .i64 0] 3 from ⟨HHB.out.1.below b1 HHB.out.1.lt, HHB.out.2.1.below b1 HHB.out.2.1.lt, HHB.out.2.2.below b1 HHB.out.2.2.lt⟩)
  have HBB := Lib.hid (show Below w.heap.size w w1 from HB3.out.trans (b1.mono HB3.out.size))
  have h1 : 1 ≤ 9 := by decide
  clear HHB HG
  gi_wp2_with fail
  refine wpIn_rangeO rfl h1 (gf := 64) (lb := #[.pointer (some ⟨B, 0, none⟩)]) rfl trivial (enters_of Try.func64 (by kernel_rfl) rfl) (gall1_in B vk xs w1 hB hk hn _ (fun b => b = w.heap.size + 1 ∨ b = w.heap.size + 2)) (Below.refl _ _) (fun _ => rfl) (fun b e => by have := HLT.out; omega)
    (ExpI w (w1.heap.size + 2) g F xs) (fun _ _ _ _ => False) ?hI (fun _ _ _ _ _ h _ => h) ?h0 (fun x => { tmps := #[.pointer (some ⟨g, 0, none⟩), .slice ao xs.length ca, .pointer (some ⟨w.heap.size, 0, none⟩), undef, .slice none 0 0, .pointer (some ⟨w.heap.size + 1, 0, none⟩), .pointer (some ⟨w.heap.size + 1 + 1, 0, none⟩), undef, x.v, .slice ao xs.length ca, .func (.func 64) #[] #[.pointer (some ⟨B, 0, none⟩)], .int .i64 (x.p.1 : Int), x.v, undef, undef, undef, undef, undef, undef, undef, undef, undef, undef, undef, undef, undef, undef, undef, undef, undef, undef, undef, undef, undef, undef, undef, undef, undef, undef, undef, undef, undef, undef, undef, undef, undef, undef, undef, undef, undef, undef], defers := [] }) ?assign ?body ?done ?stop
  case hI =>
    rintro hi pre A A' ⟨hlo, h0, ⟨ov, h1, h2⟩, h3, h4, h5, h6, h7⟩ hu
    have hl := HLT.out
    exact ⟨hlo, hu.keep.has h0 (fun e => by omega), ⟨ov, hu.keep.has h1 (fun e => by omega), h2.upd hu (fun b hb e => by
      rcases hb with hb | hb
      · exact hb.elim
      · have := (h2.lt b hb).1; omega)⟩, hu.keep.has h3 (fun e => by omega), h4.upd hu h4.size (fun b e => by omega), Nat.le_trans h5 hu.size, h6, h7⟩
  case h0 =>
    intro hi W1 hb h1 h2
    have hl := HLT.out
    exact ⟨h1, HA.out.1.below hb HA.out.1.lt, ⟨_, HA.out.2.1.below hb HA.out.2.1.lt, OwnE.nil _ _ _ _ _⟩, HA.out.2.2.below hb HA.out.2.2.lt, HBB.out.trans (hb.mono HBB.out.size), h2, Nat.zero_le _, ExpB.zero⟩
  case assign =>
    intro l x W K hK
    unfold encCu
    gi_wp2
    exact hK
  case stop =>
    intro hi c pre W _ h _
    exact h.elim
  case done =>
    rintro hi ys W hS ⟨hlo, h0, ⟨ov, h1, h2⟩, h3, h4, h5, h6, h7⟩ hK
    rw [cluL_all hS] at h2
    have c1 := h1.cell 0 _ rfl
    have hu := upd_putObj (S := fun b => b = w1.heap.size) W w1.heap.size (.deferred none) rfl
    have HL := Lib.hid HLT.out
    have hlt := h2.lt
    have HO := Lib.hid (show World.ownsRow _ w.heap.size 21 1 ov (expC F xs).length ((expC F xs).map (Value.int .i32)) from owns_mono (h2.upd hu (fun b hb e => by
      rcases hb with hb | hb
      · exact hb.elim
      · have := (hlt b hb).1; have := HL.out; omega)).ints (by have := HL.out; omega))
    have HE := Lib.hid (h4.upd hu h4.size (fun b e => by have := HL.out; omega))
    clear h0 h1 h2 h3 h4 hlt
    gi_wp2
    refine ⟨by simp, .inl ⟨_, _, rfl, run_takeDeferred hK, ?_⟩⟩
    exact ⟨ov, by simp [results, Try.results38, go_sem], ov, rfl, HO.out, HE.out⟩
  case body =>
    rintro l hi pre x W hlo hhi ⟨_, h0, ⟨ov, h1, h2⟩, h3, h4, h5, h6, h7⟩ ⟨Wx, hx, hux⟩ hR
    have hl := HLT.out
    have hx := hx.upd hux (fun b h1 h2 => by omega)
    have hxe := cu_heldT hx hn
    have hxp := cu_pos hx
    have hpl := pre_len hR
    obtain ⟨hk1, hk2, _⟩ := next_cu hR
    have hone := cluA_one xs pre.length hk1
    rw [(cluA_at xs pre.length hk1).1, ← (show x.p = (clS xs).getD pre.length (0, 0) from by rw [hk2, clS_at xs _ hk1])] at hone
    have hsn : cluL xs (pre ++ [x]) = cluL xs pre ++ [sliceL xs x.p] := by simp [cluL]
    have hts := expT_snoc F (cluL xs pre) (sliceL xs x.p)
    rw [← hsn] at hts
    have HPL := Lib.hid (show (pre ++ [x]).length ≤ 1000000 from by rw [List.length_append, List.length_singleton]; omega)
    have hstep := h7.step (F := F) (T := sliceL xs x.p) (by omega)
    rw [← hts, show pre.length + 1 = (pre ++ [x]).length from by simp] at hstep
    have hpb : pre.length ≤ 1000000 := h6
    obtain ⟨NX, hNX⟩ : ∃ NX, NX = expT F (cluL xs (pre ++ [x])) := ⟨_, rfl⟩
    rw [← hNX] at hts hstep
    have HNX := Lib.hid hNX
    have HSTEP := Lib.hid hstep
    obtain ⟨S, hS⟩ : ∃ S, S = expT F (cluL xs pre) := ⟨_, rfl⟩
    rw [← hS] at h2 h3 h7 hts
    obtain ⟨OUT, col⟩ := S
    simp only at h2 h3
    obtain ⟨T, hT⟩ : ∃ T, T = sliceL xs x.p := ⟨_, rfl⟩
    rw [← hT] at hxe hxp hone hts
    obtain ⟨xv, hxv⟩ : ∃ xv, xv = x.v := ⟨_, rfl⟩
    rw [← hxv] at hxe ⊢
    obtain ⟨k0, hk0⟩ : ∃ k0 : Int, k0 = (x.p.1 : Int) := ⟨_, rfl⟩
    rw [← hk0]
    have HXE := Lib.hid hxe
    obtain ⟨xa, xc, rfl⟩ := hxe.len
    have hxcap := hxe.spots.2.1
    obtain ⟨b, off, rfl, hb, c0⟩ := hxe.ints.spots 0 hxp.1
    obtain ⟨b9, off9, e9, hb9, cl⟩ := hxe.ints.spots (T.length - 1) (by omega)
    cases e9
    rw [Nat.add_zero] at c0
    have HTS := Lib.hid hts
    have HTL := Lib.hid (show 0 < T.length ∧ T.length ≤ 1000000 by omega)
    have HCOL := Lib.hid (show ∀ w', Held .i32 w' (.slice (some ⟨b, off, none⟩) T.length xc) T → Calls Try.prog 16 #[.slice (some ⟨b, off, none⟩) T.length xc] w' (Gives w' (.int .i64 (wdC T))) from fun w' h => by rw [← hone]; exact mcols_any _ T w' h (by have := HTL.out; omega))
    obtain ⟨b8, o8, e8, hb8, hz8, _⟩ := hxe.spots.2.2 0 hxp.1
    cases e8
    have HBZ := Lib.hid (show w1.heap.size + 2 ≤ b ∧ b < hi from hz8)
    have HHI := Lib.hid (show hi ≤ W.heap.size ∧ w1.heap.size + 2 ≤ hi ∧ w.heap.size + 3 ≤ hi from ⟨hhi, hlo, by omega⟩)
    have HH := Lib.hid (show Has W w.heap.size [.pointer (some ⟨g, 0, none⟩)] 44 ∧ Has W (w.heap.size + 1) [ov] 22 ∧ Has W (w.heap.size + 2) [.int .i64 col] 3 from ⟨h0, h1, h3⟩)
    have HO := Lib.hid h2
    have HLW := Lib.hid h4
    have HEB := Lib.hid (show 0 ≤ col ∧ col ≤ 2001023 ∧ OUT.length ≤ 1001023000000 from ⟨h7.1, by have := h7.2.1; simp only at this; omega, by have := h7.2.2; simp only at this; omega⟩)
    have HEND := Lib.hid (show ∀ W' ov', Has W' w.heap.size [.pointer (some ⟨g, 0, none⟩)] 44 → Has W' (w.heap.size + 1) [ov'] 22 → OwnE (intE .i32) (fun _ => False) W' hi 21 ov' NX.1 → Has W' (w.heap.size + 2) [.int .i64 NX.2] 3 → Below w.heap.size w W' → hi ≤ W'.heap.size → ExpI w (w1.heap.size + 2) g F xs hi (pre ++ [x]) W' from fun W' ov' a1 a2 a3 a4 a5 a6 => by unfold ExpI; rw [← HNX.out]; exact ⟨HHI.out.2.1, a1, ⟨ov', a2, a3⟩, a4, a5, a6, HPL.out, HSTEP.out⟩)
    have HSTW := Lib.hid (show ∀ w', Below w.heap.size w w' → StAt w' g F from fun w' b => Has.below HST.out b HGL.out)
    have HCB := Lib.hid hb
    obtain ⟨tn, htn2⟩ : ∃ tn, tn = T.length := ⟨_, rfl⟩
    rw [← htn2] at HCOL HXE hxp cl hxcap ⊢
    have HTN := Lib.hid htn2
    have htp : 0 < tn := hxp.1
    obtain ⟨ch, hch⟩ : ∃ ch, ch = T.getD 0 0 := ⟨_, rfl⟩
    rw [← hch] at c0
    have HCH := Lib.hid hch
    obtain ⟨lc, hlc⟩ : ∃ lc, lc = T.getD (tn - 1) 0 := ⟨_, rfl⟩
    rw [← hlc] at cl
    have HLC := Lib.hid hlc
    have HCL := Lib.hid cl
    clear hl hx hux hxe hpl hk1 hk2 hone hsn hts hNX hS hT hxv hk0 hb hb9 hR h0 h1 h2 h3 h4 h5 h6 h7 htn2 hch hlc cl hstep hxp hpb hb8 hz8
    by_cases htab : tn = 1 ∧ ch = 9
    · have hq1 : ((tn : Int) == 1) = true := by rw [beq_iff_eq]; omega
      have hq2 : (ch == 9) = true := by rw [beq_iff_eq]; exact htab.2
      have hnb := nextF_bd F col
      have hN : NX = (OUT ++ List.replicate (max (nextF F col - col) 1).toNat 32, col + max (nextF F col - col) 1) := by rw [HTS.out]; unfold tabS; rw [if_pos ⟨by rw [← HTN.out]; exact htab.1, by rw [← HCH.out]; exact htab.2⟩]
      have HNXT := Lib.hid (show ∀ w', Below w.heap.size w w' → Calls Try.prog 33 #[.pointer (some ⟨g, 0, none⟩), .int .i64 col] w' (fun e w9 => e = .returned (.int .i64 (nextF F col)) ∧ w' = w9) from fun w' b => tnext_any g F col w' (HSTW.out w' b))
      obtain ⟨nx, hnx⟩ : ∃ nx, nx = nextF F col := ⟨_, rfl⟩
      rw [← hnx] at hN hnb HNXT
      obtain ⟨cn, hcn⟩ : ∃ cn : Nat, max (nx - col) 1 = (cn : Int) := ⟨(max (nx - col) 1).toNat, by omega⟩
      rw [hcn, Int.toNat_natCast] at hN
      have HN := Lib.hid hN
      have HCN := Lib.hid hcn
      have HCNB := Lib.hid (show cn ≤ 1023 by have := HEB.out; omega)
      have hwr : IntKind.i64.wrap (nx - col) = nx - col := by rw [IntKind.wrap_i64]; have := HEB.out; omega
      clear htab hN hcn hnx hnb
      gi_wp2
      obtain ⟨Erg, hErg⟩ : ∃ EE : Nat → Value → World → Prop, EE = fun jj xx ww => match jj with
          | 0 => xx = .pointer (some ⟨g, 0, none⟩)
          | 1 => xx = .int .i64 col
          | 2 => xx = .int .i64 nx
          | 3 => xx = .int .i64 col
          | 4 => xx = .int .i64 (nx - col)
          | 5 => xx = .int .i64 (max (nx - col) 1)
          | 6 => xx = .int .i64 0
          | _ => True := ⟨_, rfl⟩
      have erg0 : ∀ xx ww, Erg 0 xx ww = (xx = .pointer (some ⟨g, 0, none⟩)) := fun xx ww => congrFun (congrFun (congrFun hErg 0) xx) ww
      have erg1 : ∀ xx ww, Erg 1 xx ww = (xx = .int .i64 col) := fun xx ww => congrFun (congrFun (congrFun hErg 1) xx) ww
      have erg2 : ∀ xx ww, Erg 2 xx ww = (xx = .int .i64 nx) := fun xx ww => congrFun (congrFun (congrFun hErg 2) xx) ww
      have erg3 : ∀ xx ww, Erg 3 xx ww = (xx = .int .i64 col) := fun xx ww => congrFun (congrFun (congrFun hErg 3) xx) ww
      have erg4 : ∀ xx ww, Erg 4 xx ww = (xx = .int .i64 (nx - col)) := fun xx ww => congrFun (congrFun (congrFun hErg 4) xx) ww
      have erg5 : ∀ xx ww, Erg 5 xx ww = (xx = .int .i64 (max (nx - col) 1)) := fun xx ww => congrFun (congrFun (congrFun hErg 5) xx) ww
      have erg6 : ∀ xx ww, Erg 6 xx ww = (xx = .int .i64 0) := fun xx ww => congrFun (congrFun (congrFun hErg 6) xx) ww
      obtain ⟨Crg, hCrg⟩ : ∃ CC : Array Bool → World → Prop, CC = fun L8 w' => Below W.heap.size W w' := ⟨_, rfl⟩
      have krg : ∀ i L w,  Crg L w → Crg (L.setIfInBounds i true) w := by
        intro i L w  h
        rw [hCrg] at h ⊢
        exact h
      obtain ⟨Xrg, hXrg⟩ : ∃ XX : World → World → Prop, XX = fun x y => True := ⟨_, rfl⟩
      have xrg : ∀ w, Xrg w w := fun w => by rw [hXrg]; exact trivial
      have strg : ∀ j x w w1, Xrg w w1 → Erg j x w → Erg j x w1 := by
        intro j x w w1 hx h
        rw [hXrg] at hx
        match j with
        | 0 => rw [erg0] at h ⊢; exact h
        | 1 => rw [erg1] at h ⊢; exact h
        | 2 => rw [erg2] at h ⊢; exact h
        | 3 => rw [erg3] at h ⊢; exact h
        | 4 => rw [erg4] at h ⊢; exact h
        | 5 => rw [erg5] at h ⊢; exact h
        | 6 => rw [erg6] at h ⊢; exact h
        | j + 7 => rw [hErg]; trivial
      have crg : Crg (Array.replicate 7 false) W.drew := by rw [hCrg]; exact (Below.refl _ _).drew
      have brg : ∀ L w w1, Crg L w → Below w.heap.size w w1 → Crg L w1 := by
        intro L w w1 h hb
        rw [hCrg] at h ⊢
        exact h.trans (hb.mono h.size)
      have xbrg : ∀ w w1, Below w.heap.size w w1 → Xrg w w1 := by
        intro w w1 hb
        rw [hXrg]
        trivial
      have Hrgb := Lib.hid brg
      have Hrgxb := Lib.hid xbrg
      clear brg xbrg
      clear hErg
      have Hrgk := Lib.hid krg
      have Hrgx := Lib.hid xrg
      have Hrgst := Lib.hid strg
      have Hrgc := Lib.hid crg
      have HrghC := Lib.hid hCrg
      have HrghX := Lib.hid hXrg
      have Hrge0 := Lib.hid erg0
      have Hrge1 := Lib.hid erg1
      have Hrge2 := Lib.hid erg2
      have Hrge3 := Lib.hid erg3
      have Hrge4 := Lib.hid erg4
      have Hrge5 := Lib.hid erg5
      have Hrge6 := Lib.hid erg6
      clear krg xrg strg crg hCrg hXrg erg0 erg1 erg2 erg3 erg4 erg5 erg6
      gi_wp2_with fail
      refine Reg.regionFIn (fun _ => trivial) rfl Reg.calls_round (by kernel_rfl) Erg Crg Xrg Hrgst.out (by kernel_rfl) (by kernel_rfl) (by kernel_rfl) Hrgc.out (fun Frg hFrg => ?_)
      simp only [Reg.frame, Reg.dsts, List.map_cons, List.map_nil, Mix.put_lit, List.set_cons_succ, List.set_cons_zero, Nat.zero_add, Nat.reduceAdd] at hFrg
      refine ⟨?_, ?_⟩
      · refine ⟨?_, ?_, ?_, ?_, ?_, ?_, ?_, trivial⟩
        · intro Lq wq xq hh
          simp only [hFrg]
          refine .inl ⟨rfl, ?_⟩
          unfold Reg.upon
          have hc : Crg Lq wq := hh.cls
          rw [HrghC.out] at hc
          have q0 := (HH.out.1.below hc HH.out.1.lt).cell 0 _ rfl
          clear hc
          have hk := Hrgk.out 0 Lq wq  hh.cls
          have hx := Hrgx.out wq
          have he : Erg 0 (.pointer (some ⟨g, 0, none⟩)) wq := by rw [Hrge0.out]
          have HK := Lib.hid (And.intro hk (And.intro he hx))
          clear hk hx he
          go_simp
          exact HK.out
        · intro Lq wq xq hh
          simp only [hFrg]
          refine .inl ⟨rfl, ?_⟩
          unfold Reg.upon
          have hc : Crg Lq wq := hh.cls
          rw [HrghC.out] at hc
          have q0 := (HH.out.2.2.below hc HH.out.2.2.lt).cell 0 _ rfl
          clear hc
          have hk := Hrgk.out 1 Lq wq  hh.cls
          have hx := Hrgx.out wq
          have he : Erg 1 (.int .i64 col) wq := by rw [Hrge1.out]
          have HK := Lib.hid (And.intro hk (And.intro he hx))
          clear hk hx he
          go_simp
          exact HK.out
        · intro Lq wq xq hh
          have d0 : Erg 0 (xq 0) wq := hh.val 0 (by kernel_rfl) (by kernel_rfl)
          rw [Hrge0.out] at d0
          have d1 : Erg 1 (xq 1) wq := hh.val 1 (by kernel_rfl) (by kernel_rfl)
          rw [Hrge1.out] at d1
          simp only [hFrg, d0, d1]
          clear d0 d1
          refine .inl ⟨rfl, ?_⟩
          unfold Reg.upon
          have hc : Crg Lq wq := hh.cls
          rw [HrghC.out] at hc
          go_simp
          refine (HNXT.out wq (HLW.out.trans (hc.mono HLW.out.size))).mono ?_
          rintro e w2 ⟨rfl, rfl⟩
          exact ⟨_, rfl, Hrgk.out 2 Lq wq  hh.cls, (by rw [Hrge2.out]; try rfl), Hrgx.out _⟩
        · intro Lq wq xq hh
          simp only [hFrg]
          refine .inl ⟨rfl, ?_⟩
          unfold Reg.upon
          have hc : Crg Lq wq := hh.cls
          rw [HrghC.out] at hc
          have q0 := (HH.out.2.2.below hc HH.out.2.2.lt).cell 0 _ rfl
          clear hc
          have hk := Hrgk.out 3 Lq wq  hh.cls
          have hx := Hrgx.out wq
          have he : Erg 3 (.int .i64 col) wq := by rw [Hrge3.out]
          have HK := Lib.hid (And.intro hk (And.intro he hx))
          clear hk hx he
          go_simp
          exact HK.out
        · intro Lq wq xq hh
          have d2 : Erg 2 (xq 2) wq := hh.val 2 (by kernel_rfl) (by kernel_rfl)
          rw [Hrge2.out] at d2
          have d3 : Erg 3 (xq 3) wq := hh.val 3 (by kernel_rfl) (by kernel_rfl)
          rw [Hrge3.out] at d3
          simp only [hFrg, d2, d3]
          clear d2 d3
          refine .inl ⟨rfl, ?_⟩
          unfold Reg.upon
          have hk := Hrgk.out 4 Lq wq  hh.cls
          have hx := Hrgx.out wq
          have he : Erg 4 (.int .i64 (nx - col)) wq := by rw [Hrge4.out]
          have HK := Lib.hid (And.intro hk (And.intro he hx))
          clear hk hx he
          go_simp
          exact HK.out
        · intro Lq wq xq hh
          have d4 : Erg 4 (xq 4) wq := hh.val 4 (by kernel_rfl) (by kernel_rfl)
          rw [Hrge4.out] at d4
          simp only [hFrg, d4]
          clear d4
          refine .inl ⟨rfl, ?_⟩
          unfold Reg.upon
          have hk := Hrgk.out 5 Lq wq  hh.cls
          have hx := Hrgx.out wq
          have he : Erg 5 (.int .i64 (max (nx - col) 1)) wq := by rw [Hrge5.out]
          have HK := Lib.hid (And.intro hk (And.intro he hx))
          clear hk hx he
          go_simp
          exact HK.out
        · intro Lq wq xq hh
          simp only [hFrg]
          refine .inl ⟨rfl, ?_⟩
          unfold Reg.upon
          have hk := Hrgk.out 6 Lq wq  hh.cls
          have hx := Hrgx.out wq
          have he : Erg 6 (.int .i64 0) wq := by rw [Hrge6.out]
          have HK := Lib.hid (And.intro hk (And.intro he hx))
          clear hk hx he
          go_simp
          exact HK.out
      intro xq wrg hcrg hvrg
      rw [HrghC.out] at hcrg
      simp only [hFrg]
      have vrg5 : Erg 5 (xq 5) wrg := hvrg 5 (by decide)
      rw [Hrge5.out] at vrg5
      rw [vrg5]
      have vrg6 : Erg 6 (xq 6) wrg := hvrg 6 (by decide)
      rw [Hrge6.out] at vrg6
      rw [vrg6]
      clear hvrg hFrg Hrgk Hrgx Hrgst Hrgc HrghC HrghX Hrgb Hrgxb Hrge0 Hrge1 Hrge2 Hrge3 Hrge4 Hrge5 Hrge6
      rw [HCN.out]
      have HUR := Lib.hid (show Upd (fun b => (b = w.heap.size + 1 ∨ b = w.heap.size + 2) ∨ hi ≤ b) W wrg from Upd.ofBelow hcrg)
      have HSR := Lib.hid (show Has wrg w.heap.size [.pointer (some ⟨g, 0, none⟩)] 44 ∧ Has wrg (w.heap.size + 1) [ov] 22 ∧ Has wrg (w.heap.size + 2) [.int .i64 col] 3 from ⟨HH.out.1.below hcrg HH.out.1.lt, HH.out.2.1.below hcrg HH.out.2.1.lt, HH.out.2.2.below hcrg HH.out.2.2.lt⟩)
      have HOR := Lib.hid (HO.out.below hcrg)
      clear hcrg vrg5 vrg6 c0
      gi_wp2
      gi_loopw [28] (fun iv wr => ∃ j : Nat, j ≤ cn ∧ iv = .int .i64 j ∧ Has wr w.heap.size [.pointer (some ⟨g, 0, none⟩)] 44 ∧ (∃ ov, Has wr (w.heap.size + 1) [ov] 22 ∧ OwnE (intE .i32) (fun _ => False) wr hi 21 ov (OUT ++ List.replicate j 32)) ∧ Has wr (w.heap.size + 2) [.int .i64 (col + (j : Int))] 3 ∧ Upd (fun b => (b = w.heap.size + 1 ∨ b = w.heap.size + 2) ∨ hi ≤ b) W wr) (fun iv _ => cn - (intOf iv).toNat)
      case atStart => exact ⟨0, Nat.zero_le _, rfl, HSR.out.1, ⟨ov, HSR.out.2.1, by simpa using HOR.out⟩, by simpa using HSR.out.2.2, HUR.out⟩
      case round =>
        obtain ⟨j, hj, rfl, h0, ⟨oj, h1, h2⟩, h3, hu⟩ := hrel
        obtain ⟨wk, hwk⟩ : ∃ wk, wk = wr := ⟨_, rfl⟩
        subst hwk
        have HK := Lib.hid (show Has wk w.heap.size [.pointer (some ⟨g, 0, none⟩)] 44 ∧ Has wk (w.heap.size + 1) [oj] 22 ∧ Has wk (w.heap.size + 2) [.int .i64 (col + (j : Int))] 3 from ⟨h0, h1, h3⟩)
        have HOJ := Lib.hid h2
        have HUJ := Lib.hid hu
        clear h0 h1 h2 h3 hu
        by_cases hlt : j < cn
        · have hg : decide ((j : Int) < (cn : Int)) = true := by rw [decide_eq_true_eq]; omega
          have hwj : IntKind.i64.wrap ((j : Int) + 1) = (j : Int) + 1 := by rw [IntKind.wrap_i64]; have := HCNB.out; omega
          have hwc : IntKind.i64.wrap (col + (j : Int) + 1) = col + (j : Int) + 1 := by rw [IntKind.wrap_i64]; have := HCNB.out; have := HEB.out; omega
          have c1 := HK.out.2.1.cell 0 _ rfl
          have b0 := (Below.refl wk.heap.size wk).alloc (Nat.le_refl _) (.cells [.int .i32 32].toArray 21)
          have hot : OwnE (intE .i32) (fun _ => True) wk hi 21 oj (OUT ++ List.replicate j 32) := ownE_ints HOJ.out.ints
          have HO1 := Lib.hid (hot.below b0)
          have HLTJ := Lib.hid hot.lt
          have HU := Lib.hid (show HeldE (intE .i32) (fun b => True ∧ oj.ownBlock ≠ some b) (wk.alloc (.cells [.int .i32 32].toArray 21)) (.slice (some ⟨wk.heap.size, 0, none⟩) 1 1) [32] from heldE_one (E := intE .i32) (Y := fun _ => False) [.int .i32 32] 32 rfl (fun _ _ h => h.elim) ⟨trivial, fun e => by have := (hot.lt _ e).2; omega⟩)
          have HB0 := Lib.hid b0
          obtain ⟨PO, hPO⟩ : ∃ PO, PO = OUT ++ List.replicate j (32 : Int) := ⟨_, rfl⟩
          have HPO := Lib.hid (show PO ++ [32] = OUT ++ List.replicate (j + 1) 32 from by rw [hPO, List.append_assoc, List.replicate_succ'])
          have HPL2 := Lib.hid (show PO.length ≤ 1002000000000 from by rw [hPO, List.length_append, List.length_replicate]; have := HEB.out; have := HCNB.out; omega)
          rw [← hPO] at HO1
          have HSZ := Lib.hid (show hi ≤ (wk.alloc (.cells [.int .i32 32].toArray 21)).heap.size from Nat.le_trans (Nat.le_trans HHI.out.1 HUJ.out.size) b0.size)
          clear b0 hot hPO
          gi_wp2_with (gi_at_builtin; refine wpListIn_append_e (E := intE .i32) (Z := fun _ => True) rfl (.tmp 30) (.tmp 31) 22 rfl (.int .i32 0) 4 Try.underlying22 info_t4 rfl (by decide) rfl rfl HO1.out HU.out (by simp only [List.length_singleton]; have := HPL2.out; omega) (by simp only [List.length_singleton]; have := HPL2.out; omega) HSZ.out ?_)
          intro v2 w2 ho2 b2 k2 _
          rw [HPO.out] at ho2
          have hk9 : ∀ b, b < hi → (fun b => oj.ownBlock ≠ some b) b := fun b hb e => by have := (HLTJ.out b e).1; omega
          have hq := HHI.out
          have i0 := k2.has (HK.out.1.below HB0.out HK.out.1.lt) (hk9 _ (by omega))
          have i1 := k2.has (HK.out.2.1.below HB0.out HK.out.2.1.lt) (hk9 _ (by omega))
          have i2 := k2.has (HK.out.2.2.below HB0.out HK.out.2.2.lt) (hk9 _ (by omega))
          have hu1 : Upd (fun b => hi ≤ b) wk w2 := (Upd.ofBelow HB0.out).trans ⟨b2.os, b2.tape, b2.output, k2.size, fun b hb hn => k2.block b hb (fun e => hn (HLTJ.out b e).1)⟩
          obtain ⟨a2, c2, e2⟩ := (ho2.held (Z := fun _ => True) (fun _ _ _ => trivial)).len
          obtain ⟨l2, hl2⟩ : ∃ l2, l2 = (OUT ++ List.replicate (j + 1) (32 : Int)).length := ⟨_, rfl⟩
          rw [← hl2] at e2
          subst e2
          have d1 := i1.cell 0 _ rfl
          have f1 := i1.free 0
          have hu2 := (Upd.refl (fun b => b = w.heap.size + 1) w2).setCell (p := ⟨w.heap.size + 1, 0, none⟩) (.inl rfl) (.slice a2 l2 c2)
          have j1 := i1.set 0 (.slice a2 l2 c2)
          have j0 := hu2.keep.has i0 (by omega)
          have j2 := hu2.keep.has i2 (by omega)
          have ho3 := (ownE_ints (Z := fun _ => False) ho2.ints).upd hu2 (fun b hb e => by
            rcases hb with hb | hb
            · exact hb.elim
            · have := (ho2.lt b hb).1; omega)
          obtain ⟨w3, hw3⟩ : ∃ w3, w3 = w2.setCell ⟨w.heap.size + 1, 0, none⟩ (.slice a2 l2 c2) := ⟨_, rfl⟩
          rw [← hw3] at hu2 j1 j0 j2 ho3
          have d2 := j2.cell 0 _ rfl
          have f2 := j2.free 0
          have hu3 := (Upd.refl (fun b => b = w.heap.size + 2) w3).setCell (p := ⟨w.heap.size + 2, 0, none⟩) (.inl rfl) (.int .i64 (col + (j : Int) + 1))
          have m2 := j2.set 0 (.int .i64 (col + (j : Int) + 1))
          have m1 := hu3.keep.has j1 (by omega)
          have m0 := hu3.keep.has j0 (by omega)
          have ho4 := ho3.upd hu3 (fun b hb e => by
            rcases hb with hb | hb
            · exact hb.elim
            · have := (ho3.lt b hb).1; omega)
          have HF0 := Lib.hid m0
          have HF1 := Lib.hid m1
          have HF2 := Lib.hid (show Has _ (w.heap.size + 2) [.int .i64 (col + ((j + 1 : Nat) : Int))] 3 from by
            have e9 : col + ((j + 1 : Nat) : Int) = col + (j : Int) + 1 := by omega
            rw [e9]; exact m2)
          have HFO := Lib.hid ho4
          have HFU := Lib.hid (((HUJ.out.trans (hu1.mono (fun b _ e => .inr e))).trans (hu2.mono (fun b _ e => .inl (.inl e)))).trans (hu3.mono (fun b _ e => .inl (.inr e))))
          have HW3 := Lib.hid hw3
          clear i0 i1 i2 j0 j1 j2 m0 m1 m2 hu1 hu2 hu3 ho2 ho3 ho4 b2 k2 hk9 hq hl2 hw3
          gi_upto_region 9 with (fail)
          rw [← HW3.out]
          gi_wp2
          go_roundw
          case rel => exact ⟨j + 1, by omega, by go_num, HF0.out, ⟨_, HF1.out, HFO.out⟩, HF2.out, HFU.out⟩
          case measure => simp [intOf] <;> omega
        · obtain rfl : j = cn := by omega
          have hg : decide ((j : Int) < (j : Int)) = false := by simp
          have HX1 := Lib.hid (show Upd (fun b => (b = w.heap.size + 1 ∨ b = w.heap.size + 2) ∨ hi ≤ b) W wk from HUJ.out)
          have HX2 := Lib.hid (HEND.out wk oj HK.out.1 HK.out.2.1 (by rw [HN.out]; exact HOJ.out) (by rw [HN.out]; exact HK.out.2.2) (HLW.out.upd HUJ.out HLW.out.size (fun b e => by have := HHI.out; omega)) (Nat.le_trans HHI.out.1 HUJ.out.size))
          gi_wp2
          exact ⟨HX1.out, HX2.out⟩
    · have hN : NX = (OUT ++ T, if T.getD (T.length - 1) 0 = 10 then 0 else col + wdC T) := by rw [HTS.out]; unfold tabS; rw [if_neg (fun e => htab ⟨by rw [HTN.out]; exact e.1, by rw [HCH.out]; exact e.2⟩)]
      have HN := Lib.hid hN
      obtain ⟨q, hq9⟩ : ∃ q, q = tn - 1 := ⟨_, rfl⟩
      have hcl := HCL.out
      rw [← hq9] at HLC hcl
      have HCLQ := Lib.hid hcl
      rw [show T.length - 1 = q from by rw [← HTN.out, hq9]] at HN
      have hsub : IntKind.i64.wrap ((tn : Int) - 1) = (q : Int) := by rw [IntKind.wrap_i64]; have := HTL.out; have := HTN.out; omega
      have hqt : q < tn := by omega
      have hqti : (q : Int) < (tn : Int) := by omega
      have hqc : q < xc := by omega
      clear hN hq9 hcl
      by_cases h1 : tn = 1
      · have hq1 : ((tn : Int) == 1) = true := by rw [beq_iff_eq]; omega
        have hq2 : (ch == 9) = false := by rw [beq_eq_false_iff_ne]; exact fun e => htab ⟨h1, e⟩
        clear htab h1
        gi_upto_region 11 with (fail)
        have c1 := HH.out.2.1.cell 0 _ rfl
        have hot : OwnE (intE .i32) (fun _ => True) W hi 21 ov OUT := ownE_ints HO.out.ints
        have HOT := Lib.hid hot
        have HLTJ := Lib.hid hot.lt
        have HU := Lib.hid (show HeldE (intE .i32) (fun b => True ∧ ov.ownBlock ≠ some b) W (.slice (some ⟨b, off, none⟩) tn xc) T from HXE.out.zoned (fun b _ hz => ⟨trivial, fun e => by have := (HLTJ.out b e).1; omega⟩))
        clear hot
        gi_wp2_with (gi_at_builtin; refine wpListIn_append_e (E := intE .i32) (Z := fun _ => True) rfl (.tmp 36) (.tmp 37) 22 rfl (.int .i32 0) 4 Try.underlying22 info_t4 rfl (by decide) rfl rfl HOT.out HU.out (by have := HEB.out; have := HTL.out; omega) (by have := HEB.out; have := HTL.out; omega) HHI.out.1 ?_)
        intro v2 w2 ho2 b2 k2 _
        have hk9 : ∀ b, b < hi → (fun b => ov.ownBlock ≠ some b) b := fun b hb e => by have := (HLTJ.out b e).1; omega
        have hq := HHI.out
        have hbz := HBZ.out
        have i0 := k2.has HH.out.1 (hk9 _ (by omega))
        have i1 := k2.has HH.out.2.1 (hk9 _ (by omega))
        have i2 := k2.has HH.out.2.2 (hk9 _ (by omega))
        have hu1 : Upd (fun b => hi ≤ b) W w2 := ⟨b2.os, b2.tape, b2.output, k2.size, fun b hb hn => k2.block b hb (fun e => hn (HLTJ.out b e).1)⟩
        obtain ⟨a2, c2, e2⟩ := (ho2.held (Z := fun _ => True) (fun _ _ _ => trivial)).len
        obtain ⟨l2, hl2⟩ : ∃ l2, l2 = (OUT ++ T).length := ⟨_, rfl⟩
        rw [← hl2] at e2
        subst e2
        have d1 := i1.cell 0 _ rfl
        have f1 := i1.free 0
        have hu2 := (Upd.refl (fun b => b = w.heap.size + 1) w2).setCell (p := ⟨w.heap.size + 1, 0, none⟩) (.inl rfl) (.slice a2 l2 c2)
        have j1 := i1.set 0 (.slice a2 l2 c2)
        have j0 := hu2.keep.has i0 (by omega)
        have j2 := hu2.keep.has i2 (by omega)
        have hl3 := HLT.out
        have hcl3 := (hu2.keep.cell (b := b) (o := off + q) (Nat.lt_of_lt_of_le HCB.out k2.size) (by omega)).trans ((k2.cell (b := b) (o := off + q) HCB.out (hk9 b hbz.2)).trans HCLQ.out)
        have hxh := (HXE.out.upd hu1 (fun b hz e => by omega)).upd hu2 (fun b hz e => by omega)
        have ho3 := (ownE_ints (Z := fun _ => False) ho2.ints).upd hu2 (fun b hb e => by
          rcases hb with hb | hb
          · exact hb.elim
          · have := (ho2.lt b hb).1; omega)
        obtain ⟨w3, hw3⟩ : ∃ w3, w3 = w2.setCell ⟨w.heap.size + 1, 0, none⟩ (.slice a2 l2 c2) := ⟨_, rfl⟩
        rw [← hw3] at hu2 j1 j0 j2 ho3 hcl3 hxh
        have HU3 := Lib.hid ((hu1.mono (T := fun b => (b = w.heap.size + 1 ∨ b = w.heap.size + 2) ∨ hi ≤ b) (fun b _ e => .inr e)).trans (hu2.mono (fun b _ e => .inl (.inl e))))
        have HJ := Lib.hid (show Has w3 w.heap.size [.pointer (some ⟨g, 0, none⟩)] 44 ∧ Has w3 (w.heap.size + 1) [.slice a2 l2 c2] 22 ∧ Has w3 (w.heap.size + 2) [.int .i64 col] 3 from ⟨j0, j1, j2⟩)
        have HO3 := Lib.hid ho3
        have HXH := Lib.hid hxh
        have HW3 := Lib.hid hw3
        clear i0 i1 i2 j0 j1 j2 hu1 hu2 ho2 ho3 hxh b2 k2 hk9 hq hbz hl2 hw3 hl3
        gi_upto_region 12 with (fail)
        rw [← HW3.out]
        clear d1 f1 c1
        by_cases hnl : lc = 10
        · have hb10 : (lc == 10) = true := by rw [beq_iff_eq]; exact hnl
          rw [if_pos (by rw [← HLC.out]; exact hnl)] at HN
          have d2 := HJ.out.2.2.cell 0 _ rfl
          have f2 := HJ.out.2.2.free 0
          have hu3 := (Upd.refl (fun b => b = w.heap.size + 2) w3).setCell (p := ⟨w.heap.size + 2, 0, none⟩) (.inl rfl) (.int .i64 0)
          have hu4 := HU3.out.trans (hu3.mono (fun b _ e => .inl (.inr e)))
          have HX1 := Lib.hid hu4
          have HX2 := Lib.hid (HEND.out _ _ (hu3.keep.has HJ.out.1 (by omega)) (hu3.keep.has HJ.out.2.1 (by omega)) (by
            rw [HN.out]
            exact HO3.out.upd hu3 (fun b hb e => by
              rcases hb with hb | hb
              · exact hb.elim
              · have := (HO3.out.lt b hb).1; have := HHI.out; omega)) (by rw [HN.out]; exact HJ.out.2.2.set 0 (.int .i64 0)) (HLW.out.upd hu4 HLW.out.size (fun b e => by have := HHI.out; omega)) (Nat.le_trans HHI.out.1 hu4.size))
          clear hu3 hu4 hnl
          gi_wp2
          exact ⟨HX1.out, HX2.out⟩
        · have hb10 : (lc == 10) = false := by rw [beq_eq_false_iff_ne]; exact hnl
          rw [if_neg (by rw [← HLC.out]; exact hnl)] at HN
          have hwb := wdC_bd T
          have HCOL3 := Lib.hid (show ∀ w', Below w3.heap.size w3 w' → Calls Try.prog 16 #[.slice (some ⟨b, off, none⟩) tn xc] w' (Gives w' (.int .i64 (wdC T))) from fun w' h => HCOL.out w' (HXH.out.ints.below h))
          obtain ⟨wd, hwd⟩ : ∃ wd, wd = wdC T := ⟨_, rfl⟩
          rw [← hwd] at HCOL3 HN hwb
          have hsw : IntKind.i64.wrap (col + wd) = col + wd := by rw [IntKind.wrap_i64]; have := HEB.out; omega
          clear hnl hwd hwb
          gi_wp2
          obtain ⟨Erg, hErg⟩ : ∃ EE : Nat → Value → World → Prop, EE = fun jj xx ww => match jj with
              | 0 => xx = .int .i64 col
              | 1 => xx = .slice (some ⟨b, off, none⟩) tn xc
              | 2 => xx = .int .i64 wd
              | 3 => xx = .int .i64 (col + wd)
              | 4 => xx = undef
              | _ => True := ⟨_, rfl⟩
          have erg0 : ∀ xx ww, Erg 0 xx ww = (xx = .int .i64 col) := fun xx ww => congrFun (congrFun (congrFun hErg 0) xx) ww
          have erg1 : ∀ xx ww, Erg 1 xx ww = (xx = .slice (some ⟨b, off, none⟩) tn xc) := fun xx ww => congrFun (congrFun (congrFun hErg 1) xx) ww
          have erg2 : ∀ xx ww, Erg 2 xx ww = (xx = .int .i64 wd) := fun xx ww => congrFun (congrFun (congrFun hErg 2) xx) ww
          have erg3 : ∀ xx ww, Erg 3 xx ww = (xx = .int .i64 (col + wd)) := fun xx ww => congrFun (congrFun (congrFun hErg 3) xx) ww
          have erg4 : ∀ xx ww, Erg 4 xx ww = (xx = undef) := fun xx ww => congrFun (congrFun (congrFun hErg 4) xx) ww
          obtain ⟨Crg, hCrg⟩ : ∃ CC : Array Bool → World → Prop, CC = fun L8 w' => (Mix.one L8 4 = 0 → Below w3.heap.size w3 w') ∧ (Mix.one L8 4 = 1 → Has w' (w.heap.size + 2) [.int .i64 (col + wd)] 3 ∧ Upd (fun b => b = w.heap.size + 2) w3 w') := ⟨_, rfl⟩
          have krg : ∀ i L w, i ≠ 4 →  Crg L w → Crg (L.setIfInBounds i true) w := by
            intro i L w q4 h
            rw [hCrg] at h ⊢
            simp only [Mix.one_ne q4]; exact h
          obtain ⟨Xrg, hXrg⟩ : ∃ XX : World → World → Prop, XX = fun x y => Upd (fun b => b = w.heap.size + 2) x y := ⟨_, rfl⟩
          have xrg : ∀ w, Xrg w w := fun w => by rw [hXrg]; exact Upd.refl _ _
          have strg : ∀ j x w w1, Xrg w w1 → Erg j x w → Erg j x w1 := by
            intro j x w w1 hx h
            rw [hXrg] at hx
            match j with
            | 0 => rw [erg0] at h ⊢; exact h
            | 1 => rw [erg1] at h ⊢; exact h
            | 2 => rw [erg2] at h ⊢; exact h
            | 3 => rw [erg3] at h ⊢; exact h
            | 4 => rw [erg4] at h ⊢; exact h
            | j + 5 => rw [hErg]; trivial
          have crg : Crg (Array.replicate 5 false) w3.drew := by rw [hCrg]; exact ⟨fun _ => (Below.refl _ _).drew, fun e => absurd e (by decide)⟩
          have brg : ∀ L w w1, Crg L w → Below w.heap.size w w1 → Crg L w1 := by
            intro L w w1 h hb
            rw [hCrg] at h ⊢
            (obtain ⟨q1, q2⟩ := h; exact ⟨fun e => (q1 e).trans (hb.mono (q1 e).size), fun e => ⟨(q2 e).1.below hb (q2 e).1.lt, (q2 e).2.trans (.ofBelow hb)⟩⟩)
          have xbrg : ∀ w w1, Below w.heap.size w w1 → Xrg w w1 := by
            intro w w1 hb
            rw [hXrg]
            exact Upd.ofBelow hb
          have Hrgb := Lib.hid brg
          have Hrgxb := Lib.hid xbrg
          clear brg xbrg
          clear hErg
          have Hrgk := Lib.hid krg
          have Hrgx := Lib.hid xrg
          have Hrgst := Lib.hid strg
          have Hrgc := Lib.hid crg
          have HrghC := Lib.hid hCrg
          have HrghX := Lib.hid hXrg
          have Hrge0 := Lib.hid erg0
          have Hrge1 := Lib.hid erg1
          have Hrge2 := Lib.hid erg2
          have Hrge3 := Lib.hid erg3
          have Hrge4 := Lib.hid erg4
          clear krg xrg strg crg hCrg hXrg erg0 erg1 erg2 erg3 erg4
          gi_wp2_with fail
          refine Reg.regionFIn (fun _ => trivial) rfl Reg.calls_round (by kernel_rfl) Erg Crg Xrg Hrgst.out (by kernel_rfl) (by kernel_rfl) (by kernel_rfl) Hrgc.out (fun Frg hFrg => ?_)
          simp only [Reg.frame, Reg.dsts, List.map_cons, List.map_nil, Mix.put_lit, Reg.put_none, List.set_cons_succ, List.set_cons_zero, Nat.zero_add, Nat.reduceAdd] at hFrg
          refine ⟨?_, ?_⟩
          · refine ⟨?_, ?_, ?_, ?_, ?_, trivial⟩
            · intro Lq wq xq hh
              simp only [hFrg]
              refine .inl ⟨rfl, ?_⟩
              unfold Reg.upon
              have hc : Crg Lq wq := hh.cls
              rw [HrghC.out] at hc
              have q0 := ((hc.1 (Mix.one_un (hh.notYet 4 (by kernel_rfl)))).cell (p := ⟨w.heap.size + 2, 0, none⟩) HJ.out.2.2.lt).trans (HJ.out.2.2.cell 0 _ rfl)
              clear hc
              have hk := Hrgk.out 0 Lq wq (by decide)  hh.cls
              have hx := Hrgx.out wq
              have he : Erg 0 (.int .i64 col) wq := by rw [Hrge0.out]
              have HK := Lib.hid (And.intro hk (And.intro he hx))
              clear hk hx he
              go_simp
              exact HK.out
            · intro Lq wq xq hh
              simp only [hFrg]
              refine .inl ⟨rfl, ?_⟩
              unfold Reg.upon
              have hk := Hrgk.out 1 Lq wq (by decide)  hh.cls
              have hx := Hrgx.out wq
              have he : Erg 1 (.slice (some ⟨b, off, none⟩) tn xc) wq := by rw [Hrge1.out]
              have HK := Lib.hid (And.intro hk (And.intro he hx))
              clear hk hx he
              go_simp
              exact HK.out
            · intro Lq wq xq hh
              have d1 : Erg 1 (xq 1) wq := hh.val 1 (by kernel_rfl) (by kernel_rfl)
              rw [Hrge1.out] at d1
              simp only [hFrg, d1]
              clear d1
              refine .inl ⟨rfl, ?_⟩
              unfold Reg.upon
              have hc : Crg Lq wq := hh.cls
              rw [HrghC.out] at hc
              go_simp
              refine (HCOL3.out wq (hc.1 (Mix.one_un (hh.notYet 4 (by kernel_rfl))))).mono ?_
              rintro e w2 ⟨rfl, hb⟩
              exact ⟨_, rfl, Hrgk.out 2 Lq w2 (by decide) (Hrgb.out Lq wq w2 hh.cls hb), (by rw [Hrge2.out]), Hrgxb.out wq w2 hb⟩
            · intro Lq wq xq hh
              have d0 : Erg 0 (xq 0) wq := hh.val 0 (by kernel_rfl) (by kernel_rfl)
              rw [Hrge0.out] at d0
              have d2 : Erg 2 (xq 2) wq := hh.val 2 (by kernel_rfl) (by kernel_rfl)
              rw [Hrge2.out] at d2
              simp only [hFrg, d0, d2]
              clear d0 d2
              refine .inl ⟨rfl, ?_⟩
              unfold Reg.upon
              have hk := Hrgk.out 3 Lq wq (by decide)  hh.cls
              have hx := Hrgx.out wq
              have he : Erg 3 (.int .i64 (col + wd)) wq := by rw [Hrge3.out]
              have HK := Lib.hid (And.intro hk (And.intro he hx))
              clear hk hx he
              go_simp
              exact HK.out
            · intro Lq wq xq hh
              have d3 : Erg 3 (xq 3) wq := hh.val 3 (by kernel_rfl) (by kernel_rfl)
              rw [Hrge3.out] at d3
              simp only [hFrg, d3]
              clear d3
              refine .inl ⟨rfl, ?_⟩
              unfold Reg.upon
              have hc : Crg Lq wq := hh.cls
              rw [HrghC.out] at hc
              have hbq := hc.1 hh.un
              have h4 := HJ.out.2.2.below hbq HJ.out.2.2.lt
              have c9 := h4.cell 0 _ rfl
              have f9 := h4.free 0
              have h5 := h4.set 0 (.int .i64 (col + wd))
              have u5 := (Upd.refl (fun b => b = w.heap.size + 2) wq).setCell (p := ⟨w.heap.size + 2, 0, none⟩) (.inl rfl) (.int .i64 (col + wd))
              have hF : Crg (Lq.setIfInBounds 4 true) (World.setCell wq ⟨w.heap.size + 2, 0, none⟩ (.int .i64 (col + wd))) ∧ Erg 4 undef (World.setCell wq ⟨w.heap.size + 2, 0, none⟩ (.int .i64 (col + wd))) ∧ Xrg wq (World.setCell wq ⟨w.heap.size + 2, 0, none⟩ (.int .i64 (col + wd))) := by
                refine ⟨?_, by rw [Hrge4.out], by rw [HrghX.out]; exact u5⟩
                rw [HrghC.out]
                exact ⟨fun e9 => (by rw [Mix.one_set (by rw [hh.size]; decide)] at e9; exact absurd e9 (by decide)), fun _ => ⟨h5, (Upd.ofBelow hbq).trans u5⟩⟩
              clear hc h5 u5 h4 hbq
              go_simp
              try exact hF
          intro xq wrg hcrg hvrg
          rw [HrghC.out] at hcrg
          simp only [hFrg]
          clear hvrg hFrg Hrgk Hrgx Hrgst Hrgc HrghC HrghX Hrgb Hrgxb Hrge0 Hrge1 Hrge2 Hrge3 Hrge4
          obtain ⟨q1, q2⟩ := hcrg.2 (by kernel_rfl)
          have hu4 := HU3.out.trans (q2.mono (fun b _ e => .inl (.inr e)))
          have HX1 := Lib.hid hu4
          have HX2 := Lib.hid (HEND.out wrg _ (q2.keep.has HJ.out.1 (by omega)) (q2.keep.has HJ.out.2.1 (by omega)) (by
            rw [HN.out]
            exact HO3.out.upd q2 (fun b hb e => by
              rcases hb with hb | hb
              · exact hb.elim
              · have := (HO3.out.lt b hb).1; have := HHI.out; omega)) (by rw [HN.out]; exact q1) (HLW.out.upd hu4 HLW.out.size (fun b e => by have := HHI.out; omega)) (Nat.le_trans HHI.out.1 hu4.size))
          clear q1 q2 hu4 hcrg
          gi_wp2
          exact ⟨HX1.out, HX2.out⟩
      · have hq1 : ((tn : Int) == 1) = false := by rw [beq_eq_false_iff_ne]; omega
        clear htab h1
        gi_upto_region 11 with (fail)
        have c1 := HH.out.2.1.cell 0 _ rfl
        have hot : OwnE (intE .i32) (fun _ => True) W hi 21 ov OUT := ownE_ints HO.out.ints
        have HOT := Lib.hid hot
        have HLTJ := Lib.hid hot.lt
        have HU := Lib.hid (show HeldE (intE .i32) (fun b => True ∧ ov.ownBlock ≠ some b) W (.slice (some ⟨b, off, none⟩) tn xc) T from HXE.out.zoned (fun b _ hz => ⟨trivial, fun e => by have := (HLTJ.out b e).1; omega⟩))
        clear hot
        gi_wp2_with (gi_at_builtin; refine wpListIn_append_e (E := intE .i32) (Z := fun _ => True) rfl (.tmp 36) (.tmp 37) 22 rfl (.int .i32 0) 4 Try.underlying22 info_t4 rfl (by decide) rfl rfl HOT.out HU.out (by have := HEB.out; have := HTL.out; omega) (by have := HEB.out; have := HTL.out; omega) HHI.out.1 ?_)
        intro v2 w2 ho2 b2 k2 _
        have hk9 : ∀ b, b < hi → (fun b => ov.ownBlock ≠ some b) b := fun b hb e => by have := (HLTJ.out b e).1; omega
        have hq := HHI.out
        have hbz := HBZ.out
        have i0 := k2.has HH.out.1 (hk9 _ (by omega))
        have i1 := k2.has HH.out.2.1 (hk9 _ (by omega))
        have i2 := k2.has HH.out.2.2 (hk9 _ (by omega))
        have hu1 : Upd (fun b => hi ≤ b) W w2 := ⟨b2.os, b2.tape, b2.output, k2.size, fun b hb hn => k2.block b hb (fun e => hn (HLTJ.out b e).1)⟩
        obtain ⟨a2, c2, e2⟩ := (ho2.held (Z := fun _ => True) (fun _ _ _ => trivial)).len
        obtain ⟨l2, hl2⟩ : ∃ l2, l2 = (OUT ++ T).length := ⟨_, rfl⟩
        rw [← hl2] at e2
        subst e2
        have d1 := i1.cell 0 _ rfl
        have f1 := i1.free 0
        have hu2 := (Upd.refl (fun b => b = w.heap.size + 1) w2).setCell (p := ⟨w.heap.size + 1, 0, none⟩) (.inl rfl) (.slice a2 l2 c2)
        have j1 := i1.set 0 (.slice a2 l2 c2)
        have j0 := hu2.keep.has i0 (by omega)
        have j2 := hu2.keep.has i2 (by omega)
        have hl3 := HLT.out
        have hcl3 := (hu2.keep.cell (b := b) (o := off + q) (Nat.lt_of_lt_of_le HCB.out k2.size) (by omega)).trans ((k2.cell (b := b) (o := off + q) HCB.out (hk9 b hbz.2)).trans HCLQ.out)
        have hxh := (HXE.out.upd hu1 (fun b hz e => by omega)).upd hu2 (fun b hz e => by omega)
        have ho3 := (ownE_ints (Z := fun _ => False) ho2.ints).upd hu2 (fun b hb e => by
          rcases hb with hb | hb
          · exact hb.elim
          · have := (ho2.lt b hb).1; omega)
        obtain ⟨w3, hw3⟩ : ∃ w3, w3 = w2.setCell ⟨w.heap.size + 1, 0, none⟩ (.slice a2 l2 c2) := ⟨_, rfl⟩
        rw [← hw3] at hu2 j1 j0 j2 ho3 hcl3 hxh
        have HU3 := Lib.hid ((hu1.mono (T := fun b => (b = w.heap.size + 1 ∨ b = w.heap.size + 2) ∨ hi ≤ b) (fun b _ e => .inr e)).trans (hu2.mono (fun b _ e => .inl (.inl e))))
        have HJ := Lib.hid (show Has w3 w.heap.size [.pointer (some ⟨g, 0, none⟩)] 44 ∧ Has w3 (w.heap.size + 1) [.slice a2 l2 c2] 22 ∧ Has w3 (w.heap.size + 2) [.int .i64 col] 3 from ⟨j0, j1, j2⟩)
        have HO3 := Lib.hid ho3
        have HXH := Lib.hid hxh
        have HW3 := Lib.hid hw3
        clear i0 i1 i2 j0 j1 j2 hu1 hu2 ho2 ho3 hxh b2 k2 hk9 hq hbz hl2 hw3 hl3
        gi_upto_region 12 with (fail)
        rw [← HW3.out]
        clear d1 f1 c1
        by_cases hnl : lc = 10
        · have hb10 : (lc == 10) = true := by rw [beq_iff_eq]; exact hnl
          rw [if_pos (by rw [← HLC.out]; exact hnl)] at HN
          have d2 := HJ.out.2.2.cell 0 _ rfl
          have f2 := HJ.out.2.2.free 0
          have hu3 := (Upd.refl (fun b => b = w.heap.size + 2) w3).setCell (p := ⟨w.heap.size + 2, 0, none⟩) (.inl rfl) (.int .i64 0)
          have hu4 := HU3.out.trans (hu3.mono (fun b _ e => .inl (.inr e)))
          have HX1 := Lib.hid hu4
          have HX2 := Lib.hid (HEND.out _ _ (hu3.keep.has HJ.out.1 (by omega)) (hu3.keep.has HJ.out.2.1 (by omega)) (by
            rw [HN.out]
            exact HO3.out.upd hu3 (fun b hb e => by
              rcases hb with hb | hb
              · exact hb.elim
              · have := (HO3.out.lt b hb).1; have := HHI.out; omega)) (by rw [HN.out]; exact HJ.out.2.2.set 0 (.int .i64 0)) (HLW.out.upd hu4 HLW.out.size (fun b e => by have := HHI.out; omega)) (Nat.le_trans HHI.out.1 hu4.size))
          clear hu3 hu4 hnl
          gi_wp2
          exact ⟨HX1.out, HX2.out⟩
        · have hb10 : (lc == 10) = false := by rw [beq_eq_false_iff_ne]; exact hnl
          rw [if_neg (by rw [← HLC.out]; exact hnl)] at HN
          have hwb := wdC_bd T
          have HCOL3 := Lib.hid (show ∀ w', Below w3.heap.size w3 w' → Calls Try.prog 16 #[.slice (some ⟨b, off, none⟩) tn xc] w' (Gives w' (.int .i64 (wdC T))) from fun w' h => HCOL.out w' (HXH.out.ints.below h))
          obtain ⟨wd, hwd⟩ : ∃ wd, wd = wdC T := ⟨_, rfl⟩
          rw [← hwd] at HCOL3 HN hwb
          have hsw : IntKind.i64.wrap (col + wd) = col + wd := by rw [IntKind.wrap_i64]; have := HEB.out; omega
          clear hnl hwd hwb
          gi_wp2
          obtain ⟨Erg, hErg⟩ : ∃ EE : Nat → Value → World → Prop, EE = fun jj xx ww => match jj with
              | 0 => xx = .int .i64 col
              | 1 => xx = .slice (some ⟨b, off, none⟩) tn xc
              | 2 => xx = .int .i64 wd
              | 3 => xx = .int .i64 (col + wd)
              | 4 => xx = undef
              | _ => True := ⟨_, rfl⟩
          have erg0 : ∀ xx ww, Erg 0 xx ww = (xx = .int .i64 col) := fun xx ww => congrFun (congrFun (congrFun hErg 0) xx) ww
          have erg1 : ∀ xx ww, Erg 1 xx ww = (xx = .slice (some ⟨b, off, none⟩) tn xc) := fun xx ww => congrFun (congrFun (congrFun hErg 1) xx) ww
          have erg2 : ∀ xx ww, Erg 2 xx ww = (xx = .int .i64 wd) := fun xx ww => congrFun (congrFun (congrFun hErg 2) xx) ww
          have erg3 : ∀ xx ww, Erg 3 xx ww = (xx = .int .i64 (col + wd)) := fun xx ww => congrFun (congrFun (congrFun hErg 3) xx) ww
          have erg4 : ∀ xx ww, Erg 4 xx ww = (xx = undef) := fun xx ww => congrFun (congrFun (congrFun hErg 4) xx) ww
          obtain ⟨Crg, hCrg⟩ : ∃ CC : Array Bool → World → Prop, CC = fun L8 w' => (Mix.one L8 4 = 0 → Below w3.heap.size w3 w') ∧ (Mix.one L8 4 = 1 → Has w' (w.heap.size + 2) [.int .i64 (col + wd)] 3 ∧ Upd (fun b => b = w.heap.size + 2) w3 w') := ⟨_, rfl⟩
          have krg : ∀ i L w, i ≠ 4 →  Crg L w → Crg (L.setIfInBounds i true) w := by
            intro i L w q4 h
            rw [hCrg] at h ⊢
            simp only [Mix.one_ne q4]; exact h
          obtain ⟨Xrg, hXrg⟩ : ∃ XX : World → World → Prop, XX = fun x y => Upd (fun b => b = w.heap.size + 2) x y := ⟨_, rfl⟩
          have xrg : ∀ w, Xrg w w := fun w => by rw [hXrg]; exact Upd.refl _ _
          have strg : ∀ j x w w1, Xrg w w1 → Erg j x w → Erg j x w1 := by
            intro j x w w1 hx h
            rw [hXrg] at hx
            match j with
            | 0 => rw [erg0] at h ⊢; exact h
            | 1 => rw [erg1] at h ⊢; exact h
            | 2 => rw [erg2] at h ⊢; exact h
            | 3 => rw [erg3] at h ⊢; exact h
            | 4 => rw [erg4] at h ⊢; exact h
            | j + 5 => rw [hErg]; trivial
          have crg : Crg (Array.replicate 5 false) w3.drew := by rw [hCrg]; exact ⟨fun _ => (Below.refl _ _).drew, fun e => absurd e (by decide)⟩
          have brg : ∀ L w w1, Crg L w → Below w.heap.size w w1 → Crg L w1 := by
            intro L w w1 h hb
            rw [hCrg] at h ⊢
            (obtain ⟨q1, q2⟩ := h; exact ⟨fun e => (q1 e).trans (hb.mono (q1 e).size), fun e => ⟨(q2 e).1.below hb (q2 e).1.lt, (q2 e).2.trans (.ofBelow hb)⟩⟩)
          have xbrg : ∀ w w1, Below w.heap.size w w1 → Xrg w w1 := by
            intro w w1 hb
            rw [hXrg]
            exact Upd.ofBelow hb
          have Hrgb := Lib.hid brg
          have Hrgxb := Lib.hid xbrg
          clear brg xbrg
          clear hErg
          have Hrgk := Lib.hid krg
          have Hrgx := Lib.hid xrg
          have Hrgst := Lib.hid strg
          have Hrgc := Lib.hid crg
          have HrghC := Lib.hid hCrg
          have HrghX := Lib.hid hXrg
          have Hrge0 := Lib.hid erg0
          have Hrge1 := Lib.hid erg1
          have Hrge2 := Lib.hid erg2
          have Hrge3 := Lib.hid erg3
          have Hrge4 := Lib.hid erg4
          clear krg xrg strg crg hCrg hXrg erg0 erg1 erg2 erg3 erg4
          gi_wp2_with fail
          refine Reg.regionFIn (fun _ => trivial) rfl Reg.calls_round (by kernel_rfl) Erg Crg Xrg Hrgst.out (by kernel_rfl) (by kernel_rfl) (by kernel_rfl) Hrgc.out (fun Frg hFrg => ?_)
          simp only [Reg.frame, Reg.dsts, List.map_cons, List.map_nil, Mix.put_lit, Reg.put_none, List.set_cons_succ, List.set_cons_zero, Nat.zero_add, Nat.reduceAdd] at hFrg
          refine ⟨?_, ?_⟩
          · refine ⟨?_, ?_, ?_, ?_, ?_, trivial⟩
            · intro Lq wq xq hh
              simp only [hFrg]
              refine .inl ⟨rfl, ?_⟩
              unfold Reg.upon
              have hc : Crg Lq wq := hh.cls
              rw [HrghC.out] at hc
              have q0 := ((hc.1 (Mix.one_un (hh.notYet 4 (by kernel_rfl)))).cell (p := ⟨w.heap.size + 2, 0, none⟩) HJ.out.2.2.lt).trans (HJ.out.2.2.cell 0 _ rfl)
              clear hc
              have hk := Hrgk.out 0 Lq wq (by decide)  hh.cls
              have hx := Hrgx.out wq
              have he : Erg 0 (.int .i64 col) wq := by rw [Hrge0.out]
              have HK := Lib.hid (And.intro hk (And.intro he hx))
              clear hk hx he
              go_simp
              exact HK.out
            · intro Lq wq xq hh
              simp only [hFrg]
              refine .inl ⟨rfl, ?_⟩
              unfold Reg.upon
              have hk := Hrgk.out 1 Lq wq (by decide)  hh.cls
              have hx := Hrgx.out wq
              have he : Erg 1 (.slice (some ⟨b, off, none⟩) tn xc) wq := by rw [Hrge1.out]
              have HK := Lib.hid (And.intro hk (And.intro he hx))
              clear hk hx he
              go_simp
              exact HK.out
            · intro Lq wq xq hh
              have d1 : Erg 1 (xq 1) wq := hh.val 1 (by kernel_rfl) (by kernel_rfl)
              rw [Hrge1.out] at d1
              simp only [hFrg, d1]
              clear d1
              refine .inl ⟨rfl, ?_⟩
              unfold Reg.upon
              have hc : Crg Lq wq := hh.cls
              rw [HrghC.out] at hc
              go_simp
              refine (HCOL3.out wq (hc.1 (Mix.one_un (hh.notYet 4 (by kernel_rfl))))).mono ?_
              rintro e w2 ⟨rfl, hb⟩
              exact ⟨_, rfl, Hrgk.out 2 Lq w2 (by decide) (Hrgb.out Lq wq w2 hh.cls hb), (by rw [Hrge2.out]), Hrgxb.out wq w2 hb⟩
            · intro Lq wq xq hh
              have d0 : Erg 0 (xq 0) wq := hh.val 0 (by kernel_rfl) (by kernel_rfl)
              rw [Hrge0.out] at d0
              have d2 : Erg 2 (xq 2) wq := hh.val 2 (by kernel_rfl) (by kernel_rfl)
              rw [Hrge2.out] at d2
              simp only [hFrg, d0, d2]
              clear d0 d2
              refine .inl ⟨rfl, ?_⟩
              unfold Reg.upon
              have hk := Hrgk.out 3 Lq wq (by decide)  hh.cls
              have hx := Hrgx.out wq
              have he : Erg 3 (.int .i64 (col + wd)) wq := by rw [Hrge3.out]
              have HK := Lib.hid (And.intro hk (And.intro he hx))
              clear hk hx he
              go_simp
              exact HK.out
            · intro Lq wq xq hh
              have d3 : Erg 3 (xq 3) wq := hh.val 3 (by kernel_rfl) (by kernel_rfl)
              rw [Hrge3.out] at d3
              simp only [hFrg, d3]
              clear d3
              refine .inl ⟨rfl, ?_⟩
              unfold Reg.upon
              have hc : Crg Lq wq := hh.cls
              rw [HrghC.out] at hc
              have hbq := hc.1 hh.un
              have h4 := HJ.out.2.2.below hbq HJ.out.2.2.lt
              have c9 := h4.cell 0 _ rfl
              have f9 := h4.free 0
              have h5 := h4.set 0 (.int .i64 (col + wd))
              have u5 := (Upd.refl (fun b => b = w.heap.size + 2) wq).setCell (p := ⟨w.heap.size + 2, 0, none⟩) (.inl rfl) (.int .i64 (col + wd))
              have hF : Crg (Lq.setIfInBounds 4 true) (World.setCell wq ⟨w.heap.size + 2, 0, none⟩ (.int .i64 (col + wd))) ∧ Erg 4 undef (World.setCell wq ⟨w.heap.size + 2, 0, none⟩ (.int .i64 (col + wd))) ∧ Xrg wq (World.setCell wq ⟨w.heap.size + 2, 0, none⟩ (.int .i64 (col + wd))) := by
                refine ⟨?_, by rw [Hrge4.out], by rw [HrghX.out]; exact u5⟩
                rw [HrghC.out]
                exact ⟨fun e9 => (by rw [Mix.one_set (by rw [hh.size]; decide)] at e9; exact absurd e9 (by decide)), fun _ => ⟨h5, (Upd.ofBelow hbq).trans u5⟩⟩
              clear hc h5 u5 h4 hbq
              go_simp
              try exact hF
          intro xq wrg hcrg hvrg
          rw [HrghC.out] at hcrg
          simp only [hFrg]
          clear hvrg hFrg Hrgk Hrgx Hrgst Hrgc HrghC HrghX Hrgb Hrgxb Hrge0 Hrge1 Hrge2 Hrge3 Hrge4
          obtain ⟨q1, q2⟩ := hcrg.2 (by kernel_rfl)
          have hu4 := HU3.out.trans (q2.mono (fun b _ e => .inl (.inr e)))
          have HX1 := Lib.hid hu4
          have HX2 := Lib.hid (HEND.out wrg _ (q2.keep.has HJ.out.1 (by omega)) (q2.keep.has HJ.out.2.1 (by omega)) (by
            rw [HN.out]
            exact HO3.out.upd q2 (fun b hb e => by
              rcases hb with hb | hb
              · exact hb.elim
              · have := (HO3.out.lt b hb).1; have := HHI.out; omega)) (by rw [HN.out]; exact q1) (HLW.out.upd hu4 HLW.out.size (fun b e => by have := HHI.out; omega)) (Nat.le_trans HHI.out.1 hu4.size))
          clear q1 q2 hu4 hcrg
          gi_wp2
          exact ⟨HX1.out, HX2.out⟩
end Go.Proofs.Ytgkcobmbdpgceaa
