/- fitline.walk (22). -/
import Derived.Test.YtgkcobmbdpgceaaFlnA
import Derived.Test.YtgkcobmbdpgceaaMeaJ
import Derived.Test.YtgkcobmbdpgceaaMg1
import Derived.Lib.MinMax
namespace Go.Proofs.Ytgkcobmbdpgceaa
open Go.RowKit Go.ChangeShapes Go.WideShapes
attribute [local go_sem] Oper.semAt_some
theorem cu_held {xs : List Int} {lo hi : Nat} {x : Cu} {W : World} (h : XCu xs lo hi x W) (hn : xs.length ≤ 1000000) : HeldE (intE .i32) (fun b => lo ≤ b ∧ b < hi) W x.v (sliceL xs x.p) := by
  have h9 := h.held
  obtain ⟨g, hv, h1, h2, h3, h4, h5, h6⟩ := h
  have hl := sliceL_len xs x.p (Nat.le_of_lt h4) h5
  rw [hv] at h9 ⊢
  exact heldE_ints h9 (Nat.le_refl _) (by unfold maxLen; omega) (fun a e _ => by cases e; exact ⟨h1, h2⟩)
theorem Upd.more {C S : Zone} {a b c : World} (h : Upd C a b) (k : Upd S b c) (hs : ∀ x, S x → C x ∨ a.heap.size ≤ x) : Upd C a c :=
  ⟨k.os.trans h.os, k.tape.trans h.tape, k.output.trans h.output, Nat.le_trans h.size k.size, fun i hi hc => (k.block i (Nat.lt_of_lt_of_le hi h.size) (fun e => by rcases hs i e with e | e; exact hc e; omega)).trans (h.block i hi hc)⟩
def WalkI (w : World) (lo : Nat) (xs : List Int) (Wd : Int) (f : Value) (C : Zone) (J : Nat → List (List Int × Bool) → World → Prop) (hi : Nat) (pre : List Cu) (A : World) : Prop :=
  lo ≤ hi ∧ Has A w.heap.size [.int .i64 Wd] 3 ∧ Has A (w.heap.size + 1) [f] 70 ∧ Has A (w.heap.size + 2) [.int .i64 (tolds Wd (cluL xs pre)).2] 3 ∧ J hi (tolds Wd (cluL xs pre)).1 A ∧ Upd C w A ∧ hi ≤ A.heap.size ∧ pre.length ≤ 1000000
set_option maxRecDepth 100000 in
set_option maxHeartbeats 3000000 in
theorem fwalk_any (v : Value) (xs : List Int) (Wr : Int) (gf : Nat) (lb : Array Value) (w : World) (C : Zone) (J : Nat → List (List Int × Bool) → World → Prop) (hx : Held .i32 w v xs) (hn : xs.length ≤ 1000000) (hgf : ∀ args w', (callFunc gf args).run Try.prog w' = .ok (.enter gf args) w')
    (hC : ∀ b, C b → b < w.heap.size) (hJu : ∀ hi t A B, J hi t A → Upd (fun b => w.heap.size ≤ b ∧ b < hi) A B → J hi t B) (hJ0 : ∀ hi W1, Below w.heap.size w W1 → w.heap.size ≤ hi → hi ≤ W1.heap.size → J hi [] W1)
    (hstep : ∀ hi t W xv T next, w.heap.size ≤ hi → hi ≤ W.heap.size → J hi t W → HeldE (intE .i32) (fun b => w.heap.size ≤ b ∧ b < hi) W xv T → T.length ≤ 1000000 → t.length < 1000000 → Calls Try.prog gf (#[xv, .bool next] ++ lb) W (fun e W' => e = .returned (.tuple #[]) ∧ J hi (t ++ [(T, next)]) W' ∧ Upd (fun b => C b ∨ hi ≤ b) W W')) :
    Calls Try.prog 56 #[v, .int .i64 Wr, .func (.func gf) #[] lb] w (fun e w' => e = .returned (.tuple #[]) ∧ (∃ hi, w.heap.size ≤ hi ∧ J hi (tolds (clampW Wr) (cluA xs)).1 w') ∧ Upd C w w') := by
  obtain ⟨ao, ca, rfl⟩ := hx.len
  refine (callsIn_wide (n := 9)).1 ?_
  obtain ⟨W3, hW3⟩ : ∃ W3, W3 = ((w.alloc (.cells #[.int .i64 (min (max Wr 1) 1024)] 3)).alloc (.cells #[.func (.func gf) #[] lb] 70)).alloc (.cells #[.int .i64 0] 3) := ⟨_, rfl⟩
  have b3 : Below w.heap.size w W3 := by rw [hW3]; exact (((Below.refl _ _).alloc (Nat.le_refl _) _).alloc (by simp) _).alloc (by simp; omega) _
  have hs3 : W3.heap.size = w.heap.size + 3 := by rw [hW3]; simp
  have hh0 : Has W3 w.heap.size [.int .i64 (clampW Wr)] 3 := by rw [hW3]; exact ((Has.new w [.int .i64 (min (max Wr 1) 1024)] _).alloc _).alloc _
  have hh1 : Has W3 (w.heap.size + 1) [.func (.func gf) #[] lb] 70 := by
    have h := (Has.new (w.alloc (.cells #[.int .i64 (min (max Wr 1) 1024)] 3)) [.func (.func gf) #[] lb] 70).alloc (.cells #[.int .i64 0] 3)
    rw [World.size_alloc] at h
    rw [hW3]; exact h
  have hh2 : Has W3 (w.heap.size + 2) [.int .i64 0] 3 := by
    have h := Has.new ((w.alloc (.cells #[.int .i64 (min (max Wr 1) 1024)] 3)).alloc (.cells #[.func (.func gf) #[] lb] 70)) [.int .i64 0] 3
    rw [World.size_alloc, World.size_alloc] at h
    rw [hW3]; exact h
  have HG := Lib.hid (gall_any _ xs W3 (hx.below b3) hn)
  have HW3 := Lib.hid hW3
  have HB3 := Lib.hid b3
  have HS3 := Lib.hid hs3
  have HHB := Lib.hid (And.intro hh0 (And.intro hh1 hh2))
  have HC := Lib.hid hC
  have HJU := Lib.hid hJu
  have HJ0 := Lib.hid hJ0
  have HST := Lib.hid hstep
  have HGF := Lib.hid hgf
  clear hW3 b3 hs3 hh0 hh1 hh2 hC hJu hJ0 hstep hx hgf
  refine callsIn_of_wp_marks Try.func56 rfl trivial ?_ rfl
  simp only [Try.ntmps56, List.size_toArray, List.length_cons, List.length_nil, Nat.reduceAdd, Nat.reduceSub, Array.replicate_succ, Array.replicate_zero, List.push_toArray, List.append_toArray, List.nil_append, List.cons_append]
  gi_wp2_with fail
  rw [← HW3.out]
  first | refine ⟨trivial, (fun h => absurd h (by decide)), (callsIn_wide.2 HG.out).mono ?_⟩ | refine ⟨trivial, (callsIn_wide.2 HG.out).mono ?_⟩
  rintro e w1 ⟨B, vk, rfl, hB, hk, b1, hBl⟩
  have HLT := Lib.hid (show w.heap.size + 3 ≤ w1.heap.size from by have := b1.size; have := HS3.out; omega)
  have HA := Lib.hid (show Has w1 w.heap.size [.int .i64 (clampW Wr)] 3 ∧ Has w1 (w.heap.size + 1) [.func (.func gf) #[] lb] 70 ∧ Has w1 (w.heap.size + 2) [.int .i64 0] 3 from ⟨HHB.out.1.below b1 HHB.out.1.lt, HHB.out.2.1.below b1 HHB.out.2.1.lt, HHB.out.2.2.below b1 HHB.out.2.2.lt⟩)
  have HBB := Lib.hid (show Below w.heap.size w w1 from HB3.out.trans (b1.mono HB3.out.size))
  have h1 : 1 ≤ 9 := by decide
  have hwd := clampW_bd Wr
  obtain ⟨Wd, hWd⟩ : ∃ Wd, Wd = clampW Wr := ⟨_, rfl⟩
  rw [← hWd] at HA hwd
  have HWE := Lib.hid hWd
  have HWD := Lib.hid hwd
  clear hWd hwd HHB HG
  gi_wp2_with fail
  refine wpIn_rangeO rfl h1 (gf := 64) (lb := #[.pointer (some ⟨B, 0, none⟩)]) rfl trivial (enters_of Try.func64 (by kernel_rfl) rfl) (gall1_in B vk xs w1 hB hk hn _ (fun b => C b ∨ b = w.heap.size + 2)) (Below.refl _ _) (fun _ => rfl) (fun b e => by have := HLT.out; rcases e with e | e; have := HC.out b e; omega; omega)
    (WalkI w (w1.heap.size + 2) xs Wd (.func (.func gf) #[] lb) C J) (fun _ _ _ _ => False) ?hI (fun _ _ _ _ _ h _ => h) ?h0 (fun x => { tmps := #[.slice ao xs.length ca, .int .i64 Wr, .func (.func gf) #[] lb, undef, .pointer (some ⟨w.heap.size, 0, none⟩), .pointer (some ⟨w.heap.size + 1, 0, none⟩), .pointer (some ⟨w.heap.size + 1 + 1, 0, none⟩), undef, x.v, undef, undef, .int .i64 Wr, .int .i64 (max Wr 1), .int .i64 (min (max Wr 1) 1024), .slice ao xs.length ca, .func (.func 64) #[] #[.pointer (some ⟨B, 0, none⟩)], .int .i64 (x.p.1 : Int), x.v, undef, undef, undef, undef, undef, undef, undef, undef, undef, undef, undef, undef, undef, undef, undef, undef, undef, undef, undef, undef, undef], defers := [] }) ?assign ?body ?done ?stop
  case hI =>
    rintro hi pre A A' ⟨hlo, h0, h1, h2, h3, h4, h5, h6⟩ hu
    have hl := HLT.out
    exact ⟨hlo, hu.keep.has h0 (fun e => by omega), hu.keep.has h1 (fun e => by omega), hu.keep.has h2 (fun e => by omega), HJU.out hi _ A A' h3 (hu.mono fun b _ e => by omega), h4.more hu (fun b e => .inr (by omega)), Nat.le_trans h5 hu.size, h6⟩
  case h0 =>
    intro hi W1 hb h1 h2
    have hl := HLT.out
    exact ⟨h1, HA.out.1.below hb HA.out.1.lt, HA.out.2.1.below hb HA.out.2.1.lt, HA.out.2.2.below hb HA.out.2.2.lt, HJ0.out hi W1 (HBB.out.trans (hb.mono HBB.out.size)) (by omega) h2, Upd.ofBelow (HBB.out.trans (hb.mono HBB.out.size)), h2, Nat.zero_le _⟩
  case assign =>
    intro l x W K hK
    unfold encCu
    gi_wp2
    exact hK
  case stop =>
    intro hi c pre W _ h _
    exact h.elim
  case done =>
    rintro hi ys W hS ⟨hlo, h0, h1, h2, h3, h4, h5, h6⟩ hK
    rw [cluL_all hS] at h3
    have hu := upd_putObj (S := fun b => b = w1.heap.size) W w1.heap.size (.deferred none) rfl
    have HL := Lib.hid HLT.out
    have HE := Lib.hid (h4.more hu (fun b e => .inr (by have := HL.out; omega)))
    have HJ := Lib.hid (HJU.out hi _ W _ h3 (hu.mono fun b _ e => by have := HL.out; omega))
    have HHI := Lib.hid (show w.heap.size ≤ hi from by have := HL.out; omega)
    clear h0 h1 h2 h3 h4
    gi_wp2
    refine ⟨by simp, .inl ⟨_, _, rfl, run_takeDeferred hK, ?_⟩⟩
    exact ⟨.tuple #[], by simp [results, Try.results56, go_sem], rfl, ⟨hi, HHI.out, by rw [← HWE.out]; exact HJ.out⟩, HE.out⟩
  case body =>
    rintro l hi pre x W hlo hhi ⟨_, h0, h1, h2, hJ, hU, h4, h5⟩ ⟨Wx, hx, hux⟩ hR
    have hl := HLT.out
    have hx := hx.upd hux (fun b h1 h2 => by omega)
    have hxe := cu_held hx hn
    have hxp := cu_pos hx
    have hpl := pre_len hR
    obtain ⟨hk1, hk2, _⟩ := next_cu hR
    have hone := cluA_one xs pre.length hk1
    rw [(cluA_at xs pre.length hk1).1, ← (show x.p = (clS xs).getD pre.length (0, 0) from by rw [hk2, clS_at xs _ hk1])] at hone
    have hsn : cluL xs (pre ++ [x]) = cluL xs pre ++ [sliceL xs x.p] := by simp [cluL]
    have hbd := tolds_bd Wd HWD.out.1 (cluL xs pre)
    have hcl : (cluL xs pre).length = pre.length := by simp [cluL]
    have hts := tolds_snoc Wd (cluL xs pre) (sliceL xs x.p)
    rw [← hsn] at hts
    have HPL := Lib.hid (show (pre ++ [x]).length ≤ 1000000 from by rw [List.length_append, List.length_singleton]; omega)
    obtain ⟨NX, hNX⟩ : ∃ NX, NX = tolds Wd (cluL xs (pre ++ [x])) := ⟨_, rfl⟩
    rw [← hNX] at hts
    have HNX := Lib.hid hNX
    obtain ⟨⟨t, u⟩, hS⟩ : ∃ S, S = tolds Wd (cluL xs pre) := ⟨_, rfl⟩
    rw [← hS] at h2 hJ hbd hts
    simp only at h2 hJ hbd
    obtain ⟨T, hT⟩ : ∃ T, T = sliceL xs x.p := ⟨_, rfl⟩
    rw [← hT] at hxe hxp hone hts
    obtain ⟨xv, hxv⟩ : ∃ xv, xv = x.v := ⟨_, rfl⟩
    rw [← hxv] at hxe ⊢
    obtain ⟨k0, hk0⟩ : ∃ k0 : Int, k0 = (x.p.1 : Int) := ⟨_, rfl⟩
    rw [← hk0]
    have HXE := Lib.hid hxe
    obtain ⟨xa, xc, rfl⟩ := hxe.len
    obtain ⟨b, off, rfl, hb, c0⟩ := hxe.ints.spots 0 hxp.1
    rw [Nat.add_zero] at c0
    have HTS := Lib.hid hts
    have htn : t.length < 1000000 := by omega
    have HTN := Lib.hid htn
    have HTL := Lib.hid (show 0 < T.length ∧ T.length ≤ 1000000 by omega)
    have HSL := Lib.hid (fun w' => bsil_any (T.getD 0 0) w')
    have hwb := wdC_bd T
    have HCOL := Lib.hid (show ∀ w', Below W.heap.size W w' → Calls Try.prog 16 #[.slice (some ⟨b, off, none⟩) T.length xc] w' (Gives w' (.int .i64 (wdC T))) from fun w' h => by rw [← hone]; exact mcols_any _ T w' (HXE.out.ints.below h) (by have := HTL.out; omega))
    have HHI := Lib.hid (show hi ≤ W.heap.size ∧ w1.heap.size + 2 ≤ hi ∧ w.heap.size + 3 ≤ hi from ⟨hhi, hlo, by omega⟩)
    have HH := Lib.hid (And.intro h0 (And.intro h1 h2))
    have HJJ := Lib.hid hJ
    have HUU := Lib.hid hU
    have HUB := Lib.hid hbd
    have HEND := Lib.hid (show ∀ W', Has W' w.heap.size [.int .i64 Wd] 3 → Has W' (w.heap.size + 1) [.func (.func gf) #[] lb] 70 → Has W' (w.heap.size + 2) [.int .i64 NX.2] 3 → J hi NX.1 W' → Upd C w W' → hi ≤ W'.heap.size → WalkI w (w1.heap.size + 2) xs Wd (.func (.func gf) #[] lb) C J hi (pre ++ [x]) W' from fun W' a1 a2 a3 a4 a5 a6 => by unfold WalkI; rw [← HNX.out]; exact ⟨HHI.out.2.1, a1, a2, a3, a4, a5, a6, HPL.out⟩)
    obtain ⟨tn, htn2⟩ : ∃ tn, tn = T.length := ⟨_, rfl⟩
    rw [← htn2] at HCOL HXE hxp ⊢
    have htp : 0 < tn := hxp.1
    obtain ⟨ch, hch⟩ : ∃ ch, ch = T.getD 0 0 := ⟨_, rfl⟩
    rw [← hch] at c0 HSL hwb
    have HCH := Lib.hid hch
    clear hl hx hux hxe hxp hpl hk1 hk2 hone hsn hbd hcl hts hNX hS hT hxv hk0 hb htn hR h0 h1 h2 hJ hU h4 h5 htn2 hch
    rcases hwb with ⟨hs, hw0⟩ | ⟨hs, hw1, hw2⟩
    · rw [hs] at HSL
      have hN : NX = (t, u) := by rw [HTS.out]; unfold tst; rw [if_pos (by rw [← HCH.out]; exact hs)]
      have HN := Lib.hid hN
      clear hs hw0 hN
      gi_wp2_with fail
      first | refine ⟨trivial, (fun h => absurd h (by decide)), (CallsIn.inRound l (callsIn_wide.2 (HSL.out _))).mono ?_⟩ | refine ⟨trivial, (CallsIn.inRound l (callsIn_wide.2 (HSL.out _))).mono ?_⟩
      rintro e w2 ⟨rfl, b2⟩
      have HF1 := Lib.hid (show Upd (fun b => (C b ∨ b = w.heap.size + 2) ∨ hi ≤ b) W w2 from Upd.ofBelow b2)
      have HF2 := Lib.hid (HEND.out w2 (HH.out.1.below b2 HH.out.1.lt) (HH.out.2.1.below b2 HH.out.2.1.lt) (by rw [HN.out]; exact HH.out.2.2.below b2 HH.out.2.2.lt) (by rw [HN.out]; exact HJU.out hi t W w2 HJJ.out (Upd.ofBelow b2)) (HUU.out.trans (Upd.ofBelow b2)) (Nat.le_trans HHI.out.1 b2.size))
      clear b2
      gi_wp2
      exact ⟨HF1.out, HF2.out⟩
    · rw [hs] at HSL
      obtain ⟨n, hn0⟩ : ∃ n, n = min (wdC T) Wd := ⟨_, rfl⟩
      have hnb : 1 ≤ n ∧ n ≤ Wd := by have := HWD.out; omega
      have hN : NX = (t ++ [(T, decide (Wd - u < n))], (if Wd - u < n then 0 else u) + n) := by rw [HTS.out]; unfold tst; rw [if_neg (by rw [← HCH.out, hs]; decide), ← hn0]
      have HN := Lib.hid hN
      have HN0 := Lib.hid hn0
      have hwrap : IntKind.i64.wrap (Wd - u) = Wd - u := by rw [IntKind.wrap_i64]; have := HWD.out; have := HUB.out; omega
      clear hs hw1 hw2 hN hn0
      gi_wp2_with fail
      first | refine ⟨trivial, (fun h => absurd h (by decide)), (CallsIn.inRound l (callsIn_wide.2 (HSL.out _))).mono ?_⟩ | refine ⟨trivial, (CallsIn.inRound l (callsIn_wide.2 (HSL.out _))).mono ?_⟩
      rintro e w2 ⟨rfl, b2⟩
      have HB2 := Lib.hid b2
      have HK := Lib.hid (show Has w2 w.heap.size [.int .i64 Wd] 3 ∧ Has w2 (w.heap.size + 1) [.func (.func gf) #[] lb] 70 ∧ Has w2 (w.heap.size + 2) [.int .i64 u] 3 from ⟨HH.out.1.below b2 HH.out.1.lt, HH.out.2.1.below b2 HH.out.2.1.lt, HH.out.2.2.below b2 HH.out.2.2.lt⟩)
      clear b2 c0
      gi_wp2
      obtain ⟨Erg, hErg⟩ : ∃ EE : Nat → Value → World → Prop, EE = fun jj xx ww => match jj with
          | 0 => xx = .slice (some ⟨b, off, none⟩) tn xc
          | 1 => xx = .int .i64 (wdC T)
          | 2 => xx = .int .i64 Wd
          | 3 => xx = .int .i64 (min (wdC T) Wd)
          | 4 => xx = .int .i64 (min (wdC T) Wd)
          | _ => True := ⟨_, rfl⟩
      have erg0 : ∀ xx ww, Erg 0 xx ww = (xx = .slice (some ⟨b, off, none⟩) tn xc) := fun xx ww => congrFun (congrFun (congrFun hErg 0) xx) ww
      have erg1 : ∀ xx ww, Erg 1 xx ww = (xx = .int .i64 (wdC T)) := fun xx ww => congrFun (congrFun (congrFun hErg 1) xx) ww
      have erg2 : ∀ xx ww, Erg 2 xx ww = (xx = .int .i64 Wd) := fun xx ww => congrFun (congrFun (congrFun hErg 2) xx) ww
      have erg3 : ∀ xx ww, Erg 3 xx ww = (xx = .int .i64 (min (wdC T) Wd)) := fun xx ww => congrFun (congrFun (congrFun hErg 3) xx) ww
      have erg4 : ∀ xx ww, Erg 4 xx ww = (xx = .int .i64 (min (wdC T) Wd)) := fun xx ww => congrFun (congrFun (congrFun hErg 4) xx) ww
      obtain ⟨Crg, hCrg⟩ : ∃ CC : Array Bool → World → Prop, CC = fun L8 w' => Below w2.heap.size w2 w' := ⟨_, rfl⟩
      have krg : ∀ i L w,  Crg L w → Crg (L.setIfInBounds i true) w := by
        intro i L w  h
        rw [hCrg] at h ⊢
        exact h
      obtain ⟨Xrg, hXrg⟩ : ∃ XX : World → World → Prop, XX = fun x y => True := ⟨_, rfl⟩
      have xrg : ∀ w, Xrg w w := fun w => by rw [hXrg]; exact trivial
      have strg : ∀ j x w w1, Xrg w w1 → Erg j x w → Erg j x w1 := by
        intro j x w w1 hx h
        rw [hXrg] at hx
        match j with
        | 0 => rw [erg0] at h ⊢; exact h
        | 1 => rw [erg1] at h ⊢; exact h
        | 2 => rw [erg2] at h ⊢; exact h
        | 3 => rw [erg3] at h ⊢; exact h
        | 4 => rw [erg4] at h ⊢; exact h
        | j + 5 => rw [hErg]; trivial
      have crg : Crg (Array.replicate 5 false) w2.drew := by rw [hCrg]; exact (Below.refl _ _).drew
      have brg : ∀ L w w1, Crg L w → Below w.heap.size w w1 → Crg L w1 := by
        intro L w w1 h hb
        rw [hCrg] at h ⊢
        exact h.trans (hb.mono h.size)
      have xbrg : ∀ w w1, Below w.heap.size w w1 → Xrg w w1 := by
        intro w w1 hb
        rw [hXrg]
        trivial
      have Hrgb := Lib.hid brg
      have Hrgxb := Lib.hid xbrg
      clear brg xbrg
      clear hErg
      have Hrgk := Lib.hid krg
      have Hrgx := Lib.hid xrg
      have Hrgst := Lib.hid strg
      have Hrgc := Lib.hid crg
      have HrghC := Lib.hid hCrg
      have HrghX := Lib.hid hXrg
      have Hrge0 := Lib.hid erg0
      have Hrge1 := Lib.hid erg1
      have Hrge2 := Lib.hid erg2
      have Hrge3 := Lib.hid erg3
      have Hrge4 := Lib.hid erg4
      clear krg xrg strg crg hCrg hXrg erg0 erg1 erg2 erg3 erg4
      gi_wp2_with fail
      refine Reg.regionFIn (fun _ => trivial) rfl Reg.calls_round (by kernel_rfl) Erg Crg Xrg Hrgst.out (by kernel_rfl) (by kernel_rfl) (by kernel_rfl) Hrgc.out (fun Frg hFrg => ?_)
      simp only [Reg.frame, Reg.dsts, List.map_cons, List.map_nil, Mix.put_lit, List.set_cons_succ, List.set_cons_zero, Nat.zero_add, Nat.reduceAdd] at hFrg
      refine ⟨?_, ?_⟩
      · refine ⟨?_, ?_, ?_, ?_, ?_, trivial⟩
        · intro Lq wq xq hh
          simp only [hFrg]
          refine .inl ⟨rfl, ?_⟩
          unfold Reg.upon
          have hk := Hrgk.out 0 Lq wq  hh.cls
          have hx := Hrgx.out wq
          have he : Erg 0 (.slice (some ⟨b, off, none⟩) tn xc) wq := by rw [Hrge0.out]
          have HK := Lib.hid (And.intro hk (And.intro he hx))
          clear hk hx he
          go_simp
          exact HK.out
        · intro Lq wq xq hh
          have d0 : Erg 0 (xq 0) wq := hh.val 0 (by kernel_rfl) (by kernel_rfl)
          rw [Hrge0.out] at d0
          simp only [hFrg, d0]
          clear d0
          refine .inl ⟨rfl, ?_⟩
          unfold Reg.upon
          have hc : Crg Lq wq := hh.cls
          rw [HrghC.out] at hc
          go_simp
          refine (HCOL.out wq (HB2.out.trans (hc.mono HB2.out.size))).mono ?_
          rintro e w5 ⟨rfl, hb⟩
          exact ⟨_, rfl, Hrgk.out 1 Lq w5 (Hrgb.out Lq wq w5 hh.cls hb), (by rw [Hrge1.out]), Hrgxb.out wq w5 hb⟩
        · intro Lq wq xq hh
          simp only [hFrg]
          refine .inl ⟨rfl, ?_⟩
          unfold Reg.upon
          have hc : Crg Lq wq := hh.cls
          rw [HrghC.out] at hc
          have q0 := (HK.out.1.below hc HK.out.1.lt).cell 0 _ rfl
          clear hc
          have hk := Hrgk.out 2 Lq wq  hh.cls
          have hx := Hrgx.out wq
          have he : Erg 2 (.int .i64 Wd) wq := by rw [Hrge2.out]
          have HK := Lib.hid (And.intro hk (And.intro he hx))
          clear hk hx he
          go_simp
          exact HK.out
        · intro Lq wq xq hh
          have d1 : Erg 1 (xq 1) wq := hh.val 1 (by kernel_rfl) (by kernel_rfl)
          rw [Hrge1.out] at d1
          have d2 : Erg 2 (xq 2) wq := hh.val 2 (by kernel_rfl) (by kernel_rfl)
          rw [Hrge2.out] at d2
          simp only [hFrg, d1, d2]
          clear d1 d2
          refine .inl ⟨rfl, ?_⟩
          unfold Reg.upon
          have hk := Hrgk.out 3 Lq wq  hh.cls
          have hx := Hrgx.out wq
          have he : Erg 3 (.int .i64 (min (wdC T) Wd)) wq := by rw [Hrge3.out]
          have HK := Lib.hid (And.intro hk (And.intro he hx))
          clear hk hx he
          go_simp
          exact HK.out
        · intro Lq wq xq hh
          have d3 : Erg 3 (xq 3) wq := hh.val 3 (by kernel_rfl) (by kernel_rfl)
          rw [Hrge3.out] at d3
          simp only [hFrg, d3]
          clear d3
          refine .inl ⟨rfl, ?_⟩
          unfold Reg.upon
          have hk := Hrgk.out 4 Lq wq  hh.cls
          have hx := Hrgx.out wq
          have he : Erg 4 (.int .i64 (min (wdC T) Wd)) wq := by rw [Hrge4.out]
          have HK := Lib.hid (And.intro hk (And.intro he hx))
          clear hk hx he
          go_simp
          exact HK.out
      intro xq wrg hcrg hvrg
      rw [HrghC.out] at hcrg
      simp only [hFrg]
      have vrg4 : Erg 4 (xq 4) wrg := hvrg 4 (by decide)
      rw [Hrge4.out] at vrg4
      rw [vrg4]
      clear hvrg hFrg Hrgk Hrgx Hrgst Hrgc HrghC HrghX Hrgb Hrgxb Hrge0 Hrge1 Hrge2 Hrge3 Hrge4
      rw [← HN0.out]
      have hwu := HK.out.2.2.below hcrg HK.out.2.2.lt
      have hwf := HK.out.2.1.below hcrg HK.out.2.1.lt
      have hww := HK.out.1.below hcrg HK.out.1.lt
      have cu := hwu.cell 0 _ rfl
      have cw := hww.cell 0 _ rfl
      have fu := hwu.free 0
      have HU0 := Lib.hid hwu
      have HF0 := Lib.hid hwf
      have HW0 := Lib.hid hww
      have HBR := Lib.hid (HB2.out.trans (hcrg.mono HB2.out.size))
      clear hwu hwf hww hcrg vrg4
      have cf := HF0.out.cell 0 _ rfl
      have hp2 : w.heap.size + 1 + 1 = w.heap.size + 2 := rfl
      by_cases hgt : Wd - u < n
      · have hdg : decide (Wd - u < n) = true := by simpa using hgt
        rw [hdg, if_pos hgt] at HN
        have hwn : IntKind.i64.wrap n = n := by rw [IntKind.wrap_i64]; have := HWD.out; omega
        obtain ⟨w5, hw5⟩ : ∃ w5, w5 = (wrg.setCell ⟨w.heap.size + 1 + 1, 0, none⟩ (.int .i64 0)).setCell ⟨w.heap.size + 1 + 1, 0, none⟩ (.int .i64 n) := ⟨_, rfl⟩
        have hs1 := (HU0.out.set 0 (.int .i64 0)).set 0 (.int .i64 n)
        have hu5 := ((Upd.refl (fun b => b = w.heap.size + 2) wrg).setCell (p := ⟨w.heap.size + 2, 0, none⟩) (.inl rfl) (.int .i64 0)).setCell (p := ⟨w.heap.size + 2, 0, none⟩) (.inl rfl) (.int .i64 n)
        rw [← hp2, ← hw5] at hs1
        rw [← hw5] at hu5
        have HS5 := Lib.hid (show Has w5 (w.heap.size + 2) [.int .i64 n] 3 from hs1)
        have HU5 := Lib.hid hu5
        have HW5 := Lib.hid hw5
        have hc := HST.out hi t w5 (.slice (some ⟨b, off, none⟩) tn xc) T true (by have := HHI.out; omega) (Nat.le_trans HHI.out.1 (Nat.le_trans HBR.out.size hu5.size)) (HJU.out hi t wrg w5 (HJU.out hi t W wrg HJJ.out (Upd.ofBelow HBR.out)) (hu5.mono fun b _ e => by have := HHI.out; omega)) (((HXE.out.below HBR.out).upd hu5 (fun b hz e => by have := HLT.out; omega)).zoned (fun b _ hz => ⟨by have := HLT.out; omega, hz.2⟩)) HTL.out.2 HTN.out
        clear hgt hs1 hu5 hw5
        gi_wp2_with fail
        rw [← HW5.out]
        refine ⟨trivial, ?_⟩
        rw [HGF.out, Oper.uponIn_enter]
        refine ⟨fun _ => by decide, (CallsIn.inRound l (callsIn_wide.2 hc)).mono ?_⟩
        rintro e w6 ⟨rfl, hj6, hu6⟩
        have hl := HLT.out
        have hi9 := HHI.out
        have hCC := HC.out
        have hz6 : ∀ b, b = w.heap.size ∨ b = w.heap.size + 1 ∨ b = w.heap.size + 2 → ¬ (C b ∨ hi ≤ b) := fun b hb e => by rcases e with e | e; have := hCC b e; omega; omega
        have HF1 := Lib.hid (show Upd (fun b => (C b ∨ b = w.heap.size + 2) ∨ hi ≤ b) W w6 from ((Upd.ofBelow HBR.out).trans (HU5.out.mono (fun b _ e => .inl (.inr e)))).trans (hu6.mono (fun b _ e => by rcases e with e | e; exact .inl (.inl e); exact .inr e)))
        have HF2 := Lib.hid (HEND.out w6 (hu6.keep.has (HU5.out.keep.has HW0.out (by omega)) (hz6 _ (.inl rfl))) (hu6.keep.has (HU5.out.keep.has HF0.out (by omega)) (hz6 _ (.inr (.inl rfl)))) (by rw [HN.out, Int.zero_add]; exact hu6.keep.has HS5.out (hz6 _ (.inr (.inr rfl)))) (by rw [HN.out]; exact hj6) (((HUU.out.trans (Upd.ofBelow HBR.out)).more HU5.out (fun b e => .inr (by omega))).more hu6 (fun b e => by rcases e with e | e; exact .inl e; exact .inr (by omega))) (Nat.le_trans hi9.1 (Nat.le_trans HBR.out.size (Nat.le_trans HU5.out.size hu6.size))))
        clear hj6 hu6 hc hl hi9 hCC hz6
        gi_wp2
        exact ⟨HF1.out, HF2.out⟩
      · have hdg : decide (Wd - u < n) = false := by simpa using hgt
        rw [hdg, if_neg hgt] at HN
        have hwn : IntKind.i64.wrap (u + n) = u + n := by rw [IntKind.wrap_i64]; have := HWD.out; have := HUB.out; omega
        obtain ⟨w5, hw5⟩ : ∃ w5, w5 = wrg.setCell ⟨w.heap.size + 1 + 1, 0, none⟩ (.int .i64 (u + n)) := ⟨_, rfl⟩
        have hs1 := HU0.out.set 0 (.int .i64 (u + n))
        have hu5 := (Upd.refl (fun b => b = w.heap.size + 2) wrg).setCell (p := ⟨w.heap.size + 2, 0, none⟩) (.inl rfl) (.int .i64 (u + n))
        rw [← hp2, ← hw5] at hs1
        rw [← hw5] at hu5
        have HS5 := Lib.hid (show Has w5 (w.heap.size + 2) [.int .i64 (u + n)] 3 from hs1)
        have HU5 := Lib.hid hu5
        have HW5 := Lib.hid hw5
        have hc := HST.out hi t w5 (.slice (some ⟨b, off, none⟩) tn xc) T false (by have := HHI.out; omega) (Nat.le_trans HHI.out.1 (Nat.le_trans HBR.out.size hu5.size)) (HJU.out hi t wrg w5 (HJU.out hi t W wrg HJJ.out (Upd.ofBelow HBR.out)) (hu5.mono fun b _ e => by have := HHI.out; omega)) (((HXE.out.below HBR.out).upd hu5 (fun b hz e => by have := HLT.out; omega)).zoned (fun b _ hz => ⟨by have := HLT.out; omega, hz.2⟩)) HTL.out.2 HTN.out
        clear hgt hs1 hu5 hw5
        gi_wp2_with fail
        rw [← HW5.out]
        refine ⟨trivial, ?_⟩
        rw [HGF.out, Oper.uponIn_enter]
        refine ⟨fun _ => by decide, (CallsIn.inRound l (callsIn_wide.2 hc)).mono ?_⟩
        rintro e w6 ⟨rfl, hj6, hu6⟩
        have hl := HLT.out
        have hi9 := HHI.out
        have hCC := HC.out
        have hz6 : ∀ b, b = w.heap.size ∨ b = w.heap.size + 1 ∨ b = w.heap.size + 2 → ¬ (C b ∨ hi ≤ b) := fun b hb e => by rcases e with e | e; have := hCC b e; omega; omega
        have HF1 := Lib.hid (show Upd (fun b => (C b ∨ b = w.heap.size + 2) ∨ hi ≤ b) W w6 from ((Upd.ofBelow HBR.out).trans (HU5.out.mono (fun b _ e => .inl (.inr e)))).trans (hu6.mono (fun b _ e => by rcases e with e | e; exact .inl (.inl e); exact .inr e)))
        have HF2 := Lib.hid (HEND.out w6 (hu6.keep.has (HU5.out.keep.has HW0.out (by omega)) (hz6 _ (.inl rfl))) (hu6.keep.has (HU5.out.keep.has HF0.out (by omega)) (hz6 _ (.inr (.inl rfl)))) (by rw [HN.out]; exact hu6.keep.has HS5.out (hz6 _ (.inr (.inr rfl)))) (by rw [HN.out]; exact hj6) (((HUU.out.trans (Upd.ofBelow HBR.out)).more HU5.out (fun b e => .inr (by omega))).more hu6 (fun b e => by rcases e with e | e; exact .inl e; exact .inr (by omega))) (Nat.le_trans hi9.1 (Nat.le_trans HBR.out.size (Nat.le_trans HU5.out.size hu6.size))))
        clear hj6 hu6 hc hl hi9 hCC hz6
        gi_wp2
        exact ⟨HF1.out, HF2.out⟩
end Go.Proofs.Ytgkcobmbdpgceaa
